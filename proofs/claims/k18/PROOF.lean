import PyProof.Rows.All
import Wide.All
import OpenK.AllK
import Wide.FinOn
import HandS.ForMost
import HandS.Gcd
import HandS.Wide
import HandS.IsInst
import HandS.Steps
import HandS.SortKw
import HandS.Style
import HandS.Star
import HandS.SetFor
import HandS.TupAny
import PyProof.SetRoads
import PyProof.Rows.SetFrom
import KE.DataMinMax
import HandS.Evl
import HandS.Walk
import HandS.ForExc
import HandS.ExcIs
import HandS.RaiseMore
import HandS.FStr
import KE.GoesEnum
import PyProof.Rows.MatchSeqLen
import Flt.RightSqrt
import PySem.Challenge.RW_brimful_k18_answers_out_of_full_memory
set_option Elab.async false
set_option linter.all false
set_option maxRecDepth 100000
set_option maxHeartbeats 4000000

namespace Br
open PySem PySem.Spec PyProof.Rows L2

/-! ### readings with names -/
def rLen (K : PySem.W.Frag) : List V → Hp → VK → Prop := fun xs H Q => ∃ p ys, xs = [.ref p] ∧ (SqL K H p ys ∨ SqT K H p ys) ∧ Q (.int ys.length) H
theorem cr_len {X : Cx} : CallR X (.builtin "len") (rLen X.K) := call_len_seq
def rInt1 : List V → Hp → VK → Prop := fun xs H Q => (∃ i, xs = [.int i] ∧ Q (.int i) H) ∨ ∃ k, xs = [.bl k] ∧ Q (.int (if k then 1 else 0)) H
theorem cr_int1 {X : Cx} : CallR X (.type "int") rInt1 := call_int1
def rMin2 : List V → Hp → VK → Prop := fun xs H Q => ∃ i j, xs = [.int i, .int j] ∧ Q (.int (if j < i then j else i)) H
theorem cr_min2 {X : Cx} (hc : X.calm = true) : CallR X (.builtin "min") rMin2 := call_min2 hc
def rMax2 : List V → Hp → VK → Prop := fun xs H Q => ∃ i j, xs = [.int i, .int j] ∧ Q (.int (if j > i then j else i)) H
theorem cr_max2 {X : Cx} (hc : X.calm = true) : CallR X (.builtin "max") rMax2 := call_max2 hc
def rListOf (K : PySem.W.Frag) : List V → Hp → VK → Prop := fun xs H Q => ∃ p ys, xs = [.ref p] ∧ (SqL K H p ys ∨ SqT K H p ys) ∧ ∀ l, H l = none → Q (.ref l) (upd H l (.lst ys))
theorem cr_list_of {X : Cx} : CallR X (.type "list") (rListOf X.K) := call_list_of
def rTupOf (K : PySem.W.Frag) : List V → Hp → VK → Prop := fun xs H Q => ∃ p ys, xs = [.ref p] ∧ ((SqL K H p ys ∧ ∀ l, H l = none → Q (.ref l) (upd H l (.tup ys))) ∨ (SqT K H p ys ∧ Q (.ref p) H))
theorem cr_tup_of {X : Cx} : CallR X (.type "tuple") (rTupOf X.K) := call_tuple_of
def cr_isqrt_r : List V → Hp → VK → Prop := fun vs H Q => ∃ i : Int, vs = [.int i] ∧ 0 ≤ i ∧ i < 2 ^ 64 ∧ Q (.int ((Float64.isqrt i.toNat : Nat) : Int)) H
/-! ### steps of a reading -/
section
variable {σ : L2.St} {H : Hp} {D : Ends} {Q : VK} {QT : Bool → Hp → Prop} {QA : List V → Hp → Prop} {K : PySem.W.Frag}
theorem x_seq {a u : TS} (h : a ⟨u D, D.rt, D.bk, D.ct⟩ σ H) : tSeq a u D σ H := h
theorem x_cut {a u : TS} (M : L2.St → Hp → Prop) (h : a ⟨M, D.rt, D.bk, D.ct⟩ σ H) (k : ∀ σ' H', M σ' H' → u D σ' H') : Evl.tCut a u D σ H := ⟨M, h, k⟩
theorem x_next (h : D.nx σ H) : tNext D σ H := h
theorem x_set {te : TE} {i : Nat} (h : te σ H fun x H1 => D.nx (σ.set i (some x)) H1) : tAsg te (gName i) D σ H := h
theorem x_asg {te : TE} {g : TG} (h : te σ H fun x H1 => g x σ H1 D.nx) : tAsg te g D σ H := h
/-- what a field's reading asks of the object -/
def FldR (K : PySem.W.Frag) (f : Str) (x : V) (H : Hp) (Q : VK) : Prop := ∃ a C dx fs v, x = .ref a ∧ H a = some (.ins C dx fs) ∧ Cls K C ∧ NoAttr K C f ∧ fs.lookup f = some v ∧ Q v H
theorem x_fld {ta : TE} {f : Str} (h : ta σ H fun x H1 => FldR K f x H1 Q) : tFld K ta f σ H Q := h
theorem x_fldR {a C dx : Addr} {fs : List (Str × V)} {f : Str} {v : V} (h : H a = some (.ins C dx fs)) (c : Cls K C) (n : NoAttr K C f) (l : fs.lookup f = some v) (q : Q v H) : FldR K f (.ref a) H Q := ⟨a, C, dx, fs, v, rfl, h, c, n, l, q⟩
/-- what storing a field asks -/
def FldS (K : PySem.W.Frag) (f : Str) (y x : V) (H : Hp) (R : Hp → Prop) : Prop := ∃ a C dx fs, x = .ref a ∧ H a = some (.ins C dx fs) ∧ Cls K C ∧ NoAttr K C f ∧ fs.length < 1000 ∧ R (upd H a (.ins C dx (putF f y fs)))
theorem x_fldS {ta tv : TE} {f : Str} (h : tv σ H fun y H1 => ta σ H1 fun x H2 => FldS K f y x H2 fun H3 => D.nx σ H3) : sFld K ta tv f D σ H := h
theorem x_gName {i : Nat} {v : V} {R : L2.St → Hp → Prop} (h : R (σ.set i (some v)) H) : gName i v σ H R := h
theorem x_par {i j : Nat} {ta tb : TE} (h : ta σ H fun x H1 => tb σ H1 fun y H2 => D.nx ((σ.set i (some x)).set j (some y)) H2) : tPar i j (tCons ta (tCons tb tNil)) D σ H :=
  (congrArg (fun (f : (V → Hp → Prop)) => ta σ H f) (funext fun x => funext fun H1 => congrArg (fun (f : (V → Hp → Prop)) => tb σ H1 f) (funext fun y => funext fun H2 => propext
    ⟨fun h => ⟨x, y, rfl, h⟩, fun ⟨v, w, e, h⟩ => by cases e; exact h⟩))).mp h
theorem x_ret {te : TE} (h : te σ H D.rt) : tRet te D σ H := h
theorem x_retN (h : D.rt .non H) : tRetN D σ H := h
theorem x_drop {te : TE} (h : te σ H fun _ H1 => D.nx σ H1) : tDrop te D σ H := h
theorem x_if {c : TT} {t u : TS} (h : c σ H fun b H1 => if b = true then t D σ H1 else u D σ H1) : tIfS c t u D σ H := h
theorem x_brk (h : D.bk σ H) : tBreak D σ H := h
theorem x_cont (h : D.ct σ H) : tCont D σ H := h
theorem x_var {i : Nat} {v : V} (h : σ[i]? = some (some v)) (q : Q v H) : tVar i σ H Q := ⟨v, h, q⟩
theorem x_c {v : V} (q : Q v H) : tC v σ H Q := q
theorem x_op {r : R2} {ta tb : TE} (h : ta σ H fun x H1 => tb σ H1 fun y H2 => r x y H2 Q) : tOp r ta tb σ H Q := h
theorem x_un {r : V → Hp → VK → Prop} {ta : TE} (h : ta σ H fun x H1 => r x H1 Q) : tUn r ta σ H Q := h
theorem x_I0 {g : Int → Int → V} {i j : Int} (q : Q (g i j) H) : rI0 g (.int i) (.int j) H Q := ⟨i, j, rfl, rfl, q⟩
theorem x_I {C : Int → Int → Prop} {g : Int → Int → V} {i j : Int} (c : C i j) (q : Q (g i j) H) : rI C g (.int i) (.int j) H Q := ⟨i, j, rfl, rfl, c, q⟩
theorem x_U {g : Int → V} {i : Int} (q : Q (g i) H) : rU g (.int i) H Q := ⟨i, rfl, q⟩
theorem v_int {i j : Int} : decide (V.int i = V.int j) = decide (i = j) := decide_eq_decide.mpr ⟨fun h => V.int.inj h, fun h => h ▸ rfl⟩
theorem x_EqI {i j : Int} (q : Q (.bl (decide (i = j))) H) : rEq (.int i) (.int j) H Q := ⟨rfl, v_int ▸ q⟩
theorem x_NeI {i j : Int} (q : Q (.bl (!decide (i = j))) H) : rNe (.int i) (.int j) H Q := ⟨rfl, by rw [v_int]; exact q⟩
theorem x_EqB {i j : Bool} (q : Q (.bl (decide (i = j))) H) : rEq (.bl i) (.bl j) H Q := ⟨rfl, by
  have e : decide (V.bl i = V.bl j) = decide (i = j) := decide_eq_decide.mpr ⟨fun h => V.bl.inj h, fun h => h ▸ rfl⟩
  rw [e]; exact q⟩
theorem x_Eq {x y : V} (s : scal x y = true) (q : Q (.bl (decide (x = y))) H) : rEq x y H Q := ⟨s, q⟩
theorem x_Ne {x y : V} (s : scal x y = true) (q : Q (.bl (!decide (x = y))) H) : rNe x y H Q := ⟨s, q⟩
theorem x_isN {x : V} (q : Q (.bl (decide (x = .non))) H) : (fun (x y : V) (H : Hp) (Q : VK) => y = V.non ∧ Q (.bl (decide (x = .non))) H) x .non H Q := ⟨rfl, q⟩
theorem x_ifE {t : TT} {ta tb : TE} (h : t σ H fun c H1 => if c = true then ta σ H1 Q else tb σ H1 Q) : tIf t ta tb σ H Q := h
theorem x_test {te : TE} {b : Unit} (h : te σ H fun x H1 => ∃ k, x = .bl k ∧ QT k H1) : tTest te σ H QT := h
theorem x_tB {te : TE} (h : te σ H fun x H1 => ∃ k, x = .bl k ∧ QT k H1) : tB te σ H QT := h
theorem x_bl {k : Bool} (q : QT k H) : ∃ k', V.bl k = .bl k' ∧ QT k' H := ⟨k, rfl, q⟩
theorem x_and {t u : TT} (h : t σ H fun c H1 => if c = true then u σ H1 QT else QT false H1) : tAnd t u σ H QT := h
theorem x_or {t u : TT} (h : t σ H fun c H1 => if c = true then QT true H1 else u σ H1 QT) : tOr t u σ H QT := h
theorem x_not {t : TT} (h : t σ H fun c H1 => QT (!c) H1) : tNot t σ H QT := h
theorem x_andV {ta tb : TE} (h : ta σ H fun x H1 => ∃ c, x = .bl c ∧ if c = true then tb σ H1 Q else Q (.bl false) H1) : tAndV ta tb σ H Q := h
theorem x_orV {ta tb : TE} (h : ta σ H fun x H1 => ∃ c, x = .bl c ∧ if c = true then Q (.bl true) H1 else tb σ H1 Q) : tOrV ta tb σ H Q := h
theorem x_notV {ta : TE} (h : ta σ H fun x H1 => ∃ c, x = .bl c ∧ Q (.bl (!c)) H1) : tNotV ta σ H Q := h
theorem x_blP {k : Bool} {P : Bool → Prop} (q : P k) : ∃ k', V.bl k = .bl k' ∧ P k' := ⟨k, rfl, q⟩
theorem x_nil (q : QA [] H) : tNil σ H QA := q
theorem x_cons {ta : TE} {tr : TA} (h : ta σ H fun x H1 => tr σ H1 fun xs H2 => QA (x :: xs) H2) : tCons ta tr σ H QA := h
theorem x_call {sp : Sp} {dvs : List V} {E : XK} {t : TA} (h : t σ H fun vs H1 => sp (vs ++ dvs) H1 Q E) : tCall sp dvs E t σ H Q := h
theorem x_CB {r : List V → Hp → VK → Prop} {t : TA} (h : t σ H fun vs H1 => r vs H1 Q) : tCB r t σ H Q := h
theorem x_BM {T : String} {r : V → List V → Hp → VK → Prop} {to : TE} {t : TA} (h : to σ H fun x H1 => tyV K T x H1 ∧ t σ H1 fun xs H2 => r x xs H2 Q) : tBM K T r to t σ H Q := h
theorem x_tup {t : TA} (h : t σ H fun xs H1 => xs.length ≤ sizeLine ∧ ∀ p, H1 p = none → Q (.ref p) (upd H1 p (.tup xs))) : tTup t σ H Q := h
theorem x_lst {t : TA} (h : t σ H fun xs H1 => xs.length ≤ sizeLine ∧ ∀ p, H1 p = none → Q (.ref p) (upd H1 p (.lst xs))) : tLst t σ H Q := h
theorem x_chain {r r' : R2} {ta tb tc : TE} (h : ta σ H fun x H1 => tb σ H1 fun y H2 => r x y H2 fun z H3 => ∃ k, z = .bl k ∧
  (if k = true then tc σ H3 fun w' H4 => r' y w' H4 Q else Q (.bl false) H3)) : tChain r r' ta tb tc σ H Q := h
theorem x_isi {x : V} {T S : String} {b : Bool} (ty : TyX K H x (.type S)) (h : kitB S T = some b) (q : Q (.bl b) H) : rIsi K [x, .ty T] H Q := ⟨x, .ty T, .type S, .type T, b, rfl, .ty T, ty, kit_ty h, q⟩
theorem x_iN {x : V} (q : Q (.bl (decide (x = .non))) H) : rIsN x .non H Q := ⟨rfl, q⟩
theorem x_nN {x : V} (q : Q (.bl (!decide (x = .non))) H) : rNotN x .non H Q := ⟨rfl, q⟩
theorem x_int1 {i : Int} (q : Q (.int i) H) : rInt1 [.int i] H Q := .inl ⟨i, rfl, q⟩
theorem x_min2 {i j : Int} (q : Q (.int (if j < i then j else i)) H) : rMin2 [.int i, .int j] H Q := ⟨i, j, rfl, q⟩
theorem x_max2 {i j : Int} (q : Q (.int (if j > i then j else i)) H) : rMax2 [.int i, .int j] H Q := ⟨i, j, rfl, q⟩
theorem x_listL {p : Addr} {xs : List V} (hp : SqL K H p xs) (q : ∀ l, H l = none → Q (.ref l) (upd H l (.lst xs))) : rListOf K [.ref p] H Q := ⟨p, xs, rfl, .inl hp, q⟩
theorem x_tupL {p : Addr} {xs : List V} (hp : SqL K H p xs) (q : ∀ l, H l = none → Q (.ref l) (upd H l (.tup xs))) : rTupOf K [.ref p] H Q := ⟨p, xs, rfl, .inl ⟨hp, q⟩⟩
theorem x_ite {p : Prop} [Decidable p] {A B : Prop} (h1 : p → A) (h2 : ¬ p → B) : if decide p = true then A else B := by
  by_cases h : p
  · rw [if_pos (decide_eq_true h)]; exact h1 h
  · rw [if_neg (by rw [decide_eq_false h]; exact Bool.false_ne_true)]; exact h2 h
theorem x_iteN {p : Prop} [Decidable p] {A B : Prop} (h1 : ¬ p → A) (h2 : p → B) : if (!decide p) = true then A else B := by
  by_cases h : p
  · rw [if_neg (by rw [decide_eq_true h]; decide)]; exact h2 h
  · rw [if_pos (by rw [decide_eq_false h]; rfl)]; exact h1 h
theorem x_iteB {b : Bool} {A B : Prop} (h1 : b = true → A) (h2 : b = false → B) : if b = true then A else B := by
  cases b with
  | true => rw [if_pos rfl]; exact h1 rfl
  | false => rw [if_neg Bool.false_ne_true]; exact h2 rfl
theorem x_iteBN {b : Bool} {A B : Prop} (h1 : b = false → A) (h2 : b = true → B) : if (!b) = true then A else B := by
  cases b with
  | true => rw [if_neg (by decide)]; exact h2 rfl
  | false => rw [if_pos (by decide)]; exact h1 rfl
theorem x_subL {i : Int} {x : V} {xs : List V} {p : Addr} {k : Nat} {q : Hp → Prop} (hp : H p = some (.lst xs)) (hk : ixN xs.length i = some k) (h : q (upd H p (.lst (xs.set k x)))) : rSetL (.ref p) (.int i) x H q :=
  ⟨p, xs, i, k, rfl, rfl, hp, hk, h⟩
theorem x_gSub {to ti : TE} {t : TSet} {v : V} {q : L2.St → Hp → Prop} (h : to σ H fun o H1 => ti σ H1 fun i H2 => t o i v H2 fun H3 => q σ H3) : gSub to ti t v σ H q := h
theorem x_for {wi : TI} {g : TG} {tb : TS} (h : wi σ H fun J H1 => ∃ W : Nat → Nat → L2.St → Hp → Prop, (∃ m, W 0 m σ H1) ∧ ∀ i m σ H, W i m σ H →
  (J.stop i H ∧ D.nx σ H) ∨ (J.go i H ∧ ∃ N : L2.St → Hp → Prop, (∀ σ' H', N σ' H' → ∃ m', m' < m ∧ W (i + 1) m' σ' H') ∧ ∀ x H', J.yld i H x H' → g x σ H' fun σ2 H2 => tb { D with nx := N, ct := N, bk := D.nx } σ2 H2)) : tFor wi g tb D σ H := h
theorem x_ixL {xs : List V} {i : Int} {v : V} {p : Addr} (hp : SqL K H p xs) (hi : atI xs i = some v) (q : Q v H) : rIxL K (.ref p) (.int i) H Q := ⟨p, xs, i, v, rfl, rfl, hp, hi, q⟩
theorem x_ixT {xs : List V} {i : Int} {v : V} {p : Addr} (hp : SqT K H p xs) (hi : atI xs i = some v) (q : Q v H) : rIxT K (.ref p) (.int i) H Q := ⟨p, xs, i, v, rfl, rfl, hp, hi, q⟩
/-- over a range from nought, of at most so many turns; the target a name -/
theorem x_forR1 {ta : TE} {j : Nat} {tb : TS} (n : Int) (P : Nat → L2.St → Hp → Prop) (hn : ∀ R : V → Hp → Prop, R (.int n) H → ta σ H R) (h1 : -(2 ^ 62) ≤ n) (h2 : n < 2 ^ 62) (h0 : P 0 σ H)
    (hs : ∀ (i : Nat) σ' H', (i : Int) < n → P i σ' H' → tb ⟨P (i + 1), D.rt, D.nx, P (i + 1)⟩ (σ'.set j (some (.int (i : Int)))) H') (hd : ∀ σ' H', P n.toNat σ' H' → D.nx σ' H') : tFor (iRng1 (tCons ta tNil)) (gName j) tb D σ H := by
  refine hn _ ⟨n, rfl, h1, h2, ?_⟩
  refine for_range (lo := 0) P h0 (fun i σ' H' hi p => ?_) hd
  have e : (0 : Int) + (i : Int) = (i : Int) := Int.zero_add _
  rw [e]
  exact hs i σ' H' (by omega) p
theorem x_forR2 {ta tc : TE} {j : Nat} {tb : TS} (lo n : Int) (P : Nat → L2.St → Hp → Prop) (hn : ∀ R : V → Hp → Prop, R (.int lo) H → ta σ H R) (hn2 : ∀ R : V → Hp → Prop, R (.int n) H → tc σ H R) (h1 : -(2 ^ 62) ≤ lo) (h2 : lo < 2 ^ 62) (h3 : -(2 ^ 62) ≤ n) (h4 : n < 2 ^ 62) (h0 : P 0 σ H)
    (hs : ∀ (i : Nat) σ' H', lo + (i : Int) < n → P i σ' H' → tb ⟨P (i + 1), D.rt, D.nx, P (i + 1)⟩ (σ'.set j (some (.int (lo + (i : Int))))) H') (hd : ∀ σ' H', P (n - lo).toNat σ' H' → D.nx σ' H') : tFor (iRng2 (tCons ta (tCons tc tNil))) (gName j) tb D σ H := by
  refine hn _ (hn2 _ ⟨lo, n, rfl, ⟨h1, h2, h3, h4⟩, ?_⟩)
  refine for_range (lo := lo) P h0 (fun i σ' H' hi p => ?_) hd
  exact hs i σ' H' (by omega) p
theorem rgC_up {i j c : Int} (hc : 0 < c) (hc2 : c < 1000000) (ha : 0 ≤ i) (ha' : i < 2 ^ 60) (hb : 0 ≤ j) (hb' : j < 2 ^ 60) : RgC i j c ((if i < j then (j - i - 1) / c + 1 else 0 : Int)).toNat := by
  have hd : 0 ≤ (j - i - 1) / c ∨ ¬ i < j := by
    by_cases h : i < j
    · exact .inl (Int.ediv_nonneg (by omega) (by omega))
    · exact .inr h
  have hd2 : i < j → (j - i - 1) / c * c ≤ j - i - 1 := fun _ => Int.ediv_mul_le _ (by omega)
  have hd3 : i < j → (j - i - 1) / c ≤ j - i - 1 := fun h => by
    have h0 : 0 ≤ (j - i - 1) / c := Int.ediv_nonneg (by omega) (by omega)
    have := hd2 h
    have h1 : (j - i - 1) / c * 1 ≤ (j - i - 1) / c * c := Int.mul_le_mul_of_nonneg_left (by omega) h0
    omega
  refine ⟨by omega, by omega, ?_, ?_⟩
  · unfold Builtin.Range.small Builtin.Range.rangeSize
    simp only [Builtin.Range.rangeFitsLong, Bool.and_eq_true, Bool.or_eq_true, decide_eq_true_eq, beq_iff_eq, show (c > 0) from hc, if_true]
    split
    · rename_i h
      have := hd3 h
      have h0 : 0 ≤ (j - i - 1) / c := Int.ediv_nonneg (by omega) (by omega)
      have := hd2 h
      generalize (j - i - 1) / c = q at *
      have e : (q + 1) * c = q * c + c := by rw [Int.add_mul, Int.one_mul]
      have e2 : (q + 1 - 1) * c = q * c := by rw [Int.add_sub_cancel]
      refine ⟨?_, ?_⟩ <;> (try rw [e]) <;> (try rw [e2]) <;> omega
    · omega
  · unfold Builtin.Range.rangeSize
    rw [if_pos hc]
    split
    · rcases hd with h | h
      · omega
      · omega
    · rfl
theorem x_forR3 {ta tc te : TE} {j : Nat} {tb : TS} (lo n c : Int) (P : Nat → L2.St → Hp → Prop) (hn : ∀ R : V → Hp → Prop, R (.int lo) H → ta σ H R) (hn2 : ∀ R : V → Hp → Prop, R (.int n) H → tc σ H R) (hn3 : ∀ R : V → Hp → Prop, R (.int c) H → te σ H R) (hc : 0 < c) (hc2 : c < 1000000) (h1 : 0 ≤ lo) (h2 : lo < 2 ^ 60) (h3 : 0 ≤ n) (h4 : n < 2 ^ 60) (h0 : P 0 σ H)
    (hs : ∀ (i : Nat) σ' H', lo + (i : Int) * c < n → P i σ' H' → tb ⟨P (i + 1), D.rt, D.nx, P (i + 1)⟩ (σ'.set j (some (.int (lo + (i : Int) * c)))) H') (hd : ∀ (i : Nat) σ' H', n ≤ lo + (i : Int) * c → P i σ' H' → D.nx σ' H') : tFor (iRng3 (tCons ta (tCons tc (tCons te tNil)))) (gName j) tb D σ H := by
  refine hn _ (hn2 _ (hn3 _ ⟨lo, n, c, _, rfl, rgC_up hc hc2 h1 h2 h3 h4, ?_⟩))
  refine for_rangeC (lo := lo) P h0 (fun i σ' H' hi p => hs i σ' H' ?_ p) (fun σ' H' p => hd _ σ' H' ?_ p)
  · split at hi
    · have hq : (i : Int) ≤ (n - lo - 1) / c := by omega
      have h5 : (n - lo - 1) / c * c ≤ n - lo - 1 := Int.ediv_mul_le _ (by omega)
      have h6 : (i : Int) * c ≤ (n - lo - 1) / c * c := Int.mul_le_mul_of_nonneg_right hq (by omega)
      omega
    · omega
  · split
    · have h5 : n - lo - 1 < ((n - lo - 1) / c + 1) * c := Int.lt_ediv_add_one_mul_self _ hc
      have h0 : 0 ≤ (n - lo - 1) / c := Int.ediv_nonneg (by omega) (by omega)
      rw [show ((((n - lo - 1) / c + 1).toNat : Nat) : Int) = (n - lo - 1) / c + 1 by omega]
      omega
    · have : (((0 : Int).toNat : Nat) : Int) * c = 0 := by simp
      omega
theorem isq_spec {i : Int} (h0 : 0 ≤ i) : ∃ r : Int, ((Float64.isqrt i.toNat : Nat) : Int) = r ∧ 0 ≤ r ∧ r * r ≤ i ∧ i < (r + 1) * (r + 1) := by
  refine ⟨_, rfl, Int.natCast_nonneg _, ?_, ?_⟩
  · have := (PySem.Float64.isqrt_spec i.toNat).1
    have e : ((Float64.isqrt i.toNat * Float64.isqrt i.toNat : Nat) : Int) ≤ (i.toNat : Int) := Int.ofNat_le.mpr this
    rw [Int.natCast_mul] at e
    omega
  · have := (PySem.Float64.isqrt_spec i.toNat).2
    have e : (i.toNat : Int) < (((Float64.isqrt i.toNat + 1) * (Float64.isqrt i.toNat + 1) : Nat) : Int) := Int.ofNat_lt.mpr this
    rw [Int.natCast_mul, Int.natCast_add] at e
    have e2 : ((1 : Nat) : Int) = 1 := rfl
    rw [e2] at e
    omega
theorem x_isqrt0 {i r : Int} (h0 : 0 ≤ i) (h1 : i < 2 ^ 64) (e : ((Float64.isqrt i.toNat : Nat) : Int) = r) (q : Q (.int r) H) : cr_isqrt_r [.int i] H Q := ⟨i, rfl, h0, h1, by rw [e]; exact q⟩
theorem x_forL {ta : TE} {g : TG} {tb : TS} {p : Addr} (xs : List V) (P : Nat → L2.St → Hp → Prop) (hn : ∀ R : V → Hp → Prop, R (.ref p) H → ta σ H R) (hp : SqL K H p xs) (h0 : P 0 σ H) (hl : ∀ i σ' H', i ≤ xs.length → P i σ' H' → SqL K H' p xs)
    (hs : ∀ i x σ' H', xs[i]? = some x → P i σ' H' → g x σ' H' fun σ2 H2 => tb ⟨P (i + 1), D.rt, D.nx, P (i + 1)⟩ σ2 H2) (hd : ∀ σ' H', P xs.length σ' H' → D.nx σ' H') : tFor (iList K ta) g tb D σ H :=
  hn _ ⟨p, rfl, ⟨xs, hp⟩, for_list (xs := xs) P h0 hl hs hd⟩
theorem x_app {p : Addr} {xs : List V} {y : V} (hp : H p = some (.lst xs)) (hl : xs.length < 1000000) (q : Q .non (upd H p (.lst (xs ++ [y])))) : rAppend (.ref p) [y] H Q :=
  ⟨p, xs, y, rfl, rfl, hp, Nat.lt_of_lt_of_le hl (by decide), q⟩
theorem x_tyL {p : Addr} {xs : List V} {R : Prop} (hp : H p = some (.lst xs)) (h : R) : tyV K "list" (.ref p) H ∧ R := ⟨.inl ⟨rfl, _, .inl (.inl hp)⟩, h⟩
theorem x_len {p : Addr} {xs : List V} (hp : SqL K H p xs) (q : Q (.int (xs.length : Int)) H) : rLen K [.ref p] H Q := ⟨p, xs, rfl, .inl hp, q⟩
theorem x_lenT {p : Addr} {xs : List V} (hp : SqT K H p xs) (q : Q (.int (xs.length : Int)) H) : rLen K [.ref p] H Q := ⟨p, xs, rfl, .inr hp, q⟩
theorem x_cat {p q : Addr} {xs ys : List V} (hp : H p = some (.lst xs)) (hq : H q = some (.lst ys)) (hl : xs.length + ys.length ≤ 1000000) (k : ∀ r, H r = none → Q (.ref r) (upd H r (.lst (xs ++ ys)))) : rCat (.ref p) (.ref q) H Q :=
  ⟨p, q, xs, ys, rfl, rfl, hp, hq, Nat.le_trans hl (by decide), k⟩
/-- while: a word by a measure -/
theorem x_while {c : TT} {tb : TS} (W : Nat → L2.St → Hp → Prop) (m0 : Nat) (h0 : W m0 σ H)
    (hs : ∀ m σ' H', W m σ' H' → ∃ b : Bool, (∀ R : Bool → Hp → Prop, R b H' → c σ' H' R) ∧ (b = true → tb ⟨fun σ2 H2 => ∃ m', m' < m ∧ W m' σ2 H2, D.rt, D.nx, fun σ2 H2 => ∃ m', m' < m ∧ W m' σ2 H2⟩ σ' H') ∧ (b = false → D.nx σ' H')) : tWhile c tb D σ H :=
  ⟨W, ⟨m0, h0⟩, fun m σ' H' w => by
    obtain ⟨b, h, h1, h2⟩ := hs m σ' H' w
    refine h _ ?_
    cases b with
    | true => exact iteT ⟨_, fun _ _ z => z, h1 rfl⟩
    | false => exact iteF (h2 rfl)⟩
theorem x_lcR1 {ta : TE} {j : Nat} {te : TE} {vs : List Nat} (n : Int) (P : Addr → Nat → Hp → Prop) (hn : ∀ R : V → Hp → Prop, R (.int n) H → ta σ H R) (h1 : -(2 ^ 62) ≤ n) (h2 : n < 2 ^ 62) (h0 : ∀ p, H p = none → P p 0 (upd H p (.lst [])))
    (hw : ∀ x, wipe ((wipe σ vs).set j (some x)) vs = wipe σ vs)
    (hs : ∀ p (i : Nat) H', H p = none → (i : Int) < n → P p i H' → te ((wipe σ vs).set j (some (.int (i : Int)))) H' fun y H4 => ∃ acc, H4 p = some (.lst acc) ∧ acc.length < sizeLine ∧ P p (i + 1) (upd H4 p (.lst (acc ++ [y]))))
    (hd : ∀ p H', H p = none → P p n.toNat H' → Q (.ref p) H') : tLc (iRng1 (tCons ta tNil)) (gName j) tYes te vs σ H Q := by
  refine hn _ ⟨n, rfl, h1, h2, fun p hp => ?_⟩
  refine lc_range (lo := 0) (Qd := fun H' => Q (.ref p) H') (P p) (h0 p hp) (fun i H' hi q => ?_) fun H' q => hd p H' hp q
  have e : (0 : Int) + (i : Int) = (i : Int) := Int.zero_add _
  rw [e]
  refine ⟨hw _, ?_⟩
  unfold tYes
  exact iteT (hs p i H' hp (by omega) q)
theorem x_lcL {ta : TE} {j : Nat} {te : TE} {vs : List Nat} {a : Addr} (xs : List V) (P : Addr → Nat → Hp → Prop) (hn : ∀ R : V → Hp → Prop, R (.ref a) H → ta σ H R) (ha : SqL K H a xs) (h0 : ∀ p, H p = none → P p 0 (upd H p (.lst [])))
    (hl : ∀ p i H', H p = none → i ≤ xs.length → P p i H' → SqL K H' a xs) (hw : ∀ x, wipe ((wipe σ vs).set j (some x)) vs = wipe σ vs)
    (hs : ∀ p (i : Nat) x H', H p = none → xs[i]? = some x → P p i H' → te ((wipe σ vs).set j (some x)) H' fun y H4 => ∃ acc, H4 p = some (.lst acc) ∧ acc.length < sizeLine ∧ P p (i + 1) (upd H4 p (.lst (acc ++ [y]))))
    (hd : ∀ p H', H p = none → P p xs.length H' → Q (.ref p) H') : tLc (iList K ta) (gName j) tYes te vs σ H Q := by
  refine hn _ ⟨a, rfl, ⟨xs, ha⟩, fun p hp => ?_⟩
  refine lc_list (xs := xs) (Qd := fun H' => Q (.ref p) H') (P p) (h0 p hp) (fun i H' hi q => hl p i H' hp hi q) (fun i x H' hi q => ?_) fun H' q => hd p H' hp q
  refine ⟨hw _, ?_⟩
  unfold tYes
  exact iteT (hs p i x H' hp hi q)
end
theorem x_gTup2 {K : PySem.W.Frag} {σ : L2.St} {H : Hp} {p : Addr} {x y : V} {i j : Nat} {R : L2.St → Hp → Prop} (hp : SqT K H p [x, y]) (h : R ((σ.set i (some x)).set j (some y)) H) : gTup K 2 (gCons (gName i) (gCons (gName j) gNil)) (.ref p) σ H R :=
  ⟨p, [x, y], rfl, hp, rfl, x, [y], rfl, y, [], rfl, rfl, h⟩
theorem sq_of {K : PySem.W.Frag} {H : Hp} {a : Addr} {xs : List V} (h : H a = some (.lst xs)) : SqL K H a xs := .inl (.inl h)
theorem st_of {K : PySem.W.Frag} {H : Hp} {a : Addr} {xs : List V} (h : H a = some (.tup xs)) : SqT K H a xs := .inl (.inl h)
theorem mul_r {i j : Int} (h1 : -(2 ^ 64) < j) (h2 : j < 2 ^ 64) : CMul i j := .inr ⟨h1, h2⟩
theorem mul_l {i j : Int} (h1 : -(2 ^ 64) < i) (h2 : i < 2 ^ 64) : CMul i j := .inl ⟨h1, h2⟩
theorem cr_isqrt {X : Cx} : CallR X (.builtin "math.isqrt") cr_isqrt_r := by
  intro pins s σ H vs us Q I r h
  obtain ⟨i, rfl, h0, h1, q⟩ := h
  cases r with
  | cons r1 rr =>
    cases rr
    obtain ⟨t, rfl⟩ := r1
    exact PySem.W.mg_isqrt h0 h1 ⟨.int _, H, I.tok _, ⟨_, rfl⟩, q⟩
/-- all but what stands at d is as it was -/
def Keep (d : Addr) (H H' : Hp) : Prop := ∀ b o, H b = some o → b ≠ d → H' b = some o
theorem Keep.refl (d : Addr) (H : Hp) : Keep d H H := fun _ _ h _ => h
theorem Keep.trans {d : Addr} {H H1 H2 : Hp} (a : Keep d H H1) (b : Keep d H1 H2) : Keep d H H2 := fun c o h n => b c o (a c o h n) n
theorem seqT {K : PySem.W.Frag} {H H' : Hp} {a : Addr} {xs : List V} (e : Same H H') (h : SqT K H a xs) : SqT K H' a xs := by
  rcases h with (h | ⟨o, h⟩) | h
  · exact .inl (.inl (e _ _ h))
  · exact .inl (.inr ⟨o, e _ _ h⟩)
  · exact .inr h
theorem sfree {H H' : Hp} (e : Same H H') {p : Addr} (h : H' p = none) : H p = none := e.free h
theorem sput {H H' : Hp} {p : Addr} {o : HO} (s : Same H H') (h : H p = none) : Same H (upd H' p o) := fun b x e => by
  rw [upd_ne (ne_of_none e h)]
  exact s b x e
theorem Same.tr {H H1 H2 : Hp} (a : Same H H1) (b : Same H1 H2) : Same H H2 := fun c o h => b c o (a c o h)
theorem Same.keep {d : Addr} {H H' : Hp} (a : Same H H') : Keep d H H' := fun c o h _ => a c o h
theorem same_upd {H : Hp} {p : Addr} {o : HO} (h : H p = none) : Same H (upd H p o) := fun b x e => by
  rw [upd_ne (ne_of_none e h)]
  exact e
theorem keep_upd {H : Hp} {p : Addr} {o : HO} : Keep p H (upd H p o) := fun b x e n => by
  rw [upd_ne n]
  exact e
/-- what is new may change -/
theorem Same.put {H H' : Hp} {p : Addr} {o : HO} (s : Same H H') (h : H p = none) : Same H (upd H' p o) := fun b x e => by
  rw [upd_ne (ne_of_none e h)]
  exact s b x e
theorem Keep.put {d : Addr} {H H' : Hp} {p : Addr} {o : HO} (s : Keep d H H') (h : H p = none) : Keep d H (upd H' p o) := fun b x e n => by
  rw [upd_ne (ne_of_none e h)]
  exact s b x e n
theorem Keep.seq {K : PySem.W.Frag} {d : Addr} {H H' : Hp} {a : Addr} {xs : List V} (e : Keep d H H') (n : a ≠ d) (h : SqL K H a xs) : SqL K H' a xs := by
  rcases h with (h | ⟨o, h⟩) | h
  · exact .inl (.inl (e _ _ h n))
  · exact .inl (.inr ⟨o, e _ _ h n⟩)
  · exact .inr h
/-- ints within bounds -/
def Rg (lo hi : Int) (ns : List Int) : Prop := ∀ z, z ∈ ns → lo ≤ z ∧ z < hi
theorem Rg.nil {lo hi : Int} : Rg lo hi [] := fun _ h => absurd h (by simp)
theorem Rg.app {lo hi : Int} {xs ys : List Int} (a : Rg lo hi xs) (b : Rg lo hi ys) : Rg lo hi (xs ++ ys) := fun z h => (List.mem_append.mp h).elim (a z) (b z)
theorem Rg.one {lo hi x : Int} (h1 : lo ≤ x) (h2 : x < hi) : Rg lo hi [x] := fun z h => by
  have e : z = x := by simpa using h
  subst e
  exact ⟨h1, h2⟩
theorem Rg.snoc {lo hi x : Int} {xs : List Int} (a : Rg lo hi xs) (h1 : lo ≤ x) (h2 : x < hi) : Rg lo hi (xs ++ [x]) := a.app (.one h1 h2)
theorem Rg.get {lo hi x : Int} {xs : List Int} {i : Nat} (a : Rg lo hi xs) (h : xs[i]? = some x) : lo ≤ x ∧ x < hi := a x (List.mem_of_getElem? h)
theorem map_get {ns : List Int} {i : Nat} {y : V} (h : (ns.map V.int)[i]? = some y) : ∃ z, ns[i]? = some z ∧ y = .int z := by
  rw [List.getElem?_map] at h
  cases e : ns[i]? with
  | none => rw [e] at h; cases h
  | some z => rw [e] at h; exact ⟨z, rfl, (Option.some.inj h).symm⟩
theorem gcd_step {a b : Int} : Int.gcd b (a % b) = Int.gcd a b := by
  rw [Int.emod_def, Int.gcd_sub_mul_left_right, Int.gcd_comm]
theorem half_step {a b : Int} (hb : 0 < b) (h : b < a) : b * (a % b) * 2 ≤ a * b := by
  have h1 := Int.emod_lt_of_pos a hb
  have h0 := Int.emod_nonneg a (show b ≠ 0 by omega)
  have h2 : b * (a / b) + a % b = a := Int.mul_ediv_add_emod a b
  have h3 : 1 ≤ a / b := (Int.le_ediv_iff_mul_le hb).mpr (by omega)
  have h4 : b * 1 ≤ b * (a / b) := Int.mul_le_mul_of_nonneg_left h3 (by omega)
  have h5 : a % b * 2 ≤ a := by omega
  have h6 : a % b * 2 * b ≤ a * b := Int.mul_le_mul_of_nonneg_right h5 (by omega)
  have e : b * (a % b) * 2 = a % b * 2 * b := by
    rw [Int.mul_comm b, Int.mul_assoc, Int.mul_assoc, Int.mul_comm b 2]
  omega
/-- an item of a written list -/
theorem at_lt {xs : List V} {i : Int} (h0 : 0 ≤ i) (h1 : i < (xs.length : Int)) : ∃ v, atI xs i = some v ∧ v ∈ xs := by
  obtain ⟨j, rfl⟩ : ∃ j : Nat, i = (j : Int) := ⟨i.toNat, by omega⟩
  have hj : j < xs.length := by omega
  exact ⟨xs[j], atI_nat (List.getElem?_eq_getElem hj), List.getElem_mem hj⟩
theorem map_getR {as : List Addr} {i : Nat} {v : V} (h : (as.map V.ref)[i]? = some v) : ∃ b, as[i]? = some b ∧ v = .ref b := by
  rw [List.getElem?_map] at h
  cases e : as[i]? with
  | none => rw [e] at h; cases h
  | some b => rw [e] at h; exact ⟨b, rfl, (Option.some.inj h).symm⟩
theorem kput {d : Addr} {H H' : Hp} {p : Addr} {o : HO} (s : Keep d H H') (h : H p = none) : Keep d H (upd H' p o) := s.put h
theorem snoc_at {α : Type} {xs : List α} {y z : α} {i j : Nat} (hl : xs.length = i) (h : (xs ++ [y])[j]? = some z) : (j < i ∧ xs[j]? = some z) ∨ (j = i ∧ z = y) := by
  by_cases hj : j < xs.length
  · rw [List.getElem?_append_left hj] at h
    exact .inl ⟨by omega, h⟩
  · have hlt := (List.getElem?_eq_some_iff.mp h).1
    rw [List.length_append] at hlt
    have e : j = xs.length := by simp at hlt; omega
    subst e
    rw [List.getElem?_append_right (Nat.le_refl _), Nat.sub_self] at h
    exact .inr ⟨hl, (Option.some.inj h).symm⟩
theorem lt_line {n : Nat} (h : n < 1000000) : n < sizeLine := Nat.lt_of_lt_of_le h (by decide)
/-- what is fresh may change -/
theorem same_keep {H H1 H2 : Hp} {l : Addr} (hl : H l = none) (s : Same H H1) (k : Keep l H1 H2) : Same H H2 := fun b o e => k b o (s b o e) (ne_of_none e hl)
theorem ixN_nat {n i : Nat} (h : i < n) : ixN n (i : Int) = some i := by
  unfold ixN
  grind
theorem cast_lt {x : Int} {c : Nat} (h0 : 0 ≤ x) (h1 : x < c) : ∃ t : Nat, x = (t : Int) ∧ t < c := ⟨x.toNat, by omega, by omega⟩
section
variable {σ : L2.St} {H : Hp} {Q : VK} {R : Option Int → Hp → Prop}
theorem x_sl2 {r : V → Option Int → Option Int → Hp → VK → Prop} {te : TE} {tl th : TO} (h : te σ H fun x H1 => tl σ H1 fun l H2 => th σ H2 fun u H3 => r x l u H3 Q) : tSl r te tl th σ H Q := h
theorem x_part0 (h : R none H) : tNoPart σ H R := h
theorem x_part1 {te : TE} (h : te σ H fun x H1 => ∃ i, x = .int i ∧ R (some i) H1) : tPart te σ H R := h
theorem x_cutL {K : PySem.W.Frag} {p : Addr} {xs : List V} {lo hi : Option Int} (hp : SqL K H p xs) (q : ∀ r, H r = none → Q (.ref r) (upd H r (.lst (cutV xs lo hi)))) : rSlL K (.ref p) lo hi H Q := ⟨p, xs, rfl, hp, q⟩
end
end Br

/-! ### Fermat's little theorem, by the products of the rests -/
namespace Br.F
def noDiv (p : Nat) (n : Nat) : Bool := Nat.rec true (fun k ih => (p % (k + 2) != 0) && ih) n
theorem noDiv_at {p : Nat} : ∀ {n : Nat}, noDiv p n = true → ∀ d, 2 ≤ d → d < n + 2 → ¬ d ∣ p
  | 0, _, d, h1, h2, _ => by omega
  | n + 1, h, d, h1, h2, hd => by
    have h' : ((p % (n + 2) != 0) && noDiv p n) = true := h
    rw [Bool.and_eq_true] at h'
    by_cases e : d < n + 2
    · exact noDiv_at h'.2 d h1 e hd
    · have e2 : d = n + 2 := by omega
      subst e2
      have := Nat.mod_eq_zero_of_dvd hd
      simp [this] at h'
def IsPrime (p : Nat) : Prop := 2 ≤ p ∧ ∀ d, d ∣ p → d = 1 ∨ d = p
theorem prime_of {p k : Nat} (h2 : 2 ≤ p) (hk : p < (k + 2) * (k + 2)) (h : noDiv p k = true) : IsPrime p := by
  refine ⟨h2, fun d hd => ?_⟩
  by_cases h1 : d = 1
  · exact .inl h1
  by_cases hp : d = p
  · exact .inr hp
  exfalso
  obtain ⟨e, he⟩ := hd
  have d0 : d ≠ 0 := fun z => by subst z; simp at he; omega
  have e0 : e ≠ 0 := fun z => by subst z; simp at he; omega
  have e1 : e ≠ 1 := fun z => by subst z; simp at he; exact hp he.symm
  by_cases hlt : d < k + 2
  · exact noDiv_at h d (by omega) hlt ⟨e, he⟩
  · by_cases hlt2 : e < k + 2
    · exact noDiv_at h e (by omega) hlt2 ⟨d, by rw [he, Nat.mul_comm]⟩
    · have : (k + 2) * (k + 2) ≤ d * e := Nat.mul_le_mul (by omega) (by omega)
      omega
theorem IsPrime.coprime {p a : Nat} (hp : IsPrime p) (h : ¬ p ∣ a) : Nat.Coprime p a := by
  rcases hp.2 _ (Nat.gcd_dvd_left p a) with e | e
  · exact e
  · exact absurd (e ▸ Nat.gcd_dvd_right p a) h
theorem IsPrime.mul {p a b : Nat} (hp : IsPrime p) (h : p ∣ a * b) : p ∣ a ∨ p ∣ b := by
  by_cases h1 : p ∣ a
  · exact .inl h1
  · exact .inr ((hp.coprime h1).dvd_of_dvd_mul_left h)
theorem dvd_sub_of {p x y : Nat} (h : x % p = y % p) : p ∣ y - x := Nat.dvd_of_mod_eq_zero (Nat.sub_mod_eq_zero_of_mod_eq h.symm)
theorem mod_of_dvd_sub {p x y : Nat} (hl : x ≤ y) (h : p ∣ y - x) : x % p = y % p := by
  obtain ⟨q, hq⟩ := h
  have e : y = x + p * q := by omega
  rw [e, Nat.add_mul_mod_self_left]
theorem perm_of : ∀ {M L : List Nat}, M.Nodup → (∀ x, x ∈ M → x ∈ L) → L.length = M.length → M.Perm L
  | [], L, _, _, hl => by
    have : L = [] := List.length_eq_zero_iff.mp hl
    rw [this]
  | a :: M, L, hn, hs, hl => by
    have ha : a ∈ L := hs a List.mem_cons_self
    have hn' := List.nodup_cons.mp hn
    have h2 : M.Perm (L.erase a) := perm_of hn'.2 (fun x hx => (List.mem_erase_of_ne (fun e => hn'.1 (by rw [← e]; exact hx))).mpr (hs x (List.mem_cons_of_mem _ hx))) (by
      rw [List.length_erase_of_mem ha]
      rw [List.length_cons] at hl
      omega)
    exact (List.Perm.cons a h2).trans (List.perm_cons_erase ha).symm
def prod : List Nat → Nat
  | [] => 1
  | a :: l => a * prod l
theorem prod_perm {a b : List Nat} (h : a.Perm b) : prod a = prod b := by
  induction h with
  | nil => rfl
  | cons x _ ih => show x * _ = x * _; rw [ih]
  | swap x y l => show y * (x * _) = x * (y * _); rw [← Nat.mul_assoc, ← Nat.mul_assoc, Nat.mul_comm y x]
  | trans _ _ h1 h2 => rw [h1, h2]
theorem prod_map {p a : Nat} : ∀ l : List Nat, prod (l.map fun x => a * x % p) % p = a ^ l.length * prod l % p
  | [] => by simp [prod]
  | x :: l => by
    show (a * x % p) * prod (l.map fun x => a * x % p) % p = a ^ (l.length + 1) * (x * prod l) % p
    rw [Nat.mul_mod, Nat.mod_mod, prod_map l, ← Nat.mul_mod, Nat.pow_succ]
    congr 1
    rw [Nat.mul_assoc (a ^ l.length) a, Nat.mul_left_comm a x, Nat.mul_comm a x, Nat.mul_assoc x a, ← Nat.mul_assoc (a ^ l.length) x, Nat.mul_comm (a ^ l.length) x, Nat.mul_assoc x (a ^ l.length), ← Nat.mul_assoc (a ^ l.length), Nat.mul_comm (a ^ l.length) a, Nat.mul_assoc a]
theorem prod_not {p : Nat} (hp : IsPrime p) : ∀ l : List Nat, (∀ x, x ∈ l → ¬ p ∣ x) → ¬ p ∣ prod l
  | [], _, h => by
    have : p = 1 := Nat.dvd_one.mp h
    have := hp.1
    omega
  | x :: l, h, hd => by
    rcases hp.mul (show p ∣ x * prod l from hd) with h1 | h1
    · exact h x List.mem_cons_self h1
    · exact prod_not hp l (fun y hy => h y (List.mem_cons_of_mem _ hy)) h1
theorem fermat {p a : Nat} (hp : IsPrime p) (ha : ¬ p ∣ a) : a ^ (p - 1) % p = 1 % p := by
  have hp2 := hp.1
  let L := List.range' 1 (p - 1)
  have hL : ∀ x, x ∈ L ↔ 1 ≤ x ∧ x < p := fun x => by
    show x ∈ List.range' 1 (p - 1) ↔ _
    rw [List.mem_range'_1]
    omega
  have hnL : L.Nodup := List.nodup_range'
  have hLn : ∀ x, x ∈ L → ¬ p ∣ x := fun x hx hd => by
    have := (hL x).mp hx
    have := Nat.le_of_dvd (by omega) hd
    omega
  have hM : (L.map fun x => a * x % p).Perm L := by
    refine perm_of ?_ ?_ (by rw [List.length_map])
    · refine List.pairwise_map.mpr (List.Pairwise.imp_of_mem ?_ hnL)
      intro x y hx hy hne he
      have bx := (hL x).mp hx
      have bY := (hL y).mp hy
      have key : ∀ u v, 1 ≤ u → u < p → v < p → u ≤ v → a * u % p = a * v % p → u = v := fun u v h1 h2 h3 h4 h5 => by
        have hd : p ∣ a * (v - u) := by
          rw [Nat.mul_sub]
          exact dvd_sub_of h5
        rcases hp.mul hd with h6 | h6
        · exact absurd h6 ha
        · by_cases h7 : v - u = 0
          · omega
          · have := Nat.le_of_dvd (by omega) h6
            omega
      rcases Nat.le_total x y with h | h
      · exact hne (key x y bx.1 bx.2 bY.2 h he)
      · exact hne (key y x bY.1 bY.2 bx.2 h he.symm).symm
    · intro z hz
      obtain ⟨x, hx, rfl⟩ := List.mem_map.mp hz
      refine (hL _).mpr ⟨?_, Nat.mod_lt _ (by omega)⟩
      by_cases h0 : a * x % p = 0
      · rcases hp.mul (Nat.dvd_of_mod_eq_zero h0) with h6 | h6
        · exact absurd h6 ha
        · exact absurd h6 (hLn x hx)
      · omega
  have e1 := prod_perm hM
  have e2 : a ^ L.length * prod L % p = prod L % p := by rw [← prod_map, e1]
  have hlen : L.length = p - 1 := List.length_range'
  rw [hlen] at e2
  have hpos : 1 ≤ a ^ (p - 1) := Nat.one_le_iff_ne_zero.mpr fun z => by
    have : a = 0 := Nat.pow_eq_zero.mp z |>.1
    subst this
    exact ha (Nat.dvd_zero p)
  have hd : p ∣ (a ^ (p - 1) - 1) * prod L := by
    rw [Nat.sub_mul, Nat.one_mul]
    exact dvd_sub_of e2.symm
  rcases hp.mul hd with h | h
  · exact (mod_of_dvd_sub hpos h).symm
  · exact absurd h (prod_not hp L hLn)
theorem p2 : IsPrime 2 := prime_of (k := 0) (by decide) (by decide) (by decide)
theorem p3 : IsPrime 3 := prime_of (k := 0) (by decide) (by decide) (by decide)
theorem p5 : IsPrime 5 := prime_of (k := 1) (by decide) (by decide) (by decide +kernel)
theorem p7 : IsPrime 7 := prime_of (k := 1) (by decide) (by decide) (by decide +kernel)
theorem p11 : IsPrime 11 := prime_of (k := 2) (by decide) (by decide) (by decide +kernel)
theorem p13 : IsPrime 13 := prime_of (k := 2) (by decide) (by decide) (by decide +kernel)
theorem p101 : IsPrime 101 := prime_of (k := 9) (by decide) (by decide) (by decide +kernel)
theorem pBig : IsPrime 999999937 := prime_of (k := 31622) (by decide) (by decide +kernel) (by decide +kernel)
end Br.F

/-! ### tables' polynomials: the shares of Lagrange's formula modulo a prime -/
namespace Br.F
def Tp (x : Int) : Nat → Int
  | 0 => 1
  | n + 1 => Tp x n * (x - (n : Int))
def Ab (x : Int) (at_ : Nat) : Nat → Int
  | 0 => 1
  | n + 1 => if n = at_ then Ab x at_ n else Ab x at_ n * (x - (n : Int))
def fct : Nat → Int
  | 0 => 1
  | n + 1 => fct n * ((n : Int) + 1)
def sg (m : Nat) : Int := if m % 2 = 0 then 1 else -1
theorem sg_succ (m : Nat) : sg (m + 1) = - sg m := by
  unfold sg
  split <;> split <;> first | omega | rfl
theorem Ab_eq {x : Int} {at_ n : Nat} (h : n ≠ at_) : Ab x at_ (n + 1) = Ab x at_ n * (x - (n : Int)) := if_neg h
theorem Ab_at {x : Int} {at_ : Nat} : Ab x at_ (at_ + 1) = Ab x at_ at_ := if_pos rfl
theorem Ab_lt {x : Int} {at_ : Nat} : ∀ {n : Nat}, n ≤ at_ → Ab x at_ n = Tp x n
  | 0, _ => rfl
  | n + 1, h => by
    rw [Ab_eq (by omega), Ab_lt (by omega)]
    rfl
theorem Tp_split {x : Int} {at_ : Nat} : ∀ {n : Nat}, at_ < n → Tp x n = (x - (at_ : Int)) * Ab x at_ n
  | 0, h => by omega
  | n + 1, h => by
    by_cases e : n = at_
    · subst e
      rw [Ab_at, Ab_lt (Nat.le_refl _), Int.mul_comm]
      rfl
    · rw [Ab_eq e]
      show Tp x n * (x - (n : Int)) = _
      rw [Tp_split (at_ := at_) (by omega), Int.mul_assoc]
theorem Ab_zero {x at_ : Nat} (hx : x ≠ at_) : ∀ {n : Nat}, x < n → Ab (x : Int) at_ n = 0
  | 0, h => by omega
  | n + 1, h => by
    by_cases e : n = at_
    · subst e
      rw [Ab_at, Ab_zero hx (by omega)]
    · rw [Ab_eq e]
      by_cases e2 : x = n
      · subst e2
        rw [Int.sub_self, Int.mul_zero]
      · rw [Ab_zero hx (by omega), Int.zero_mul]
theorem Tp_low {at_ : Nat} : ∀ {n : Nat}, n ≤ at_ → Tp (at_ : Int) n * fct (at_ - n) = fct at_
  | 0, _ => by rw [Nat.sub_zero]; exact Int.one_mul _
  | n + 1, h => by
    have ih := Tp_low (at_ := at_) (n := n) (by omega)
    obtain ⟨k, hk⟩ : ∃ k, at_ - n = k + 1 := ⟨at_ - n - 1, by omega⟩
    have e : at_ - (n + 1) = k := by omega
    rw [hk] at ih
    rw [e]
    show Tp (at_ : Int) n * ((at_ : Int) - (n : Int)) * fct k = _
    have e2 : (at_ : Int) - (n : Int) = (k : Int) + 1 := by omega
    rw [e2, Int.mul_assoc, Int.mul_comm ((k : Int) + 1)]
    exact ih
theorem Ab_hi {at_ : Nat} : ∀ m : Nat, Ab (at_ : Int) at_ (at_ + 1 + m) = fct at_ * (sg m * fct m)
  | 0 => by
    show Ab (at_ : Int) at_ (at_ + 1) = _
    rw [Ab_at, Ab_lt (Nat.le_refl _)]
    have h := Tp_low (at_ := at_) (Nat.le_refl at_)
    rw [Nat.sub_self] at h
    have e : fct 0 = 1 := rfl
    have e2 : sg 0 = 1 := rfl
    rw [e, Int.mul_one] at h
    rw [h, e, e2, Int.mul_one, Int.mul_one]
  | m + 1 => by
    show Ab (at_ : Int) at_ (at_ + 1 + m + 1) = _
    rw [Ab_eq (by omega), Ab_hi m, sg_succ]
    show _ = fct at_ * (-sg m * (fct m * ((m : Int) + 1)))
    have e : (at_ : Int) - ((at_ + 1 + m : Nat) : Int) = -((m : Int) + 1) := by omega
    rw [e]
    grind
theorem IsPrime.mulI {p : Nat} {a b : Int} (hp : IsPrime p) (h : (p : Int) ∣ a * b) : (p : Int) ∣ a ∨ (p : Int) ∣ b := by
  have h' : p ∣ a.natAbs * b.natAbs := by
    rw [← Int.natAbs_mul]
    exact Int.natAbs_dvd_natAbs.mpr h
  rcases hp.mul h' with h1 | h1
  · exact .inl (Int.ofNat_dvd_left.mpr h1)
  · exact .inr (Int.ofNat_dvd_left.mpr h1)
theorem small_dvd {p : Nat} {z : Int} (h : (p : Int) ∣ z) (h1 : -(p : Int) < z) (h2 : z < p) : z = 0 := by
  obtain ⟨q, hq⟩ := h
  have hp : 0 < (p : Int) := by omega
  by_cases h0 : q = 0
  · rw [hq, h0, Int.mul_zero]
  · exfalso
    rcases Int.lt_or_gt_of_ne h0 with hl | hl
    · have : (p : Int) * q ≤ p * (-1) := Int.mul_le_mul_of_nonneg_left (by omega) (by omega)
      omega
    · have : (p : Int) * 1 ≤ p * q := Int.mul_le_mul_of_nonneg_left (by omega) (by omega)
      omega
theorem one_not {p : Nat} (hp : IsPrime p) : ¬ (p : Int) ∣ 1 := fun h => by
  have := small_dvd h (by have := hp.1; omega) (by have := hp.1; omega)
  omega
theorem Ab_not {p at_ : Nat} {x : Int} (hp : IsPrime p) : ∀ {n : Nat}, (∀ o : Nat, o < n → o ≠ at_ → ¬ (p : Int) ∣ x - (o : Int)) → ¬ (p : Int) ∣ Ab x at_ n
  | 0, _ => one_not hp
  | n + 1, h => by
    have ih := Ab_not (n := n) hp fun o ho => h o (by omega)
    by_cases e : n = at_
    · subst e
      rw [Ab_at]
      exact ih
    · rw [Ab_eq e]
      intro hd
      rcases hp.mulI hd with h1 | h1
      · exact ih h1
      · exact h n (by omega) e h1
theorem Ab_own {p at_ n : Nat} (hp : IsPrime p) (ha : at_ < n) (hn : n ≤ p) : ¬ (p : Int) ∣ Ab (at_ : Int) at_ n :=
  Ab_not hp fun o ho hne hd => by
    have := small_dvd hd (by omega) (by omega)
    omega
/-- the share of the index at_ at x -/
def Bas (p n at_ : Nat) (x v : Int) : Prop := 0 ≤ v ∧ v < p ∧ (p : Int) ∣ v * Ab (at_ : Int) at_ n - Ab x at_ n
theorem Bas.uniq {p n at_ : Nat} {x u v : Int} (hp : IsPrime p) (ha : at_ < n) (hn : n ≤ p) (hu : Bas p n at_ x u) (hv : Bas p n at_ x v) : u = v := by
  have h : (p : Int) ∣ (u - v) * Ab (at_ : Int) at_ n := by
    have := Int.dvd_sub hu.2.2 hv.2.2
    have e : (u - v) * Ab (at_ : Int) at_ n = u * Ab (at_ : Int) at_ n - Ab x at_ n - (v * Ab (at_ : Int) at_ n - Ab x at_ n) := by grind
    rw [e]
    exact this
  rcases hp.mulI h with h1 | h1
  · have := small_dvd h1 (by have := hu.1; have := hv.2.1; omega) (by have := hv.1; have := hu.2.1; omega)
    omega
  · exact absurd h1 (Ab_own hp ha hn)
theorem Bas.ind {p n at_ x : Nat} (hp : IsPrime p) (hx : x < n) : Bas p n at_ (x : Int) (if at_ = x then 1 else 0) := by
  have hp2 := hp.1
  refine ⟨by split <;> omega, by split <;> omega, ?_⟩
  by_cases e : at_ = x
  · subst e
    rw [if_pos rfl, Int.one_mul, Int.sub_self]
    exact Int.dvd_zero _
  · rw [if_neg e, Int.zero_mul, Ab_zero (fun z => e z.symm) hx, Int.sub_self]
    exact Int.dvd_zero _
/-- by the inverse of the whole bottom -/
theorem Bas.inv {p n at_ : Nat} {x tp bot y : Int} (ha : at_ < n) (hp2 : 2 ≤ p) (ht : (p : Int) ∣ tp - Tp x n) (hb : (p : Int) ∣ bot - Ab (at_ : Int) at_ n) (hy : y * ((x - (at_ : Int)) * bot) % p = 1) : Bas p n at_ x (tp * y % p) := by
  refine ⟨Int.emod_nonneg _ (by omega), Int.emod_lt_of_pos _ (by omega), ?_⟩
  rw [Tp_split ha] at ht
  generalize Ab (at_ : Int) at_ n = A at *
  generalize Ab x at_ n = U at *
  generalize x - (at_ : Int) = D at *
  obtain ⟨t1, h1⟩ := ht
  obtain ⟨t2, h2⟩ := hb
  have h3 := Int.mul_ediv_add_emod (y * (D * bot)) p
  rw [hy] at h3
  have h4 := Int.mul_ediv_add_emod (tp * y) p
  generalize y * (D * bot) / (p : Int) = t3 at *
  generalize tp * y / (p : Int) = t4 at *
  generalize tp * y % (p : Int) = v at *
  refine ⟨t1 * y * A - t4 * A + U * (t3 - D * y * t2), ?_⟩
  have e1 : tp = D * U + p * t1 := by omega
  have e2 : bot = A + p * t2 := by omega
  have e3 : v = tp * y - p * t4 := by omega
  subst e1 e2 e3
  have e5 : y * (D * (A + p * t2)) = p * t3 + 1 := by omega
  have e6 : U * (y * (D * (A + p * t2))) = U * (p * t3 + 1) := by rw [e5]
  grind
theorem pow_dvd {p a b : Int} (h : p ∣ a - b) : ∀ k : Nat, p ∣ a ^ k - b ^ k
  | 0 => by rw [Int.pow_zero, Int.pow_zero, Int.sub_self]; exact Int.dvd_zero _
  | k + 1 => by
    obtain ⟨u, hu⟩ := pow_dvd h k
    obtain ⟨v, hv⟩ := h
    refine ⟨u * a + b ^ k * v, ?_⟩
    rw [Int.pow_succ, Int.pow_succ]
    have e1 : a ^ k = b ^ k + p * u := by omega
    have e2 : a = b + p * v := by omega
    rw [e1]
    generalize b ^ k = B
    subst e2
    grind
/-- by Fermat's power -/
theorem Bas.pow {p n at_ : Nat} {x ab be pw : Int} (hp : IsPrime p) (hat : at_ < n) (hn : n ≤ p) (hbe0 : 0 ≤ be) (ha : (p : Int) ∣ ab - Ab x at_ n) (hb : (p : Int) ∣ be - Ab (at_ : Int) at_ n) (hw : (p : Int) ∣ pw - be ^ (p - 2)) : Bas p n at_ x (ab * pw % p) := by
  have hp2 := hp.1
  refine ⟨Int.emod_nonneg _ (by omega), Int.emod_lt_of_pos _ (by omega), ?_⟩
  have hA := Ab_own hp hat hn
  generalize Ab (at_ : Int) at_ n = A at *
  generalize Ab x at_ n = U at *
  have hbn : ¬ (p : Int) ∣ be := fun h => hA (by
    have e : A = be - (be - A) := by omega
    rw [e]
    exact Int.dvd_sub h hb)
  obtain ⟨bn, rfl⟩ : ∃ bn : Nat, be = (bn : Int) := ⟨be.toNat, by omega⟩
  have hf : bn ^ (p - 1) % p = 1 % p := fermat hp fun h => hbn (Int.ofNat_dvd.mpr h)
  have hf2 : ((bn : Int) ^ (p - 1)) % (p : Int) = 1 := by
    have h1 : 1 % p = 1 := Nat.mod_eq_of_lt (by omega)
    rw [h1] at hf
    have e : (((bn ^ (p - 1) % p : Nat)) : Int) = 1 := by rw [hf]; rfl
    rw [Int.natCast_emod, Int.natCast_pow] at e
    exact e
  have h3 := Int.mul_ediv_add_emod ((bn : Int) ^ (p - 1)) p
  rw [hf2] at h3
  obtain ⟨k, hk⟩ : ∃ k, p = k + 2 := ⟨p - 2, by omega⟩
  have e1 : p - 1 = k + 1 := by omega
  have e2 : p - 2 = k := by omega
  rw [e1, Int.pow_succ] at h3
  rw [e2] at hw
  generalize (bn : Int) ^ k = W at *
  generalize (W * (bn : Int)) / (p : Int) = t3 at *
  obtain ⟨t1, h1⟩ := ha
  obtain ⟨t2, h2⟩ := hb
  obtain ⟨t5, h5⟩ := hw
  have h4 := Int.mul_ediv_add_emod (ab * pw) p
  generalize ab * pw / (p : Int) = t4 at *
  generalize ab * pw % (p : Int) = v at *
  have g1 : ab = U + p * t1 := by omega
  have g2 : A = (bn : Int) - p * t2 := by omega
  have g3 : v = ab * pw - p * t4 := by omega
  have g5 : pw = W + p * t5 := by omega
  have g6 : W * (bn : Int) = 1 + p * t3 := by omega
  subst g1 g5
  subst g3
  subst g2
  refine ⟨t1 * (W + p * t5) * ((bn : Int) - p * t2) - t4 * ((bn : Int) - p * t2) + U * t3 + U * t5 * ((bn : Int) - p * t2) - U * W * t2, ?_⟩
  have g7 : U * (W * (bn : Int)) = U * (1 + p * t3) := by rw [g6]
  grind
/-- sums -/
def S1 (f : Nat → Int) : Nat → Int
  | 0 => 0
  | n + 1 => S1 f n + f n
theorem S1_congr {f g : Nat → Int} : ∀ {n : Nat}, (∀ i, i < n → f i = g i) → S1 f n = S1 g n
  | 0, _ => rfl
  | n + 1, h => by
    show S1 f n + f n = S1 g n + g n
    rw [S1_congr fun i hi => h i (by omega), h n (by omega)]
theorem S1_mul {f : Nat → Int} {c : Int} : ∀ {n : Nat}, S1 (fun i => c * f i) n = c * S1 f n
  | 0 => (Int.mul_zero c).symm
  | n + 1 => by
    show S1 (fun i => c * f i) n + c * f n = c * (S1 f n + f n)
    rw [S1_mul, Int.mul_add]
theorem S1_one {n k : Nat} {f : Nat → Int} (h : ∀ i, i ≠ k → f i = 0) : k < n → S1 f n = f k := by
  induction n with
  | zero => intro hk; omega
  | succ n ih =>
    intro hk
    show S1 f n + f n = f k
    by_cases e : k = n
    · subst e
      have z : ∀ m, m ≤ k → S1 f m = 0 := fun m => by
        induction m with
        | zero => intro _; rfl
        | succ m ih => intro hm; show S1 f m + f m = 0; rw [ih (by omega), h m (by omega)]; rfl
      rw [z k (Nat.le_refl _), Int.zero_add]
    · rw [ih (by omega), h n (fun z => e z.symm), Int.add_zero]
/-- the value of the table's polynomial -/
def Itp (p : Nat) (t : List (List Int)) (x y v : Int) : Prop := ∃ R C : Nat → Int, (∀ i, i < t.length → Bas p t.length i x (R i)) ∧ (∀ j, j < t.length → Bas p t.length j y (C j)) ∧
  v = S1 (fun i => R i * S1 (fun j => C j * (t.getD i []).getD j 0) t.length) t.length % p
theorem Itp.uniq {p : Nat} {t : List (List Int)} {x y u v : Int} (hp : IsPrime p) (hn : t.length ≤ p) (hu : Itp p t x y u) (hv : Itp p t x y v) : u = v := by
  obtain ⟨R, C, h1, h2, h3⟩ := hu
  obtain ⟨R', C', h1', h2', h3'⟩ := hv
  rw [h3, h3']
  congr 1
  refine S1_congr fun i hi => ?_
  rw [(h1 i hi).uniq hp hi hn (h1' i hi)]
  congr 1
  exact S1_congr fun j hj => by rw [(h2 j hj).uniq hp hj hn (h2' j hj)]
theorem Itp.own {p : Nat} {t : List (List Int)} {x y : Nat} (hp : IsPrime p) (hx : x < t.length) (hy : y < t.length) (h0 : 0 ≤ (t.getD x []).getD y 0) (h1 : (t.getD x []).getD y 0 < p) : Itp p t x y ((t.getD x []).getD y 0) := by
  refine ⟨fun i => if i = x then 1 else 0, fun j => if j = y then 1 else 0, fun i _ => .ind hp hx, fun j _ => .ind hp hy, ?_⟩
  rw [S1_one (k := x) (fun i hi => by show (if i = x then (1 : Int) else 0) * _ = 0; rw [if_neg hi, Int.zero_mul]) hx]
  show _ = (if x = x then (1 : Int) else 0) * S1 _ _ % _
  rw [if_pos rfl, Int.one_mul, S1_one (k := y) (fun j hj => by show (if j = y then (1 : Int) else 0) * _ = 0; rw [if_neg hj, Int.zero_mul]) hy]
  show _ = (if y = y then (1 : Int) else 0) * _ % _
  rw [if_pos rfl, Int.one_mul, Int.emod_eq_of_lt h0 h1]
/-- the share, written out -/
def BsV (p n i : Nat) (x : Int) : Int := Ab x i n * (Ab (i : Int) i n % p) ^ (p - 2) % p
theorem BsV.ok {p n i : Nat} {x : Int} (hp : IsPrime p) (hi : i < n) (hn : n ≤ p) : Bas p n i x (BsV p n i x) := by
  have hp2 := hp.1
  refine Bas.pow (be := Ab (i : Int) i n % p) hp hi hn (Int.emod_nonneg _ (by omega)) ⟨0, by omega⟩ ?_ ⟨0, by omega⟩
  have := Int.mul_ediv_add_emod (Ab (i : Int) i n) p
  exact ⟨-(Ab (i : Int) i n / p), by rw [Int.mul_neg]; omega⟩
theorem Itp.mk' {p : Nat} {t : List (List Int)} {x y v : Int} (hp : IsPrime p) (hn : t.length ≤ p) (h0 : 0 ≤ v) (h1 : v < p) (hd : (p : Int) ∣ v - S1 (fun i => BsV p t.length i x * S1 (fun j => BsV p t.length j y * (t.getD i []).getD j 0) t.length) t.length) : Itp p t x y v := by
  refine ⟨fun i => BsV p t.length i x, fun j => BsV p t.length j y, fun i hi => BsV.ok hp hi hn, fun j hj => BsV.ok hp hj hn, ?_⟩
  generalize S1 _ _ = s at *
  have hp2 := hp.1
  have h4 := Int.mul_ediv_add_emod s p
  have h5 := Int.emod_nonneg s (show (p : Int) ≠ 0 by omega)
  have h6 := Int.emod_lt_of_pos s (show (0 : Int) < p by omega)
  have h7 : (p : Int) ∣ v - s % p := by
    have e : v - s % p = v - s + p * (s / p) := by omega
    rw [e]
    exact Int.dvd_add hd (Int.dvd_mul_right _ _)
  have := small_dvd h7 (by omega) (by omega)
  omega
end Br.F

/-! ### zip of a list and a tuple -/
namespace Br
open PySem PySem.Spec PyProof.Rows L2
def ItzM (K : PySem.W.Frag) (a b : Addr) : It where
  go := fun i H => ∃ (xs ys : List V), SqL K H a xs ∧ SqT K H b ys ∧ i < xs.length ∧ i < ys.length
  yld := fun i H v H' => ∃ (p : Addr) (x y : V), v = .ref p ∧ H p = none ∧ H' = upd H p (.tup [x, y]) ∧ (∀ xs, SqL K H a xs → xs[i]? = some x) ∧ (∀ ys, SqT K H b ys → ys[i]? = some y)
  stop := fun i H => ∃ (xs ys : List V), SqL K H a xs ∧ SqT K H b ys ∧ i ≤ xs.length ∧ i ≤ ys.length ∧ (i = xs.length ∨ i = ys.length)
def MixSt (a b z p q i1 i2 : Addr) (i : Nat) (h : Heap) : Prop :=
  IsZip h z p q .none ∧ IsTupOf2 h p (.ref i1) (.ref i2) ∧ (∃ u v, IsTupOf2 h q u v) ∧ h.IsListIter i1 a i ∧ h.IsTupleIter i2 b i
theorem MixSt.sizes {a b z p q i1 i2 : Addr} {i : Nat} {h : Heap} (m : MixSt a b z p q i1 i2 i h) : z < h.objs.size ∧ p < h.objs.size ∧ q < h.objs.size ∧ i1 < h.objs.size ∧ i2 < h.objs.size := by
  obtain ⟨e1, e2, ⟨_, _, e3⟩, ⟨_, e4, _⟩, ⟨_, e5, _⟩⟩ := m
  exact ⟨Heap.lt_size e1, Heap.lt_size e2, Heap.lt_size e3, Heap.lt_size e4, Heap.lt_size e5⟩
theorem in5 {c z p q i1 i2 : Addr} (h : c ∈ [z, p, q, i1, i2]) : c = z ∨ c = p ∨ c = q ∨ c = i1 ∨ c = i2 := by simpa using h
theorem turn_mix {P : Program} {w : World} {K : PySem.W.Frag} {elts : List Expr} {kk : Nat} {tpos : Pos} {a b z p q i1 i2 : Addr} (S : ZipSep2 z p q i1 i2 [i1, a] [i2, b]) :
    Turn P w K (.Tuple elts kk tpos) (ItzM K a b) [z, p, q, i1, i2] z (MixSt a b z p q i1 i2) := by
  have ha : a ≠ i1 ∧ b ≠ i2 ∨ True := .inr trivial
  refine ⟨by simp, ?obj, ?keep, ?item, ?done, ?self⟩
  case obj =>
    intro i h st c hc
    obtain ⟨e1, e2, ⟨_, _, e3⟩, ⟨o4, e4, _, d4⟩, ⟨o5, e5, _, d5⟩⟩ := st
    rcases in5 hc with rfl | rfl | rfl | rfl | rfl
    · exact ⟨_, e1, fun _ z => nomatch z⟩
    · exact ⟨_, e2, fun _ z => nomatch z⟩
    · exact ⟨_, e3, fun _ z => nomatch z⟩
    · exact ⟨_, e4, fun _ z => by rw [d4] at z; cases z⟩
    · exact ⟨_, e5, fun _ z => by rw [d5] at z; cases z⟩
  case keep =>
    intro i h h' st k
    obtain ⟨e1, e2, ⟨u, v, e3⟩, e4, e5⟩ := st
    exact ⟨k _ (by simp) _ e1, k _ (by simp) _ e2, ⟨u, v, k _ (by simp) _ e3⟩, e4.at fun o => k _ (by simp) o, e5.at fun o => k _ (by simp) o⟩
  case item =>
    intro X hP hw hK hc i pins s σ H E I hf st hg
    subst hP hw hK
    have sz := st.sizes
    obtain ⟨e1, e2, ⟨u, v, e3⟩, e4, e5⟩ := st
    obtain ⟨xs, ys, hx, hy, lx, ly⟩ := hg
    obtain ⟨us, rx, p1, _⟩ := I.list hx
    obtain ⟨ws, ry, p2, _⟩ := I.tuple hy
    have nx := rx.length
    have ny := ry.length
    have hd : X.A.in1.handled = none := I.ok.hd hc
    have na : a ≠ i1 := fun e => by
      obtain ⟨o, eo, co, _⟩ := e4
      obtain ⟨o', _, eo', co', _⟩ := p1
      rw [e, eo] at eo'
      cases eo'
      rw [co] at co'
      simp at co'
    have nb : b ≠ i2 := fun e => by
      obtain ⟨o, eo, co, _⟩ := e5
      obtain ⟨o', eo', co', _⟩ := p2
      rw [e, eo] at eo'
      cases eo'
      rw [co] at co'
      simp at co'
    refine wpAny_pyNext_zipD2_item S (Draws.list hd i1 a na us.toArray) (Draws.tuple hd i2 b nb ws.toArray) e1 e2 e3 ⟨e4, p1.isList⟩ ⟨e5, p2⟩ (by simp; omega) (by simp; omega) ?_
    intro x1 x2 h1 tk q1 q2 z1 t1 s1 s2 nw hs hk
    refine ⟨_, rfl, wpAny_letOwnedTupleGo_zip (s := { s with heap := h1, toks := tk }) z1 fun h2 z2 sb => ?_⟩
    obtain ⟨x, gx⟩ : ∃ x, xs[i]? = some x := ⟨_, List.getElem?_eq_getElem lx⟩
    obtain ⟨y, gy⟩ : ∃ y, ys[i]? = some y := ⟨_, List.getElem?_eq_getElem ly⟩
    obtain ⟨ux, gux, rux⟩ := rx.get gx
    obtain ⟨uy, guy, ruy⟩ := ry.get gy
    have ex : x1 = ux := by
      rw [List.getElem?_toArray, gux] at q1
      exact (Option.some.inj q1).symm
    have ey : x2 = uy := by
      rw [List.getElem?_toArray, guy] at q2
      exact (Option.some.inj q2).symm
    subst ex ey
    have ne : ∀ {c : Addr}, c < s.heap.objs.size → s.heap.objs.size ≠ c := fun h => Nat.ne_of_gt h
    have new2 : h2.get? s.heap.objs.size = some { cls := .type "tuple", data := .seq #[x1, x2] } := (sb.2 _ (ne sz.1)).trans nw
    have kp : ∀ c o, c ∉ [z, p, q, i1, i2] → s.heap.get? c = some o → h2.get? c = some o := fun c o hc e => by
      have m : ∀ d, d ∈ [z, p, q, i1, i2] → c ≠ d := fun d hd e => hc (e ▸ hd)
      exact (sb.2 c (m z (by simp))).trans (hk c o (m z (by simp)) (m q (by simp)) (m i1 (by simp)) (m i2 (by simp)) e)
    have ok : ObjOk X.prog X.w (upd H s.heap.objs.size (.tup [x, y])) h2 s.heap.objs.size (.tup [x, y]) :=
      ⟨(show 2 ≤ sizeLine by decide), [x1, x2], .cons rux (.cons ruy .nil), ⟨_, new2, rfl, 0, rfl⟩⟩
    have J := I.turnedNew (t' := tk) kp hf (Nat.le_refl _) ok
    refine ⟨.ref s.heap.objs.size, _, J, rfl, ⟨_, x, y, rfl, I.hok.fresh (Nat.le_refl _), rfl, fun l hl => by rw [I.list_inj hl hx]; exact gx, fun l hl => by rw [I.tuple_inj hl hy]; exact gy⟩, ?_, fun c hcm => ?_⟩
    · refine ⟨z2, (sb.2 _ S.TIz).trans (hk _ _ S.TIz S.TITO S.TIi1 S.TIi2 e2), ⟨_, _, (sb.2 _ S.TOz).trans t1⟩, s1.1.at fun o e => (sb.2 _ S.zi1.symm).trans e, s2.1.at fun o e => (sb.2 _ S.zi2.symm).trans e⟩
    · rw [upd_ne]
      · exact (hf c hcm).1
      · rcases in5 hcm with rfl | rfl | rfl | rfl | rfl
        · exact (ne sz.1).symm
        · exact (ne sz.2.1).symm
        · exact (ne sz.2.2.1).symm
        · exact (ne sz.2.2.2.1).symm
        · exact (ne sz.2.2.2.2).symm
  case done =>
    intro X hP hw hK hc i pins s σ H E I hf st hg
    subst hP hw hK
    obtain ⟨e1, e2, ⟨u, v, e3⟩, e4, e5⟩ := st
    obtain ⟨xs, ys, hx, hy, lx, ly, hend⟩ := hg
    obtain ⟨us, rx, p1, _⟩ := I.list hx
    obtain ⟨ws, ry, p2, _⟩ := I.tuple hy
    have nx := rx.length
    have ny := ry.length
    have hd : X.A.in1.handled = none := I.ok.hd hc
    have na : a ≠ i1 := fun e => by
      obtain ⟨o, eo, co, _⟩ := e4
      obtain ⟨o', _, eo', co', _⟩ := p1
      rw [e, eo] at eo'
      cases eo'
      rw [co] at co'
      simp at co'
    have nb : b ≠ i2 := fun e => by
      obtain ⟨o, eo, co, _⟩ := e5
      obtain ⟨o', eo', co', _⟩ := p2
      rw [e, eo] at eo'
      cases eo'
      rw [co] at co'
      simp at co'
    refine wpAny_pyNext_zipD2_end S (Draws.list hd i1 a na us.toArray) (Draws.tuple hd i2 b nb ws.toArray) e1 e2 e3 ⟨e4, p1.isList⟩ ⟨e5, p2⟩ (by simp; omega) (by simp; omega) (by simp; omega) ?_
    intro h1 tk hk
    exact ⟨rfl, I.turnedL (t' := tk) (ch := [z, p, q, i1, i2]) (fun c o hc e => by
      have m : ∀ d, d ∈ [z, p, q, i1, i2] → c ≠ d := fun d hd e => hc (e ▸ hd)
      exact hk c o (m z (by simp)) (m q (by simp)) (m i1 (by simp)) (m i2 (by simp)) e) hf⟩
  case self => exact fun A i s Q E st h => wpAny_pyIter_zip st.1 h
def iZipM (K : PySem.W.Frag) (ta : TA) : TI := fun σ H R => ta σ H fun vs H1 => ∃ a b xs ys, vs = [.ref a, .ref b] ∧ SqL K H1 a xs ∧ SqT K H1 b ys ∧ R (ItzM K a b) H1
theorem pi_zipM {X : Cx} {e e2 : Expr} {ta : TA} {p pos tpos : Pos} {elts : List Expr} {kk : Nat} (hg : Gl X "zip") (hm : X.mg "zip" = none) (ha : PA X [e, e2] ta)
    (hs : starEach [e, e2] X.env = (false, eval e X.env) :: starEach [e2] X.env := by rfl) (hpl : (backTo pos (starEach [e2] X.env)).any (·.1) = false := by rfl) :
    PI X (.Tuple elts kk tpos) (.Call (.Name "zip" p) [e, e2] [] pos) (iZipM X.K ta) := by
  refine ⟨fun pins s σ H R I h => Call_ (ld_blt I hg hm PyProof.Rows.boot_zip (PyProof.Rows.callWith_type1 (thn (ha.run pos pins s σ H _ I h) ?_) hs hpl))⟩
  rintro us s1 ⟨vs, H1, I1, r1, a, b, xs, ys, rfl, hx, hy, go⟩
  obtain ⟨u1, u2, rfl, ra, rb⟩ : ∃ u1 u2, us = [u1, u2] ∧ RelV (.ref a) u1 ∧ RelV (.ref b) u2 := by
    cases r1 with
    | cons r rr =>
      cases rr with
      | cons r' rr =>
        cases rr
        exact ⟨_, _, rfl, r, r'⟩
  cases (show u1 = Value.ref a from ra)
  cases (show u2 = Value.ref b from rb)
  obtain ⟨us, rx, p1, _⟩ := I1.list hx
  obtain ⟨ws, ry, p2, _⟩ := I1.tuple hy
  have la : a < s1.heap.objs.size := p1.lt
  have lb : b < s1.heap.objs.size := by
    obtain ⟨_, e, _⟩ := id p2
    exact Heap.lt_size e
  refine zip_begins2 (begins_list a us.toArray) (begins_tuple b ws.toArray) p1.isList p2 ?_
  intro h1 hz hp hq g1 g2 hsz hk
  refine wpAny_pyIter_zip hz ?_
  have sep := zip_sep2 (N := s1.heap.objs.size) (fp1 := [a]) (fp2 := [b]) (fun c hc => by
    have e : c = a := by simpa using hc
    rw [e]; exact la) (fun c hc => by
    have e : c = b := by simpa using hc
    rw [e]; exact lb)
  refine ⟨_, _, _, _, H1, rfl, I1.kept (t' := s1.toks) hk, turn_mix sep, ⟨hz, hp, ⟨_, _, hq⟩, ⟨_, g1, rfl, rfl⟩, ⟨_, g2, rfl, rfl⟩⟩, fun c hc => ?_, go⟩
  have hle : s1.heap.objs.size ≤ c := by
    rcases in5 hc with e | e | e | e | e
    · rw [e]; exact Nat.le_add_right _ _
    · rw [e]; exact Nat.le_add_right _ _
    · rw [e]; exact Nat.le_add_right _ _
    · rw [e]; exact Nat.le_refl _
    · rw [e]; exact Nat.le_add_right _ _
  exact I1.fpOk hle (I1.hok.fresh hle)
theorem walk_mix {K : PySem.W.Frag} {a b : Addr} {xs ys : List V} {n : Nat} (h1 : xs.length = n) (h2 : ys.length = n) : Walk (ItzM K a b) n (fun H => SqL K H a xs ∧ SqT K H b ys) (YPair (fun i => xs[i]?) (fun i => ys[i]?)) := by
  refine ⟨fun i H hi q => ⟨xs, ys, q.1, q.2, by omega, by omega⟩, fun H q => ⟨xs, ys, q.1, q.2, by omega, by omega, by omega⟩, fun i H v H' hi q y => ?_⟩
  obtain ⟨p, x, y, e1, e2, e3, e4, e5⟩ := y
  exact ⟨p, x, y, e1, e2, e3, e4 _ q.1, e5 _ q.2⟩
/-- a for, a comprehension by a walk -/
theorem x_forI {wi : TI} {g : TG} {tb : TS} {D : Ends} {σ : L2.St} {H : Hp} {J : It} {n : Nat} {G : Hp → Prop} {Y : Nat → Hp → V → Hp → Prop} (hw : ∀ R : It → Hp → Prop, R J H → wi σ H R) (w : Walk J n G Y) (P : Nat → L2.St → Hp → Prop) (h0 : P 0 σ H)
    (hG : ∀ i σ' H', i ≤ n → P i σ' H' → G H') (hs : ∀ i x σ' H' H2, i < n → P i σ' H' → Y i H' x H2 → g x σ' H2 fun σ2 H3 => tb ⟨P (i + 1), D.rt, D.nx, P (i + 1)⟩ σ2 H3) (hd : ∀ σ' H', P n σ' H' → D.nx σ' H') : tFor wi g tb D σ H :=
  hw _ (for_it w P h0 hG hs hd)
theorem x_lcI {wi : TI} {g : TG} {te : TE} {vs : List Nat} {Q : VK} {σ : L2.St} {H : Hp} {J : It} {n : Nat} {G : Hp → Prop} {Y : Nat → Hp → V → Hp → Prop} (hw : ∀ R : It → Hp → Prop, R J H → wi σ H R) (w : Walk J n G Y) (P : Addr → Nat → Hp → Prop) (h0 : ∀ p, H p = none → P p 0 (upd H p (.lst [])))
    (hG : ∀ p i H', i ≤ n → H p = none → P p i H' → G H')
    (hs : ∀ p i x H' H2, i < n → H p = none → P p i H' → Y i H' x H2 → g x (wipe σ vs) H2 fun σ2 H3 => wipe σ2 vs = wipe σ vs ∧ te σ2 H3 fun y H4 => ∃ acc, H4 p = some (.lst acc) ∧ acc.length < sizeLine ∧ P p (i + 1) (upd H4 p (.lst (acc ++ [y]))))
    (hg : ∀ x σ' H' (R R' : L2.St → Hp → Prop), (∀ σ2 H2, R σ2 H2 → R' σ2 H2) → g x σ' H' R → g x σ' H' R') (hd : ∀ p H', H p = none → P p n H' → Q (.ref p) H') : tLc wi g tYes te vs σ H Q := by
  refine hw _ fun p hp => ?_
  refine lc_it w (Qd := fun H' => Q (.ref p) H') (P p) (h0 p hp) (fun i H' hi q => hG p i H' hi hp q) (fun i x H' H2 hi q y => ?_) fun H' q => hd p H' hp q
  refine hg _ _ _ _ _ (fun σ2 H3 z => ?_) (hs p i x H' H2 hi hp q y)
  refine ⟨z.1, ?_⟩
  unfold tYes
  exact iteT z.2
/-- a comprehension of truths, item by item -/
theorem x_lcB {wi : TI} {te : TE} {vs : List Nat} {j : Nat} {Q : VK} {σ : L2.St} {H : Hp} {J : It} {G : Hp → Prop} {xs : List V} (f : Nat → Bool) (hw : ∀ R : It → Hp → Prop, R J H → wi σ H R) (w : Walk J xs.length G (YAt xs)) (hn : xs.length ≤ 100000)
    (hG : ∀ H', Same H H' → G H') (hv : ∀ x, wipe ((wipe σ vs).set j (some x)) vs = wipe σ vs)
    (he : ∀ (i : Nat) x H', Same H H' → xs[i]? = some x → ∀ R : VK, (∀ H2, Same H' H2 → R (.bl (f i)) H2) → te ((wipe σ vs).set j (some x)) H' R)
    (hd : ∀ p H', H p = none → Same H H' → H' p = some (.lst (((List.range xs.length).map f).map V.bl)) → Q (.ref p) H') : tLc wi (gName j) tYes te vs σ H Q := by
  refine x_lcI hw w (fun p i H' => Same H H' ∧ H' p = some (.lst (((List.range i).map f).map V.bl))) (fun p hp => ⟨same_upd hp, upd_same⟩) (fun p i H' _ _ z => hG H' z.1) ?_ (fun x σ' H' R R' hr h => hr _ _ h) fun p H' hp z => hd p H' hp z.1 z.2
  rintro p i x H' H2 hi hp ⟨hs, hl⟩ ⟨rfl, hx⟩
  refine x_gName ⟨hv x, he i x _ hs hx _ fun H3 hs3 => ?_⟩
  refine ⟨_, hs3 _ _ hl, lt_line (by simp; omega), sput (hs.trans hs3) hp, ?_⟩
  rw [upd_same, List.range_succ, List.map_append, List.map_append]
  rfl
theorem x_all {K : PySem.W.Frag} {Q : VK} {H : Hp} {p : Addr} {bs : List Bool} (h : H p = some (.lst (bs.map V.bl))) (q : Q (.bl (bs.all id)) H) : rAll K [.ref p] H Q := ⟨p, bs, rfl, sq_of h, q⟩
theorem x_any {K : PySem.W.Frag} {Q : VK} {H : Hp} {p : Addr} {bs : List Bool} (h : H p = some (.lst (bs.map V.bl))) (q : Q (.bl (bs.any id)) H) : rAny K [.ref p] H Q := ⟨p, bs, rfl, sq_of h, q⟩
theorem all_range {n : Nat} {f : Nat → Bool} (h : ∀ i, i < n → f i = true) : ((List.range n).map f).all id = true := by
  rw [List.all_eq_true]
  intro b hb
  obtain ⟨i, hi, rfl⟩ := List.mem_map.mp hb
  exact h i (List.mem_range.mp hi)
/-- the same, over something made on the way -/
theorem x_lcB0 {wi : TI} {te : TE} {vs : List Nat} {j : Nat} {Q : VK} {σ : L2.St} {H : Hp} {xs : List V} (f : Nat → Bool) (hn : xs.length ≤ 100000)
    (hw : ∀ R : It → Hp → Prop, (∀ (J : It) (G : Hp → Prop) (H1 : Hp), Same H H1 → Walk J xs.length G (YAt xs) → (∀ H', Same H1 H' → G H') → R J H1) → wi σ H R) (hv : ∀ x, wipe ((wipe σ vs).set j (some x)) vs = wipe σ vs)
    (he : ∀ (i : Nat) x H', Same H H' → xs[i]? = some x → ∀ R : VK, (∀ H2, Same H' H2 → R (.bl (f i)) H2) → te ((wipe σ vs).set j (some x)) H' R)
    (hd : ∀ p H', Same H H' → H' p = some (.lst (((List.range xs.length).map f).map V.bl)) → Q (.ref p) H') : tLc wi (gName j) tYes te vs σ H Q := by
  refine hw _ fun J G H1 s1 w hG => ?_
  exact x_lcB (wi := fun _ H R => R J H) (H := H1) f (fun R r => r) w hn hG hv (fun i x H' s hx R hR => he i x H' (s1.trans s) hx R hR) fun p H' _ s h => hd p H' (s1.trans s) h
end Br

/-! ### tables in the heap -/
namespace Br
open PySem PySem.Spec PyProof.Rows L2 Br.F
theorem map_app {xs : List Int} {y : Int} {H : Hp} {a : Addr} : (L2.upd H a (.lst (xs.map V.int ++ [.int y]))) a = some (.lst ((xs ++ [y]).map V.int)) := by rw [upd_same, List.map_append]; rfl
def TabAt (K : PySem.W.Frag) (H : Hp) (a : Addr) (t : List (List Int)) : Prop := ∃ as : List Addr, SqT K H a (as.map V.ref) ∧ as.length = t.length ∧ ∀ (i : Nat) r b, t[i]? = some r → as[i]? = some b → SqT K H b (r.map V.int)
theorem TabAt.same {K : PySem.W.Frag} {H H' : Hp} {a : Addr} {t : List (List Int)} (h : TabAt K H a t) (s : Same H H') : TabAt K H' a t := by
  obtain ⟨as, h1, h2, h3⟩ := h
  exact ⟨as, seqT s h1, h2, fun i r b e1 e2 => seqT s (h3 i r b e1 e2)⟩
structure IsTab (p : Nat) (t : List (List Int)) : Prop where
  pos : 1 ≤ t.length
  le : t.length ≤ p
  rows : ∀ (i : Nat) r, t[i]? = some r → r.length = t.length ∧ Rg 0 p r
theorem get_getD {l : List Int} {i : Nat} (h : i < l.length) : l[i]? = some (l.getD i 0) := by rw [List.getD_eq_getElem?_getD, List.getElem?_eq_getElem h]; rfl
theorem getD_of {l : List Int} {i : Nat} {z : Int} (h : l[i]? = some z) : l.getD i 0 = z := by rw [List.getD_eq_getElem?_getD, h]; rfl
theorem dvd_step {p ab U d : Int} (h : p ∣ ab - U) : p ∣ ab * d % p - U * d := by
  obtain ⟨u, hu⟩ := h
  have h4 := Int.mul_ediv_add_emod (ab * d) p
  refine ⟨u * d - ab * d / p, ?_⟩
  have e : ab = U + p * u := by omega
  grind
theorem TabAt.get {K : PySem.W.Frag} {H : Hp} {a : Addr} {t : List (List Int)} {as : List Addr} (h : as.length = t.length) (h3 : ∀ (i : Nat) r b, t[i]? = some r → as[i]? = some b → SqT K H b (r.map V.int)) {i : Nat} (hi : i < t.length) : ∃ r b, t[i]? = some r ∧ as[i]? = some b ∧ SqT K H b (r.map V.int) :=
  ⟨_, _, List.getElem?_eq_getElem hi, List.getElem?_eq_getElem (by omega), h3 i _ _ (List.getElem?_eq_getElem hi) (List.getElem?_eq_getElem (by omega))⟩
end Br

/-! ### match over tuples that begin with a word -/
namespace Br
open PySem PySem.Spec PyProof.Rows L2
/-- the values that captures bind, by name -/
def capB : List Pattern → List Value → List (Str × Value)
  | .MatchAs none (some x) _ :: ps, u :: us => (x, u) :: capB ps us
  | .MatchAs none none _ :: ps, _ :: us => capB ps us
  | _, _ => []
def isCaps : List Pattern → Bool
  | [] => true
  | .MatchAs none _ _ :: ps => isCaps ps
  | _ => false
/-- the slots behind captures -/
def bindS : List (Option Nat) → List V → L2.St → L2.St
  | some i :: is, v :: vs, σ => bindS is vs (σ.set i (some v))
  | none :: is, _ :: vs, σ => bindS is vs σ
  | _, _, σ => σ
theorem each_caps {M : Model} {A : Around} {E : Value → Shared → Prop} {s : Shared} {env : Env} : ∀ {ps : List Pattern} {us : List Value} {Q : Option (List (Str × Value)) → Shared → Prop}, isCaps ps = true → us.length = ps.length → Q (some (capB ps us)) s → wpAny M A (matchEach ps env us) Q E s
  | [], us, Q, _, _, h => by
    have e : capB [] us = [] := by cases us <;> rfl
    rw [e] at h
    exact wpAny_matchEach_nil h
  | .MatchAs none nm pos :: ps, u :: us, Q, hc, hl, h => by
    refine wpAny_matchEach_cons (wpAny_matchPattern_Capture (each_caps (ps := ps) hc (by simpa using hl) ?_)) rfl
    cases nm with
    | none => exact h
    | some x => exact h
  | .MatchAs none nm pos :: ps, [], Q, hc, hl, h => by simp at hl
  | .MatchAs (some p) nm pos :: ps, us, Q, hc, hl, h => by simp [isCaps] at hc
  | .MatchValue .. :: ps, us, Q, hc, hl, h => by simp [isCaps] at hc
  | .MatchSingleton .. :: ps, us, Q, hc, hl, h => by simp [isCaps] at hc
  | .MatchSequence .. :: ps, us, Q, hc, hl, h => by simp [isCaps] at hc
  | .MatchMapping .. :: ps, us, Q, hc, hl, h => by simp [isCaps] at hc
  | .MatchClass .. :: ps, us, Q, hc, hl, h => by simp [isCaps] at hc
  | .MatchStar .. :: ps, us, Q, hc, hl, h => by simp [isCaps] at hc
  | .MatchOr .. :: ps, us, Q, hc, hl, h => by simp [isCaps] at hc
/-- captures into slots -/
structure PCap (X : Cx) (ps : List Pattern) (is : List (Option Nat)) : Prop where
  caps : isCaps ps = true
  run : ∀ (pins : List (Addr × Obj)) (s : Shared) (σ : L2.St) (H : Hp) (vs : List V) (us : List Value), Inv X pins σ H s → Vals vs us → us.length = ps.length →
    wpAny (model X.prog X.w) X.A (assignInOrder ((capB ps us).map fun (n, _) => bindName X.env n) ((capB ps us).map (·.2))) (fun _ s' => Inv X pins (bindS is vs σ) H s') X.xe s
section
variable {X : Cx}
theorem pcap_nil : PCap X [] [] := ⟨rfl, fun pins s σ H vs us I r hl => by
  have e : us = [] := List.length_eq_zero_iff.mp hl
  subst e
  cases r
  exact wpAny_assignInOrder_none I⟩
theorem pcap_name (i : Nat) {x : Str} {pos : Pos} {ps : List Pattern} {is : List (Option Nat)} (hN : X.N.Nodup) (hi : X.N[i]? = some x) (hx : Loc X.env.scope x) (h : PCap X ps is) (hf : X.fn x = true ∨ X.env.scope.names.lookup x = some .local := by first | exact .inl rfl | exact .inr rfl) :
    PCap X (.MatchAs none (some x) pos :: ps) (some i :: is) := ⟨h.caps, fun pins s σ H vs us I r hl => by
  cases r with
  | nil => simp at hl
  | cons rv rr =>
    refine wpAny_assignInOrder_more (wpAny_bindName (store_ok I hN hi hx rv (fun s' I' => ?_) hf))
    exact h.run pins s' _ H _ _ I' rr (by simpa using hl)⟩
theorem pcap_wild {pos : Pos} {ps : List Pattern} {is : List (Option Nat)} (h : PCap X ps is) : PCap X (.MatchAs none none pos :: ps) (none :: is) := ⟨h.caps, fun pins s σ H vs us I r hl => by
  cases r with
  | nil => simp at hl
  | cons rv rr => exact h.run pins s _ H _ _ I rr (by simpa using hl)⟩
/-- the cases of a match, asked of a value -/
structure PCs (X : Cx) (cs : List MatchCase) (t : V → TS) : Prop where
  run : ∀ (first : Bool) (pins : List (Addr × Obj)) (s : Shared) (σ : L2.St) (H : Hp) (D : Ends) (v : V) (u : Value), Inv X pins σ H s → RelV v u → t v D σ H → wpAny (model X.prog X.w) X.A (matchCases cs X.env u first) (SP X pins D) X.xe s
def tMatch (te : TE) (t : V → TS) : TS := fun D σ H => te σ H fun v H1 => t v D σ H1
theorem ps_match {e : Expr} {te : TE} {cs : List MatchCase} {t : V → TS} {pos : Pos} (he : PE X e te) (hc : PCs X cs t) : PS X (.Match e cs pos) (tMatch te t) :=
  ⟨fun pins s σ H D I h => wpAny_Match (thn (he.run pins s σ H _ I h) fun u s1 ⟨v, H1, I1, r, q⟩ => hc.run true pins s1 σ H1 D v u I1 r q)⟩
def tNoCase : V → TS := fun _ D σ H => D.nx σ H
theorem pcs_nil : PCs X [] tNoCase := ⟨fun _ _ _ σ H _ _ _ I _ h => wpAny_matchCases_nil ⟨σ, H, I, h⟩⟩
def tElse (t : TS) : V → TS := fun _ => t
theorem pcs_else {pos : Pos} {body : List Stmt} {rest : List MatchCase} {t : TS} (hb : PSs X body t) : PCs X (⟨.MatchAs none none pos, none, body⟩ :: rest) (tElse t) :=
  ⟨fun _ pins s σ H D v u I r h => wpAny_matchCases_cons (wpAny_matchPattern_Capture (wpAny_assignInOrder_none (hb.run pins s σ H D I h)))⟩
/-- a tuple of n parts that begins with the word -/
def tSeqW (K : PySem.W.Frag) (r : R2) (n : Nat) (word : Str) (is : List (Option Nat)) (body : TS) (rest : V → TS) : V → TS := fun v D σ H => ∃ (a : Addr) (xs : List V), v = .ref a ∧ SqT K H a xs ∧
  ((xs.length ≠ n ∧ rest v D σ H) ∨ ∃ y ys, xs = y :: ys ∧ xs.length = n ∧ r y (.str word) H fun z H1 => ∃ k, z = .bl k ∧ if k = true then body D (bindS is ys σ) H1 else rest v D σ H1)
theorem pcs_seq {r : R2} {n : Nat} {word : Str} {j : Nat} {p1 p2 p3 : Pos} {ps : List Pattern} {is : List (Option Nat)} {body : List Stmt} {rest : List MatchCase} {tb : TS} {tr : V → TS} (hc : X.calm = true) (ho : OpR X (compareOp .Eq) r) (hp : PCap X ps is) (hb : PSs X body tb) (hr : PCs X rest tr) (hn : ps.length + 1 = n := by rfl)
    (hs : (Pattern.MatchValue (.Constant (.str word) j p1) p2 :: ps).findIdx? (·.isStar) = none := by rfl) (hw : ((Pattern.MatchValue (.Constant (.str word) j p1) p2 :: ps).all fun p => p.isWildcard || (p.isStar && p.names.isEmpty)) = false := by rfl) :
    PCs X (⟨.MatchSequence (.MatchValue (.Constant (.str word) j p1) p2 :: ps) p3, none, body⟩ :: rest) (tSeqW X.K r n word is tb tr) := by
  refine ⟨fun first pins s σ H D v u I rv h => ?_⟩
  obtain ⟨a, xs, rfl, hx, h⟩ := h
  cases (show u = Value.ref a from rv)
  obtain ⟨its, ri, ht, hz⟩ := I.tuple hx
  have hl := ri.length
  have hfit : ((its.toArray.size : Nat) : Int) < 2 ^ 63 := by
    have h1 : its.length ≤ sizeLine := by rw [← hl]; exact hz
    have h2 : sizeLine < 2 ^ 63 := by decide
    have h3 : its.toArray.size < 2 ^ 63 := Nat.lt_of_le_of_lt (by simpa using h1) h2
    omega
  rcases h with ⟨hne, q⟩ | ⟨y, ys, rfl, hxl, q⟩
  · refine wpAny_matchCases_cons (matchSeq_tuple_miss ht hfit (by simp; omega) ?_ hs hw)
    exact hr.run false pins _ σ H D (.ref a) _ (I.tok _) rfl q
  · cases ri with
    | cons ry rys =>
      rename_i uy uys
      have hly := rys.length
      have sz : (uy :: uys).toArray.size = ps.length + 1 := by simp at hxl ⊢; omega
      refine wpAny_matchCases_cons (matchSeq_tuple_hit ht hfit (by simpa using sz) ?_ hs hw)
      have e : (Pattern.MatchValue (.Constant (.str word) j p1) p2 :: ps).length = (uy :: uys).toArray.size := sz.symm
      rw [e]
      refine unpackItems_tuple (I.ok.hd hc) ht fun h' hk => ?_
      have I2 : Inv X pins σ H { s with heap := h', toks := s.toks + 1 + 1 } := I.kept fun b o e => hk b o (Nat.ne_of_lt (Heap.lt_size e)) e
      refine wpAny_matchEach_cons (wpAny_matchPattern_Value ?_) rfl
      refine Calls.Constant_str ?_
      refine thn (ho pins _ σ H y (.str word) uy _ _ (I2.tok _) ry ⟨_, rfl⟩ q) fun c s3 ⟨z, H3, I3, rz, k, ez, q3⟩ => ?_
      subst ez
      cases rz
      refine wpAny_truthy_bool ?_
      cases k with
      | false =>
        rw [if_neg Bool.false_ne_true] at q3 ⊢
        exact hr.run false pins s3 σ H3 D (.ref a) _ I3 rfl q3
      | true =>
        rw [if_pos rfl] at q3 ⊢
        refine each_caps hp.caps (by simp at sz; exact sz) ?_
        refine thn (hp.run pins s3 σ H3 ys uys I3 rys (by simp at sz; exact sz)) fun _ s4 I4 => ?_
        exact hb.run pins s4 _ H3 D I4 q3
end
/-! ### steps of the reading -/
section
variable {σ : L2.St} {H : Hp} {D : Ends} {K : PySem.W.Frag} {v : V} {te : TE} {t : V → TS}
theorem x_match (h : te σ H fun v H1 => t v D σ H1) : tMatch te t D σ H := h
theorem x_else {t : TS} (h : t D σ H) : tElse t v D σ H := h
theorem x_noCase (h : D.nx σ H) : tNoCase v D σ H := h
theorem x_caseNo {r : R2} {n : Nat} {word : Str} {is : List (Option Nat)} {body : TS} {a : Addr} {xs : List V} (ha : SqT K H a xs) (hl : xs.length ≠ n) (h : t (.ref a) D σ H) : tSeqW K r n word is body t (.ref a) D σ H :=
  ⟨a, xs, rfl, ha, .inl ⟨hl, h⟩⟩
theorem x_caseW {n : Nat} {word w : Str} {is : List (Option Nat)} {body : TS} {a : Addr} {ys : List V} (ha : SqT K H a (.str w :: ys)) (hl : ys.length + 1 = n) (hw : w ≠ word) (h : t (.ref a) D σ H) : tSeqW K rEq n word is body t (.ref a) D σ H :=
  ⟨a, _, rfl, ha, .inr ⟨_, ys, rfl, hl, rfl, false, by rw [decide_eq_false (fun e => hw (V.str.inj e))], iteF h⟩⟩
theorem x_caseY {n : Nat} {word : Str} {is : List (Option Nat)} {body : TS} {a : Addr} {ys : List V} (ha : SqT K H a (.str word :: ys)) (hl : ys.length + 1 = n) (h : body D (bindS is ys σ) H) : tSeqW K rEq n word is body t (.ref a) D σ H :=
  ⟨a, _, rfl, ha, .inr ⟨_, ys, rfl, hl, rfl, true, by rw [decide_eq_true rfl], iteT h⟩⟩
end
end Br

/-! ### what `_law_equal` finds alike -/
namespace Br
open PySem PySem.Spec PyProof.Rows L2
/-- alike up to a depth -/
def Eqv (K : PySem.W.Frag) (H : Hp) : Nat → V → V → Prop
  | 0, _, _ => False
  | n + 1, v, u => (∃ i : Int, v = .int i ∧ u = .int i) ∨ (∃ x : Str, v = .str x ∧ u = .str x) ∨ (∃ b : Bool, v = .bl b ∧ u = .bl b) ∨ (v = .non ∧ u = .non) ∨
      (∃ (a b : Addr) (xs ys : List V), v = .ref a ∧ u = .ref b ∧ ((H a = some (.lst xs) ∧ H b = some (.lst ys)) ∨ (H a = some (.tup xs) ∧ H b = some (.tup ys))) ∧ xs.length = ys.length ∧ ys.length ≤ 100000 ∧ ∀ (i : Nat) x y, xs[i]? = some x → ys[i]? = some y → Eqv K H n x y)
theorem Eqv.mono {K : PySem.W.Frag} {H : Hp} : ∀ {n m : Nat} {v u : V}, n ≤ m → Eqv K H n v u → Eqv K H m v u
  | 0, _, _, _, _, h => h.elim
  | n + 1, m, v, u, hm, h => by
    obtain ⟨k, rfl⟩ : ∃ k, m = k + 1 := ⟨m - 1, by omega⟩
    rcases h with h | h | h | h | ⟨a, b, xs, ys, e1, e2, e3, e4, e5, e6⟩
    · exact .inl h
    · exact .inr (.inl h)
    · exact .inr (.inr (.inl h))
    · exact .inr (.inr (.inr (.inl h)))
    · exact .inr (.inr (.inr (.inr ⟨a, b, xs, ys, e1, e2, e3, e4, e5, fun i x y h1 h2 => Eqv.mono (by omega) (e6 i x y h1 h2)⟩)))
theorem Eqv.int {K : PySem.W.Frag} {H : Hp} {n : Nat} {i : Int} : Eqv K H (n + 1) (.int i) (.int i) := .inl ⟨i, rfl, rfl⟩
theorem Eqv.str {K : PySem.W.Frag} {H : Hp} {n : Nat} {x : Str} : Eqv K H (n + 1) (.str x) (.str x) := .inr (.inl ⟨x, rfl, rfl⟩)
theorem Eqv.bl {K : PySem.W.Frag} {H : Hp} {n : Nat} {b : Bool} : Eqv K H (n + 1) (.bl b) (.bl b) := .inr (.inr (.inl ⟨b, rfl, rfl⟩))
theorem Eqv.non {K : PySem.W.Frag} {H : Hp} {n : Nat} : Eqv K H (n + 1) .non .non := .inr (.inr (.inr (.inl ⟨rfl, rfl⟩)))
theorem Eqv.tup {K : PySem.W.Frag} {H : Hp} {n : Nat} {a b : Addr} {xs ys : List V} (h1 : H a = some (.tup xs)) (h2 : H b = some (.tup ys)) (hl : xs.length = ys.length) (hz : ys.length ≤ 100000) (h : ∀ (i : Nat) x y, xs[i]? = some x → ys[i]? = some y → Eqv K H n x y) : Eqv K H (n + 1) (.ref a) (.ref b) :=
  .inr (.inr (.inr (.inr ⟨a, b, xs, ys, rfl, rfl, .inr ⟨h1, h2⟩, hl, hz, h⟩)))
theorem Eqv.lst {K : PySem.W.Frag} {H : Hp} {n : Nat} {a b : Addr} {xs ys : List V} (h1 : H a = some (.lst xs)) (h2 : H b = some (.lst ys)) (hl : xs.length = ys.length) (hz : ys.length ≤ 100000) (h : ∀ (i : Nat) x y, xs[i]? = some x → ys[i]? = some y → Eqv K H n x y) : Eqv K H (n + 1) (.ref a) (.ref b) :=
  .inr (.inr (.inr (.inr ⟨a, b, xs, ys, rfl, rfl, .inl ⟨h1, h2⟩, hl, hz, h⟩)))
theorem Eqv.ints {K : PySem.W.Frag} {H : Hp} {n : Nat} {a b : Addr} {xs : List Int} (h1 : H a = some (.lst (xs.map V.int))) (h2 : H b = some (.lst (xs.map V.int))) (hz : xs.length ≤ 100000) : Eqv K H (n + 2) (.ref a) (.ref b) :=
  Eqv.lst h1 h2 rfl (by rw [List.length_map]; exact hz) fun i x y e1 e2 => by
    rw [e1] at e2
    cases e2
    obtain ⟨z, _, rfl⟩ := map_get e1
    exact .int
/-- a tuple of few parts is alike to itself -/
theorem Eqv.self2 {K : PySem.W.Frag} {H : Hp} {n : Nat} {a : Addr} {xs : List V} (h1 : H a = some (.tup xs)) (hz : xs.length ≤ 100000) (h : ∀ x, x ∈ xs → Eqv K H n x x) : Eqv K H (n + 1) (.ref a) (.ref a) :=
  Eqv.tup h1 h1 rfl hz fun i x y e1 e2 => by
    rw [e1] at e2
    cases e2
    exact h x (List.mem_of_getElem? e1)
end Br

/-! ### steps: what they are, where they stand, what they do -/
namespace Br
open PySem PySem.Spec PyProof.Rows L2 Br.F
inductive Fac where
  | cell (i : Nat)
  | inp (i : Nat)
inductive Stp where
  | add (t : Nat) (c : Int) (fs : List Fac)
  | scale (t : Nat) (u : Int)
  | swap (a b : Nat)
  | tab (t : Nat) (s : Int) (tb : List (List Int)) (a b : Nat)
def FacOk (cells inputs t : Nat) : Fac → Prop
  | .cell i => i < cells ∧ i ≠ t
  | .inp i => i < inputs
def StpOk (m cells inputs : Nat) : Stp → Prop
  | .add t c fs => t < cells ∧ 0 ≤ c ∧ c < m ∧ fs.length ≤ 3 ∧ ∀ f, f ∈ fs → FacOk cells inputs t f
  | .scale t u => t < cells ∧ 0 ≤ u ∧ u < m ∧ Int.gcd u m = 1
  | .swap a b => a < cells ∧ b < cells ∧ a ≠ b
  | .tab t s tb a b => t < cells ∧ a < cells ∧ b < cells ∧ t ≠ a ∧ t ≠ b ∧ a ≠ b ∧ (s = 1 ∨ s = m - 1) ∧ IsTab m tb ∧ tb.length ≤ 1000 ∧ IsPrime m
/-- where they stand: tuples alone -/
def FacAt (H : Hp) (a : Addr) : Fac → Prop
  | .cell i => H a = some (.tup [.str "cell", .int (i : Int)])
  | .inp i => H a = some (.tup [.str "input", .int (i : Int)])
def TbAt (H : Hp) (a : Addr) (t : List (List Int)) : Prop := ∃ as : List Addr, H a = some (.tup (as.map V.ref)) ∧ as.length = t.length ∧ ∀ (i : Nat) r b, t[i]? = some r → as[i]? = some b → H b = some (.tup (r.map V.int))
def StpAt (H : Hp) (a : Addr) : Stp → Prop
  | .add t c fs => ∃ (f : Addr) (as : List Addr), H a = some (.tup [.str "add", .int (t : Int), .int c, .ref f]) ∧ H f = some (.tup (as.map V.ref)) ∧ as.length = fs.length ∧ ∀ (i : Nat) x b, fs[i]? = some x → as[i]? = some b → FacAt H b x
  | .scale t u => H a = some (.tup [.str "scale", .int (t : Int), .int u])
  | .swap i j => H a = some (.tup [.str "swap", .int (i : Int), .int (j : Int)])
  | .tab t s tb i j => ∃ c : Addr, H a = some (.tup [.str "table", .int (t : Int), .int s, .ref c, .int (i : Int), .int (j : Int)]) ∧ TbAt H c tb
/-- every tuple stays -/
def Tups (H H' : Hp) : Prop := ∀ b xs, H b = some (.tup xs) → H' b = some (.tup xs)
theorem Tups.refl (H : Hp) : Tups H H := fun _ _ h => h
theorem Tups.trans {H H1 H2 : Hp} (a : Tups H H1) (b : Tups H1 H2) : Tups H H2 := fun c xs h => b c xs (a c xs h)
theorem Tups.same {H H' : Hp} (s : Same H H') : Tups H H' := fun b xs h => s b _ h
theorem Tups.put {H H' : Hp} {p : Addr} {o : HO} (s : Tups H H') (h : ∀ xs, H' p ≠ some (.tup xs)) : Tups H (upd H' p o) := fun b xs e => by
  have e' := s b xs e
  rw [upd_ne (fun z => h xs (by rw [← z]; exact e'))]
  exact e'
theorem no_tup {H : Hp} {p : Addr} (h : H p = none) : ∀ xs, H p ≠ some (.tup xs) := fun xs e => by rw [h] at e; cases e
theorem no_tupL {H : Hp} {p : Addr} {ys : List V} (h : H p = some (.lst ys)) : ∀ xs, H p ≠ some (.tup xs) := fun xs e => by rw [h] at e; cases e
theorem Tups.keep {H H' : Hp} {d : Addr} {ys : List V} (k : Keep d H H') (h : H d = some (.lst ys)) : Tups H H' := fun b xs e => k b _ e (ne_of e h (by intro z; cases z))
theorem FacAt.tups {H H' : Hp} {a : Addr} {f : Fac} (h : FacAt H a f) (s : Tups H H') : FacAt H' a f := by
  cases f with
  | cell i => exact s _ _ h
  | inp i => exact s _ _ h
theorem TbAt.tups {H H' : Hp} {a : Addr} {t : List (List Int)} (h : TbAt H a t) (s : Tups H H') : TbAt H' a t := by
  obtain ⟨as, h1, h2, h3⟩ := h
  exact ⟨as, s _ _ h1, h2, fun i r b e1 e2 => s _ _ (h3 i r b e1 e2)⟩
theorem StpAt.tups {H H' : Hp} {a : Addr} {x : Stp} (h : StpAt H a x) (s : Tups H H') : StpAt H' a x := by
  cases x with
  | add t c fs =>
    obtain ⟨f, as, h1, h2, h3, h4⟩ := h
    exact ⟨f, as, s _ _ h1, s _ _ h2, h3, fun i y b e1 e2 => (h4 i y b e1 e2).tups s⟩
  | scale t u => exact s _ _ h
  | swap i j => exact s _ _ h
  | tab t g tb i j =>
    obtain ⟨c, h1, h2⟩ := h
    exact ⟨c, s _ _ h1, h2.tups s⟩
/-- many of them -/
def StpsAt (H : Hp) (as : List Addr) (ss : List Stp) : Prop := as.length = ss.length ∧ ∀ (i : Nat) x b, ss[i]? = some x → as[i]? = some b → StpAt H b x
theorem StpsAt.tups {H H' : Hp} {as : List Addr} {ss : List Stp} (h : StpsAt H as ss) (s : Tups H H') : StpsAt H' as ss := ⟨h.1, fun i x b e1 e2 => (h.2 i x b e1 e2).tups s⟩
theorem StpsAt.get {H : Hp} {as : List Addr} {ss : List Stp} (h : StpsAt H as ss) {i : Nat} {b : Addr} (e : as[i]? = some b) : ∃ x, ss[i]? = some x ∧ StpAt H b x := by
  have hl := (List.getElem?_eq_some_iff.mp e).1
  have hl2 : i < ss.length := by rw [← h.1]; exact hl
  exact ⟨_, List.getElem?_eq_getElem hl2, h.2 i _ b (List.getElem?_eq_getElem hl2) e⟩
theorem StpsAt.snoc {H : Hp} {as : List Addr} {ss : List Stp} {b : Addr} {x : Stp} (h : StpsAt H as ss) (hx : StpAt H b x) : StpsAt H (as ++ [b]) (ss ++ [x]) := by
  refine ⟨by rw [List.length_append, List.length_append, h.1]; rfl, fun i y c e1 e2 => ?_⟩
  rcases snoc_at rfl e1 with ⟨h1, e1⟩ | ⟨h1, rfl⟩
  · rcases snoc_at rfl e2 with ⟨h2, e2⟩ | ⟨h2, rfl⟩
    · exact h.2 i y c e1 e2
    · have := h.1; omega
  · rcases snoc_at rfl e2 with ⟨h2, e2⟩ | ⟨h2, rfl⟩
    · have := h.1; omega
    · exact hx
/-- numbers of a modulus, so many -/
structure Mem (m n : Nat) (xs : List Int) : Prop where
  len : xs.length = n
  rg : Rg 0 m xs
theorem Mem.get {m n : Nat} {xs : List Int} (h : Mem m n xs) {i : Nat} (hi : i < n) : ∃ z, xs[i]? = some z ∧ xs.getD i 0 = z ∧ 0 ≤ z ∧ z < m := by
  have hl : i < xs.length := by rw [h.len]; exact hi
  refine ⟨xs[i], List.getElem?_eq_getElem hl, ?_, (h.rg _ (List.getElem_mem hl)).1, (h.rg _ (List.getElem_mem hl)).2⟩
  rw [List.getD_eq_getElem?_getD, List.getElem?_eq_getElem hl]; rfl
theorem Mem.set {m n : Nat} {xs : List Int} (h : Mem m n xs) {i : Nat} {z : Int} (h0 : 0 ≤ z) (h1 : z < m) : Mem m n (xs.set i z) :=
  ⟨by rw [List.length_set, h.len], fun y hy => by
    rcases List.mem_or_eq_of_mem_set hy with h2 | h2
    · exact h.rg y h2
    · rw [h2]; exact ⟨h0, h1⟩⟩
def facV (mem inp : List Int) : Fac → Int
  | .cell i => mem.getD i 0
  | .inp i => inp.getD i 0
def prodV (mem inp : List Int) : List Fac → Int
  | [] => 1
  | f :: fs => facV mem inp f * prodV mem inp fs
/-- the value of the table's polynomial, written out -/
def ItpV (p : Nat) (t : List (List Int)) (x y : Int) : Int := S1 (fun i => BsV p t.length i x * S1 (fun j => BsV p t.length j y * (t.getD i []).getD j 0) t.length) t.length % p
theorem ItpV.ok {p : Nat} {t : List (List Int)} {x y : Int} (hp : IsPrime p) (hn : t.length ≤ p) : Itp p t x y (ItpV p t x y) :=
  ⟨fun i => BsV p t.length i x, fun j => BsV p t.length j y, fun i hi => BsV.ok hp hi hn, fun j hj => BsV.ok hp hj hn, rfl⟩
def stepF (m : Nat) (inp mem : List Int) : Stp → List Int
  | .add t c fs => mem.set t ((mem.getD t 0 + c * prodV mem inp fs) % m)
  | .scale t u => mem.set t (mem.getD t 0 * u % m)
  | .swap a b => (mem.set a (mem.getD b 0)).set b (mem.getD a 0)
  | .tab t s tb a b => mem.set t ((mem.getD t 0 + s * ItpV m tb (mem.getD a 0) (mem.getD b 0)) % m)
theorem stepF_mem {m cells : Nat} {inp mem : List Int} (hm : 1 ≤ m) (h : Mem m cells mem) : ∀ {s : Stp} {inputs : Nat}, StpOk m cells inputs s → Mem m cells (stepF m inp mem s)
  | .add t c fs, _, _ => h.set (Int.emod_nonneg _ (by omega)) (Int.emod_lt_of_pos _ (by omega))
  | .scale t u, _, _ => h.set (Int.emod_nonneg _ (by omega)) (Int.emod_lt_of_pos _ (by omega))
  | .swap a b, _, ok => by
    obtain ⟨z, _, e1, z0, z1⟩ := h.get ok.1
    obtain ⟨y, _, e2, y0, y1⟩ := h.get ok.2.1
    show Mem m cells ((mem.set a (mem.getD b 0)).set b (mem.getD a 0))
    rw [e1, e2]
    exact (h.set y0 y1).set z0 z1
  | .tab t s tb a b, _, _ => h.set (Int.emod_nonneg _ (by omega)) (Int.emod_lt_of_pos _ (by omega))
def runF (m : Nat) (inp : List Int) (ss : List Stp) (mem : List Int) : List Int := ss.foldl (fun mem s => stepF m inp mem s) mem
theorem runF_snoc {m : Nat} {inp : List Int} {ss : List Stp} {s : Stp} {mem : List Int} : runF m inp (ss ++ [s]) mem = stepF m inp (runF m inp ss mem) s := by
  unfold runF
  rw [List.foldl_append]
  rfl
theorem runF_mem {m cells inputs : Nat} {inp : List Int} (hm : 1 ≤ m) : ∀ {ss : List Stp} {mem : List Int}, Mem m cells mem → (∀ s, s ∈ ss → StpOk m cells inputs s) → Mem m cells (runF m inp ss mem)
  | [], _, h, _ => h
  | s :: ss, mem, h, hs => runF_mem (mem := stepF m inp mem s) hm (stepF_mem hm h (hs s List.mem_cons_self)) fun x hx => hs x (List.mem_cons_of_mem _ hx)
theorem take_snoc {α : Type} {ss : List α} {i : Nat} {s : α} (h : ss[i]? = some s) : ss.take (i + 1) = ss.take i ++ [s] := by rw [List.take_add_one, h]; rfl
theorem FacAt.eqv {K : PySem.W.Frag} {H : Hp} {a : Addr} {f : Fac} (h : FacAt H a f) : Eqv K H 2 (.ref a) (.ref a) := by
  cases f with
  | cell i =>
    exact Eqv.self2 h (Nat.le_of_ble_eq_true rfl) fun x hx => by
      have e : x = .str "cell" ∨ x = .int (i : Int) := by simpa using hx
      rcases e with rfl | rfl
      · exact .str
      · exact .int
  | inp i =>
    exact Eqv.self2 h (Nat.le_of_ble_eq_true rfl) fun x hx => by
      have e : x = .str "input" ∨ x = .int (i : Int) := by simpa using hx
      rcases e with rfl | rfl
      · exact .str
      · exact .int
theorem StpAt.eqv {K : PySem.W.Frag} {H : Hp} {a : Addr} {m cells inputs : Nat} {s : Stp} (ok : StpOk m cells inputs s) (h : StpAt H a s) : Eqv K H 4 (.ref a) (.ref a) := by
  cases s with
  | add t c fs =>
    obtain ⟨f, as, h1, h2, h3, h4⟩ := h
    have hf : Eqv K H 3 (.ref f) (.ref f) := Eqv.self2 h2 (by rw [List.length_map, h3]; have := ok.2.2.2.1; omega) fun x hx => by
      obtain ⟨b, hb, rfl⟩ := List.mem_map.mp hx
      obtain ⟨i, hi⟩ := List.mem_iff_getElem?.mp hb
      have hl := (List.getElem?_eq_some_iff.mp hi).1
      exact (h4 i _ b (List.getElem?_eq_getElem (by omega)) hi).eqv
    exact Eqv.self2 h1 (Nat.le_of_ble_eq_true rfl) fun x hx => by
      have e : x = .str "add" ∨ x = .int (t : Int) ∨ x = .int c ∨ x = .ref f := by simpa using hx
      rcases e with rfl | rfl | rfl | rfl
      · exact .str
      · exact .int
      · exact .int
      · exact hf
  | scale t u =>
    exact Eqv.self2 h (Nat.le_of_ble_eq_true rfl) fun x hx => by
      have e : x = .str "scale" ∨ x = .int (t : Int) ∨ x = .int u := by simpa using hx
      rcases e with rfl | rfl | rfl
      · exact .str
      · exact .int
      · exact .int
  | swap i j =>
    exact Eqv.self2 h (Nat.le_of_ble_eq_true rfl) fun x hx => by
      have e : x = .str "swap" ∨ x = .int (i : Int) ∨ x = .int (j : Int) := by simpa using hx
      rcases e with rfl | rfl | rfl
      · exact .str
      · exact .int
      · exact .int
  | tab t g tb i j =>
    obtain ⟨c, h1, as, h2, h3, h4⟩ := h
    have hlen : tb.length ≤ 1000 := ok.2.2.2.2.2.2.2.2.1
    have hI : IsTab m tb := ok.2.2.2.2.2.2.2.1
    have hc : Eqv K H 3 (.ref c) (.ref c) := Eqv.self2 h2 (by rw [List.length_map, h3]; omega) fun x hx => by
      obtain ⟨b, hb, rfl⟩ := List.mem_map.mp hx
      obtain ⟨i, hi⟩ := List.mem_iff_getElem?.mp hb
      have hl := (List.getElem?_eq_some_iff.mp hi).1
      have hl2 : i < tb.length := by omega
      obtain ⟨hr, _⟩ := hI.rows i _ (List.getElem?_eq_getElem hl2)
      exact Eqv.self2 (h4 i _ b (List.getElem?_eq_getElem hl2) hi) (by rw [List.length_map, hr]; omega) fun x hx => by
        obtain ⟨z, _, rfl⟩ := List.mem_map.mp hx
        exact .int
    exact Eqv.self2 h1 (Nat.le_of_ble_eq_true rfl) fun x hx => by
      have e : x = .str "table" ∨ x = .int (t : Int) ∨ x = .int g ∨ x = .ref c ∨ x = .int (i : Int) ∨ x = .int (j : Int) := by simpa using hx
      rcases e with rfl | rfl | rfl | rfl | rfl | rfl
      · exact .str
      · exact .int
      · exact .int
      · exact hc
      · exact .int
      · exact .int
end Br

/-! ### minus and len of an instance -/
namespace Br
open PySem PySem.Spec PyProof.Rows L2 PySem.Calls
section
variable {X : Cx} {CX : CXT} {k : Nat} {f C : Addr} {fd : FuncData} {ps : List Str} {sp : Sp} {ds : List Value} {dvs : List V} {E : XK}
def rNegM (C : Addr) (sp : Sp) (dvs : List V) (E : XK) : V → Hp → VK → Prop := fun x H Q => ∃ a dx fs, x = .ref a ∧ H a = some (.ins C dx fs) ∧ sp (x :: dvs) H Q E
theorem un_negM (hm : Meth X.K C "__neg__" f) (F : FnOk X.prog X.w X.K X.mg X.base CX k f fd ps sp) (hr : Room k X.A) (hb : Binds X.K fd ps ds) (hd : Vals dvs ds) (hx : Passes CX X E) :
    UnR X (unaryOp .USub) (rNegM C sp dvs E) := by
  intro pins s σ H x u Q I rx q
  obtain ⟨a, dx, fs, rfl, e, q⟩ := q
  obtain rfl : u = Value.ref a := rx
  obtain ⟨mA, O, _⟩ := ins_get I.hok e
  obtain ⟨od, J, hl⟩ := O.look
  unfold unaryOp
  refine wpAny_holding ?_
  exact wpAny_bind (PySem.W.special_fn I.kIn J hm.at_ (beq_iff_eq.mp hm.fn) (wpAny_mono (run_fn (us := [.ref a]) (vs := [.ref a]) F hr hb hd hx I (.cons rfl .nil) q) (fun _ _ z => wpAny_pure z) fun _ _ z => z))
theorem run_in1 {pins : List (Addr × Obj)} {σ : L2.St} {H : Hp} {s : Shared} {Q : VK} {us : List Value} {vs : List V} (F : FnOk X.prog X.w X.K X.mg X.base CX k f fd ps sp) (hr : Room (k + 1) X.A) (hb : Binds X.K fd ps ds) (hd : Vals dvs ds) (hx : Passes CX X E)
    (I : Inv X pins σ H s) (r : Vals vs us) (h : sp (vs ++ dvs) H Q E) : wpAny (model X.prog X.w) X.A.in1 (call (.ref f) us) (EP X pins σ Q) X.xe s := by
  have r2 : Vals (vs ++ dvs) (us ++ ds) := r.append hd
  have hl : (us ++ ds).length = ps.length := by rw [← r2.length]; exact F.len _ _ _ _ h
  refine wpAny_call (codeAny_mono (F.run X.A.in1 X.stack s H ⟨us, []⟩ (us ++ ds) (vs ++ dvs) Q E hr.in1 I.env0.in1 (hb s us I.kIn hl) r2 h) fun r s' hq => ?_)
  cases r with
  | error e => exact hx pins σ H s e s' I hq
  | ok fl =>
    cases fl with
    | ret u =>
      obtain ⟨v, H', I3, rv, q3⟩ := I.after hq
      exact ⟨v, H', I3, rv, q3⟩
    | next => exact False.elim hq
    | brk => exact False.elim hq
    | cont => exact False.elim hq
theorem pe_fldK {K2 : PySem.W.Frag} {e : Expr} {g : Str} {ta : TE} {pos : Pos} (hK : X.K = K2) (he : PE X e ta) (hb : attributeBase e g X.env (eval e X.env) = eval e X.env) : PE X (.Attribute e g pos) (tFld K2 ta g) := by
  subst hK
  exact pe_fld he hb
def rLenM (C : Addr) (sp : Sp) (dvs : List V) (E : XK) : List V → Hp → VK → Prop := fun xs H Q => ∃ a dx fs, xs = [.ref a] ∧ H a = some (.ins C dx fs) ∧ sp (.ref a :: dvs) H (fun v H' => ∃ n : Nat, v = .int (n : Int) ∧ (n : Int) < 2 ^ 63 ∧ Q v H') E
theorem cr_lenM (hm : Meth X.K C "__len__" f) (F : FnOk X.prog X.w X.K X.mg X.base CX k f fd ps sp) (hr : Room (k + 1) X.A) (hb : Binds X.K fd ps ds) (hd : Vals dvs ds) (hx : Passes CX X E) : CallR X (.builtin "len") (rLenM C sp dvs E) := by
  intro pins s σ H xs us Q I r h
  obtain ⟨a, dx, fs, rfl, e, q⟩ := h
  obtain ⟨u, rfl, rx⟩ := vals1 r
  obtain rfl : u = Value.ref a := rx
  obtain ⟨mA, O, _⟩ := ins_get I.hok e
  obtain ⟨od, J, hl⟩ := O.look
  refine Calls.call_function_entry kind_len plain_len entry_len (args_len1 _) ?_
  unfold Builtin.«len»
  refine wpAny_bind (m := oneArg "len" _) (wpAny_pure ?_)
  refine wpAny_bind (m := callSpecial? (.ref a) (PySem.Str.ofString "__len__")) (PySem.W.special_fn I.kIn J hm.at_ (beq_iff_eq.mp hm.fn) (wpAny_mono (run_in1 (us := [.ref a]) (vs := [.ref a]) F hr hb hd hx I (.cons rfl .nil) q) (fun v s' z => ?_) fun _ _ z => z))
  obtain ⟨x, H', I', rx, n, rfl, hn, q⟩ := z
  obtain ⟨t, rfl⟩ := rx
  refine wpAny_bind (wpAny_holding (wpAny_pure ?_))
  refine wpAny_bind (wpAny_letGo ?_)
  show wpAny _ _ (if ((n : Nat) : Int) < 0 then _ else _) _ _ _
  rw [if_neg (by omega)]
  show wpAny _ _ (if ((n : Nat) : Int) ≥ 2 ^ 63 then _ else _) _ _ _
  rw [if_neg (by omega)]
  exact wpAny_bind (wpAny_mkInt (wpAny_pure ⟨_, rfl, .int (n : Int), H', I'.tok _, ⟨_, rfl⟩, q⟩))
end
end Br

/-! ### steps that take back -/
namespace Br
open PySem PySem.Spec PyProof.Rows L2 Br.F
def IsBack (m : Nat) : Stp → Stp → Prop
  | .add t k fs, s' => s' = .add t (((m : Int) - k) % m) fs
  | .scale t u, s' => ∃ v : Int, s' = .scale t v ∧ 0 ≤ v ∧ v < m ∧ v * u % m = 1
  | .swap a b, s' => s' = .swap a b
  | .tab t g tb a b, s' => s' = .tab t ((m : Int) - g) tb a b
theorem mod_is {m : Nat} {x y : Int} (h0 : 0 ≤ x) (h1 : x < m) (h : (m : Int) ∣ y - x) : y % m = x := by
  have e : y % m = x % m := Int.emod_eq_emod_iff_emod_sub_eq_zero.mpr (Int.emod_eq_zero_of_dvd h)
  rw [e, Int.emod_eq_of_lt h0 h1]
theorem mod_ex (m : Nat) (x : Int) : ∃ q : Int, x % m = x - m * q := ⟨x / m, by rw [Int.emod_def]⟩
theorem getD_set_ne {xs : List Int} {i j : Nat} {z : Int} (h : i ≠ j) : (xs.set i z).getD j 0 = xs.getD j 0 := by
  rw [List.getD_eq_getElem?_getD, List.getD_eq_getElem?_getD, List.getElem?_set_ne h]
theorem getD_set_eq {xs : List Int} {i : Nat} {z : Int} (h : i < xs.length) : (xs.set i z).getD i 0 = z := by
  rw [List.getD_eq_getElem?_getD, List.getElem?_set_self h]; rfl
theorem set_getD {xs : List Int} {i : Nat} : xs.set i (xs.getD i 0) = xs := by
  apply List.ext_getElem?
  intro j
  by_cases h : i = j
  · subst h
    by_cases hl : i < xs.length
    · rw [List.getElem?_set_self hl, List.getD_eq_getElem?_getD, List.getElem?_eq_getElem hl]; rfl
    · rw [List.getElem?_eq_none (by rw [List.length_set]; omega), List.getElem?_eq_none (by omega)]
  · rw [List.getElem?_set_ne h]
theorem prodV_set {mv iv : List Int} {t c i : Nat} {z : Int} : ∀ {fs : List Fac}, (∀ f, f ∈ fs → FacOk c i t f) → prodV (mv.set t z) iv fs = prodV mv iv fs
  | [], _ => rfl
  | f :: fs, h => by
    show facV (mv.set t z) iv f * prodV (mv.set t z) iv fs = facV mv iv f * prodV mv iv fs
    rw [prodV_set fun g hg => h g (List.mem_cons_of_mem _ hg)]
    have e : facV (mv.set t z) iv f = facV mv iv f := by
      cases f with
      | cell j => exact getD_set_ne (h _ List.mem_cons_self).2.symm
      | inp j => rfl
    rw [e]
theorem undo_add {m : Nat} {x k P : Int} (h0 : 0 ≤ x) (h1 : x < m) : ((x + k * P) % m + (((m : Int) - k) % m) * P) % m = x := by
  refine mod_is h0 h1 ?_
  obtain ⟨q1, e1⟩ := mod_ex m (x + k * P)
  obtain ⟨q2, e2⟩ := mod_ex m ((m : Int) - k)
  rw [e1, e2]
  exact ⟨P - q1 - q2 * P, by grind⟩
theorem undo_tab {m : Nat} {x g V : Int} (h0 : 0 ≤ x) (h1 : x < m) : ((x + g * V) % m + ((m : Int) - g) * V) % m = x := by
  refine mod_is h0 h1 ?_
  obtain ⟨q1, e1⟩ := mod_ex m (x + g * V)
  rw [e1]
  exact ⟨V - q1, by grind⟩
theorem undo_scale {m : Nat} {x u v : Int} (h0 : 0 ≤ x) (h1 : x < m) (h : v * u % m = 1) : (x * u % m) * v % m = x := by
  refine mod_is h0 h1 ?_
  obtain ⟨q1, e1⟩ := mod_ex m (x * u)
  obtain ⟨q2, e2⟩ := mod_ex m (v * u)
  rw [h] at e2
  rw [e1]
  exact ⟨x * q2 - q1 * v, by grind⟩
theorem stepF_back {m c i : Nat} {iv mv : List Int} {s s' : Stp} (hm : 1 ≤ m) (hv : Mem m c mv) (ok : StpOk m c i s) (h : IsBack m s s') : stepF m iv (stepF m iv mv s) s' = mv := by
  cases s with
  | add t k fs =>
    obtain rfl := h
    obtain ⟨o1, o2, o3, o4, o5⟩ := ok
    obtain ⟨z, gz, ez, z0, z1⟩ := hv.get o1
    have hl : t < mv.length := by rw [hv.len]; exact o1
    show (mv.set t ((mv.getD t 0 + k * prodV mv iv fs) % m)).set t (((mv.set t ((mv.getD t 0 + k * prodV mv iv fs) % m)).getD t 0 + (((m : Int) - k) % m) * prodV (mv.set t ((mv.getD t 0 + k * prodV mv iv fs) % m)) iv fs) % m) = mv
    rw [getD_set_eq hl, prodV_set o5, List.set_set, ez, undo_add z0 z1, ← ez, set_getD]
  | scale t u =>
    obtain ⟨v, rfl, v0, v1, hvu⟩ := h
    obtain ⟨o1, _⟩ := ok
    obtain ⟨z, gz, ez, z0, z1⟩ := hv.get o1
    have hl : t < mv.length := by rw [hv.len]; exact o1
    show (mv.set t (mv.getD t 0 * u % m)).set t ((mv.set t (mv.getD t 0 * u % m)).getD t 0 * v % m) = mv
    rw [getD_set_eq hl, List.set_set, ez, undo_scale z0 z1 hvu, ← ez, set_getD]
  | swap a b =>
    obtain rfl := h
    obtain ⟨o1, o2, o3⟩ := ok
    have ha : a < mv.length := by rw [hv.len]; exact o1
    have hb : b < mv.length := by rw [hv.len]; exact o2
    show (((mv.set a (mv.getD b 0)).set b (mv.getD a 0)).set a (((mv.set a (mv.getD b 0)).set b (mv.getD a 0)).getD b 0)).set b (((mv.set a (mv.getD b 0)).set b (mv.getD a 0)).getD a 0) = mv
    rw [getD_set_eq (by rw [List.length_set]; exact hb), getD_set_ne o3.symm, getD_set_eq ha, List.set_comm _ _ o3, List.set_set, List.set_comm _ _ o3.symm, List.set_set, set_getD, set_getD]
  | tab t g tb a b =>
    obtain rfl := h
    obtain ⟨o1, o2, o3, o4, o5, _⟩ := ok
    obtain ⟨z, gz, ez, z0, z1⟩ := hv.get o1
    have hl : t < mv.length := by rw [hv.len]; exact o1
    generalize hV : ItpV m tb (mv.getD a 0) (mv.getD b 0) = W
    show (mv.set t ((mv.getD t 0 + g * ItpV m tb (mv.getD a 0) (mv.getD b 0)) % m)).set t (((mv.set t ((mv.getD t 0 + g * ItpV m tb (mv.getD a 0) (mv.getD b 0)) % m)).getD t 0 + ((m : Int) - g) * ItpV m tb ((mv.set t ((mv.getD t 0 + g * ItpV m tb (mv.getD a 0) (mv.getD b 0)) % m)).getD a 0) ((mv.set t ((mv.getD t 0 + g * ItpV m tb (mv.getD a 0) (mv.getD b 0)) % m)).getD b 0)) % m) = mv
    rw [getD_set_eq hl, getD_set_ne o4, getD_set_ne o5, hV, List.set_set, ez, undo_tab z0 z1, ← ez, set_getD]
theorem unit_uniq {m : Nat} {u v w : Int} (h1 : v * u % m = 1) (h2 : w * u % m = 1) (v0 : 0 ≤ v) (v1 : v < m) (w0 : 0 ≤ w) (w1 : w < m) : v = w := by
  obtain ⟨q1, e1⟩ := mod_ex m (v * u)
  obtain ⟨q2, e2⟩ := mod_ex m (w * u)
  rw [h1] at e1
  rw [h2] at e2
  have e : v % m = w := mod_is w0 w1 ⟨w * q1 - v * q2, by grind⟩
  rw [← e, Int.emod_eq_of_lt v0 v1]
theorem IsBack.uniq {m : Nat} {s a b : Stp} (h1 : IsBack m s a) (h2 : IsBack m s b) : a = b := by
  cases s with
  | add => exact h1.trans h2.symm
  | swap => exact h1.trans h2.symm
  | tab => exact h1.trans h2.symm
  | scale t u =>
    obtain ⟨v, rfl, v0, v1, hv⟩ := h1
    obtain ⟨w, rfl, w0, w1, hw⟩ := h2
    rw [unit_uniq hv hw v0 v1 w0 w1]
theorem IsBack.symm {m c i : Nat} {s s' : Stp} (ok : StpOk m c i s) (h : IsBack m s s') : IsBack m s' s := by
  cases s with
  | add t k fs =>
    obtain rfl := h
    obtain ⟨o1, o2, o3, _⟩ := ok
    show Stp.add t k fs = .add t (((m : Int) - ((m : Int) - k) % m) % m) fs
    have e : ((m : Int) - ((m : Int) - k) % m) % m = k := by
      refine mod_is o2 o3 ?_
      obtain ⟨q, e⟩ := mod_ex m ((m : Int) - k)
      rw [e]
      exact ⟨q, by grind⟩
    rw [e]
  | scale t u =>
    obtain ⟨v, rfl, v0, v1, hv⟩ := h
    exact ⟨u, rfl, ok.2.1, ok.2.2.1, by rw [Int.mul_comm]; exact hv⟩
  | swap a b =>
    obtain rfl := h
    rfl
  | tab t g tb a b =>
    obtain rfl := h
    show Stp.tab t g tb a b = .tab t ((m : Int) - ((m : Int) - g)) tb a b
    rw [Int.sub_sub_self]
theorem IsBack.ok {m c i : Nat} {s s' : Stp} (hm : 2 ≤ m) (ok : StpOk m c i s) (h : IsBack m s s') : StpOk m c i s' := by
  cases s with
  | add t k fs =>
    obtain rfl := h
    obtain ⟨o1, o2, o3, o4, o5⟩ := ok
    exact ⟨o1, Int.emod_nonneg _ (by omega), Int.emod_lt_of_pos _ (by omega), o4, o5⟩
  | scale t u =>
    obtain ⟨v, rfl, v0, v1, hv⟩ := h
    refine ⟨ok.1, v0, v1, ?_⟩
    have h1 := Int.gcd_dvd_left (a := v) (b := (m : Int))
    have h2 := Int.gcd_dvd_right (a := v) (b := (m : Int))
    have h3 : ((Int.gcd v m : Nat) : Int) ∣ ((1 : Nat) : Int) := by
      obtain ⟨q, e⟩ := mod_ex m (v * u)
      rw [hv] at e
      obtain ⟨x, hx⟩ := h1
      obtain ⟨y, hy⟩ := h2
      generalize ((Int.gcd v m : Nat) : Int) = G at hx hy
      refine ⟨x * u - y * q, ?_⟩
      rw [Int.mul_sub, ← Int.mul_assoc, ← Int.mul_assoc, ← hx, ← hy]
      exact e
    exact Nat.dvd_one.mp (Int.ofNat_dvd.mp h3)
  | swap a b =>
    obtain rfl := h
    exact ok
  | tab t g tb a b =>
    obtain rfl := h
    obtain ⟨o1, o2, o3, o4, o5, o6, o7, o8, o9, o10⟩ := ok
    exact ⟨o1, o2, o3, o4, o5, o6, by omega, o8, o9, o10⟩
inductive BackOf (m : Nat) : List Stp → List Stp → Prop
  | nil : BackOf m [] []
  | cons {s s' : Stp} {ss ss' : List Stp} : IsBack m s s' → BackOf m ss ss' → BackOf m (s :: ss) (ss' ++ [s'])
theorem BackOf.snoc {m : Nat} {x y : Stp} {xs ys : List Stp} (h : BackOf m xs ys) (hb : IsBack m x y) : BackOf m (xs ++ [x]) (y :: ys) := by
  induction h with
  | nil => exact .cons (ss' := []) hb .nil
  | cons h1 _ ih => exact .cons (ss' := y :: _) h1 ih
theorem BackOf.len {m : Nat} {xs ys : List Stp} (h : BackOf m xs ys) : ys.length = xs.length := by
  induction h with
  | nil => rfl
  | cons h1 _ ih => rw [List.length_append, List.length_cons, ih]; rfl
theorem BackOf.symm {m c i : Nat} {xs ys : List Stp} (h : BackOf m xs ys) (ok : ∀ s, s ∈ xs → StpOk m c i s) : BackOf m ys xs := by
  induction h with
  | nil => exact .nil
  | cons h1 _ ih => exact (ih fun s hs => ok s (List.mem_cons_of_mem _ hs)).snoc (h1.symm (ok _ List.mem_cons_self))
theorem BackOf.oks {m c i : Nat} {xs ys : List Stp} (hm : 2 ≤ m) (h : BackOf m xs ys) (ok : ∀ s, s ∈ xs → StpOk m c i s) : ∀ s, s ∈ ys → StpOk m c i s := by
  induction h with
  | nil => exact ok
  | cons h1 _ ih =>
    intro s hs
    rcases List.mem_append.mp hs with h | h
    · exact ih (fun s hs => ok s (List.mem_cons_of_mem _ hs)) s h
    · rw [List.mem_singleton.mp h]
      exact h1.ok hm (ok _ List.mem_cons_self)
theorem BackOf.uniq {m : Nat} {xs ys : List Stp} (h : BackOf m xs ys) : ∀ {zs : List Stp}, BackOf m xs zs → ys = zs := by
  induction h with
  | nil => intro zs h; cases h; rfl
  | cons h1 _ ih =>
    intro zs h
    cases h with
    | cons h2 h3 => rw [ih h3, h1.uniq h2]
theorem runF_app {m : Nat} {iv : List Int} {xs ys : List Stp} {mv : List Int} : runF m iv (xs ++ ys) mv = runF m iv ys (runF m iv xs mv) := by
  unfold runF
  rw [List.foldl_append]
theorem runF_back {m c i : Nat} {iv : List Int} {xs ys : List Stp} (hm : 1 ≤ m) (h : BackOf m xs ys) : ∀ {mv : List Int}, Mem m c mv → (∀ s, s ∈ xs → StpOk m c i s) → runF m iv ys (runF m iv xs mv) = mv := by
  induction h with
  | nil => intro mv _ _; rfl
  | @cons s s' ss ss' h1 _ ih =>
    intro mv hv ok
    have oks := ok s List.mem_cons_self
    show runF m iv (ss' ++ [s']) (runF m iv ss (stepF m iv mv s)) = mv
    rw [runF_snoc, ih (stepF_mem hm hv oks) fun s hs => ok s (List.mem_cons_of_mem _ hs), stepF_back hm hv oks h1]
/-- two that are the same step -/
theorem FacAt.eqv2 {K : PySem.W.Frag} {H : Hp} {a b : Addr} {f : Fac} (h : FacAt H a f) (h' : FacAt H b f) : Eqv K H 2 (.ref a) (.ref b) := by
  cases f with
  | cell i =>
    refine Eqv.tup h h' rfl (Nat.le_of_ble_eq_true rfl) fun j x y e1 e2 => ?_
    rw [e1] at e2
    cases e2
    have hx := List.mem_of_getElem? e1
    have e : x = .str "cell" ∨ x = .int (i : Int) := by simpa using hx
    rcases e with rfl | rfl
    · exact .str
    · exact .int
  | inp i =>
    refine Eqv.tup h h' rfl (Nat.le_of_ble_eq_true rfl) fun j x y e1 e2 => ?_
    rw [e1] at e2
    cases e2
    have hx := List.mem_of_getElem? e1
    have e : x = .str "input" ∨ x = .int (i : Int) := by simpa using hx
    rcases e with rfl | rfl
    · exact .str
    · exact .int
theorem StpAt.eqv2 {K : PySem.W.Frag} {H : Hp} {a b : Addr} {m cells inputs : Nat} {s : Stp} (ok : StpOk m cells inputs s) (h : StpAt H a s) (h' : StpAt H b s) : Eqv K H 4 (.ref a) (.ref b) := by
  cases s with
  | add t c fs =>
    obtain ⟨f, as, h1, h2, h3, h4⟩ := h
    obtain ⟨f', as', h1', h2', h3', h4'⟩ := h'
    have hf : Eqv K H 3 (.ref f) (.ref f') := by
      refine Eqv.tup h2 h2' (by rw [List.length_map, List.length_map]; omega) (by rw [List.length_map, h3']; have := ok.2.2.2.1; omega) fun j x y e1 e2 => ?_
      obtain ⟨p, hp, rfl⟩ := map_getR e1
      obtain ⟨p', hp', rfl⟩ := map_getR e2
      have hl := (List.getElem?_eq_some_iff.mp hp).1
      have g := List.getElem?_eq_getElem (l := fs) (i := j) (by omega)
      exact (h4 j _ p g hp).eqv2 (h4' j _ p' g hp')
    refine Eqv.tup h1 h1' rfl (Nat.le_of_ble_eq_true rfl) fun j x y e1 e2 => ?_
    match j, e1, e2 with
    | 0, e1, e2 => cases e1; cases e2; exact .str
    | 1, e1, e2 => cases e1; cases e2; exact .int
    | 2, e1, e2 => cases e1; cases e2; exact .int
    | 3, e1, e2 => cases e1; cases e2; exact hf
    | j + 4, e1, _ => simp at e1
  | scale t u =>
    refine Eqv.tup h h' rfl (Nat.le_of_ble_eq_true rfl) fun j x y e1 e2 => ?_
    match j, e1, e2 with
    | 0, e1, e2 => cases e1; cases e2; exact .str
    | 1, e1, e2 => cases e1; cases e2; exact .int
    | 2, e1, e2 => cases e1; cases e2; exact .int
    | j + 3, e1, _ => simp at e1
  | swap i k =>
    refine Eqv.tup h h' rfl (Nat.le_of_ble_eq_true rfl) fun j x y e1 e2 => ?_
    match j, e1, e2 with
    | 0, e1, e2 => cases e1; cases e2; exact .str
    | 1, e1, e2 => cases e1; cases e2; exact .int
    | 2, e1, e2 => cases e1; cases e2; exact .int
    | j + 3, e1, _ => simp at e1
  | tab t g tb i k =>
    obtain ⟨c, h1, as, h2, h3, h4⟩ := h
    obtain ⟨c', h1', as', h2', h3', h4'⟩ := h'
    have hlen : tb.length ≤ 1000 := ok.2.2.2.2.2.2.2.2.1
    have hI : IsTab m tb := ok.2.2.2.2.2.2.2.1
    have hc : Eqv K H 3 (.ref c) (.ref c') := by
      refine Eqv.tup h2 h2' (by rw [List.length_map, List.length_map]; omega) (by rw [List.length_map, h3']; omega) fun j x y e1 e2 => ?_
      obtain ⟨p, hp, rfl⟩ := map_getR e1
      obtain ⟨p', hp', rfl⟩ := map_getR e2
      have hl := (List.getElem?_eq_some_iff.mp hp).1
      have hl2 : j < tb.length := by omega
      have gr := List.getElem?_eq_getElem hl2
      obtain ⟨hr, _⟩ := hI.rows j _ gr
      refine Eqv.tup (h4 j _ p gr hp) (h4' j _ p' gr hp') rfl (by rw [List.length_map, hr]; omega) fun j2 x y e1 e2 => ?_
      rw [e1] at e2
      cases e2
      obtain ⟨z, _, rfl⟩ := map_get e1
      exact .int
    refine Eqv.tup h1 h1' rfl (Nat.le_of_ble_eq_true rfl) fun j x y e1 e2 => ?_
    match j, e1, e2 with
    | 0, e1, e2 => cases e1; cases e2; exact .str
    | 1, e1, e2 => cases e1; cases e2; exact .int
    | 2, e1, e2 => cases e1; cases e2; exact .int
    | 3, e1, e2 => cases e1; cases e2; exact hc
    | 4, e1, e2 => cases e1; cases e2; exact .int
    | 5, e1, e2 => cases e1; cases e2; exact .int
    | j + 6, e1, _ => simp at e1
end Br

/-! ### max(xs, default=d) -/
namespace Br
open PySem PySem.Spec PyProof.Rows L2
theorem max_rawD {prog : Program} {w : World} {A : Around} {E : Value → Shared → Prop} {s : Shared} {l : Addr} {its : List Value} {ns : List Int} {d : Value} {Q : Value → Shared → Prop} (hh : A.handled = none) (hl : s.heap.IsList l its.toArray) (hi : IntsAre its ns)
    (h0 : ns = [] → ∀ h' tk, (∀ b o, s.heap.get? b = some o → h'.get? b = some o) → Q d { s with heap := h', toks := tk })
    (h : ∀ h' tk M t', (∀ b o, s.heap.get? b = some o → h'.get? b = some o) → M ∈ ns → (∀ a, a ∈ ns → a ≤ M) → Q (.int M t') { s with heap := h', toks := tk }) : wpAny (model prog w) A (call (.builtin "max") [.ref l] [(Str.ofString "default", d)]) Q E s := by
  obtain ⟨xs, e⟩ := hi.allInts.items
  have hn : numsOf (intItems xs).toList = ns := by rw [← e]; exact hi.numsOf
  rw [nums_intItems] at hn
  subst hn
  rw [e] at hl
  refine call_max_walkD (iter_intList hl fun s₂ e2 st hfp hlI => ?_)
  have keep : ∀ {s' : Shared}, Moved [s.heap.objs.size] (fun a b => b = a) s₂ s' → (∀ b o, s.heap.get? b = some o → s'.heap.get? b = some o) ∧ s' = { s with heap := s'.heap, toks := s'.toks } := by
    intro s' m
    subst e2
    refine ⟨fun b o eb => m.heap b o (fun hb => ?_) (Heap.get?_push_of_some _ eb), ?_⟩
    · have : b = s.heap.objs.size := by simpa using hb
      exact absurd (Heap.lt_size eb) (by rw [this]; exact Nat.lt_irrefl _)
    · have h1 := m.gens
      have h2 := m.drawn
      have h3 := m.os
      cases s'
      cases s
      simp at h1 h2 h3 ⊢
      exact ⟨h1, h2, h3⟩
  refine ⟨_, _, _, _, _, _, _, s.heap, fun i j => decide (numAt xs i > numAt xs j), rfl, (Walks.list (A := A.in1) hh _ l hlI (intItems xs)).toS, st, hfp, ?_, ?_, ?_, ?_⟩
  · intro b o eb hb
    have : b = s.heap.objs.size := by simpa using hb
    exact absurd (Heap.lt_size eb) (by rw [this]; exact Nat.lt_irrefl _)
  · intro b o eb
    subst e2
    exact Heap.get?_push_of_some _ eb
  · intro hz s' m
    obtain ⟨k1, k2⟩ := keep m
    rw [k2]
    refine h0 ?_ _ _ k1
    have : xs.size = 0 := by simpa [intItems] using hz
    have : xs = #[] := Array.eq_empty_of_size_eq_zero this
    rw [this]
    rfl
  · intro hz
    have hsz : 0 < xs.size := by simpa [intItems] using hz
    refine ⟨fun i j vi vj s' Q' E' _ h1 h2 h3 => CmpOf.ints_gt (numAt xs) (fun _ _ => intItems_at) i j vi vj s' Q' E' h1 h2 h3, fun v s' hP m => ?_⟩
    obtain ⟨k1, k2⟩ := keep m
    rw [k2]
    have hP : (intItems xs)[argBest (fun i j => decide (numAt xs i > numAt xs j)) (xs.size - 1)]? = some v := by simpa [intItems] using hP
    obtain ⟨t, rfl⟩ := intItems_at hP
    obtain ⟨h1, h2⟩ := argBest_gt (numAt xs) (xs.size - 1)
    refine h _ _ _ t k1 ?_ fun a ha => ?_
    · rw [numAt_eq]; exact PySem.getD_mem (by rw [List.length_map, Array.length_toList]; omega)
    · obtain ⟨j, hj, rfl⟩ := mem_getD ha
      rw [List.length_map, Array.length_toList] at hj
      rw [← numAt_eq]; exact h2 j (by omega)
/-- max(xs, default=z): z the default -/
def rMaxDf (K : PySem.W.Frag) : List V → List V → Hp → VK → Prop := fun vs zs H Q => ∃ (a : Addr) (ns : List Int) (d : Int), vs = [V.ref a] ∧ zs = [.int d] ∧ SqL K H a (ns.map V.int) ∧ (ns = [] → Q (.int d) H) ∧ ∀ m, m ∈ ns → (∀ y, y ∈ ns → y ≤ m) → Q (.int m) H
theorem cr_maxDf {X : Cx} (hc : X.calm = true) : CallRK X (.builtin "max") [Str.ofString "default"] (rMaxDf X.K) := by
  intro pins s σ H xs zs us ws Q I r1 r2 h
  obtain ⟨a, ns, d, rfl, rfl, hs, q0, q⟩ := h
  obtain ⟨its, rv, hl, _⟩ := I.list hs
  rw [Vals.ref1 r1]
  cases r2 with
  | cons rz rr =>
    cases rr
    exact max_rawD (I.ok.hd hc) hl.isList rv.ints (fun e h' tk hk => ⟨.int d, H, I.kept hk, rz, q0 e⟩) fun h' tk m t' hk h1 h2 => ⟨.int _, H, I.kept hk, ⟨_, rfl⟩, q m h1 h2⟩
theorem x_maxDf {K : PySem.W.Frag} {σ : L2.St} {H : Hp} {Q : VK} {t tk : TA} (h : t σ H fun vs H1 => tk σ H1 fun zs H2 => rMaxDf K vs zs H2 Q) : tCKw (rMaxDf K) t tk σ H Q := h
/-- what is walked within a comprehension, the written part named -/
theorem pi_tupK {X : Cx} {tg : Expr} {K2 : PySem.W.Frag} {l : Expr} {tl : TE} (hK : X.K = K2) (hl : PE X l tl) : PI X tg l (iTup K2 tl) := by
  subst hK
  exact pi_tup hl
theorem pi_listK {X : Cx} {tg : Expr} {K2 : PySem.W.Frag} {l : Expr} {tl : TE} (hK : X.K = K2) (hl : PE X l tl) : PI X tg l (iList K2 tl) := by
  subst hK
  exact pi_list hl
theorem x_maxDfP {K : PySem.W.Frag} {H : Hp} {Q : VK} {a : Addr} {ns : List Int} {d : Int} (hs : SqL K H a (ns.map V.int)) (h : ∀ m, (ns = [] ∧ m = d) ∨ (m ∈ ns ∧ ∀ y, y ∈ ns → y ≤ m) → Q (.int m) H) : rMaxDf K [.ref a] [.int d] H Q :=
  ⟨a, ns, d, rfl, rfl, hs, fun e => h d (.inl ⟨e, rfl⟩), fun m h1 h2 => h m (.inr ⟨h1, h2⟩)⟩
end Br

/-! ### data of any kind in the heap, apart from one list -/
namespace Br
open PySem PySem.Spec PyProof.Rows L2
mutual
inductive DAt (d : Addr) (H : Hp) : V → PyData → Prop
  | non : DAt d H .non .none
  | bl (b : Bool) : DAt d H (.bl b) (.bool b)
  | int (i : Int) : DAt d H (.int i) (.int i)
  | str (x : Str) : DAt d H (.str x) (.str x)
  | lst {a : Addr} {xs : List V} {ds : List PyData} (hd : a ≠ d) (h : H a = some (.lst xs)) (hs : DAts d H xs ds) : DAt d H (.ref a) (.list ds)
  | tup {a : Addr} {xs : List V} {ds : List PyData} (h : H a = some (.tup xs)) (hs : DAts d H xs ds) : DAt d H (.ref a) (.tuple ds)
inductive DAts (d : Addr) (H : Hp) : List V → List PyData → Prop
  | nil : DAts d H [] []
  | cons {v : V} {vs : List V} {e : PyData} {es : List PyData} (h : DAt d H v e) (hs : DAts d H vs es) : DAts d H (v :: vs) (e :: es)
end
section
variable {d : Addr} {H H' : Hp}
theorem DAts.len : ∀ {xs : List V} {ds : List PyData}, DAts d H xs ds → xs.length = ds.length
  | [], _, h => by cases h; rfl
  | _ :: xs, _, h => by
    cases h with
    | cons h hs => exact congrArg (· + 1) hs.len
theorem DAts.get : ∀ {xs : List V} {ds : List PyData}, DAts d H xs ds → ∀ {i : Nat} {x : V}, xs[i]? = some x → ∃ e, ds[i]? = some e ∧ DAt d H x e
  | [], _, _, i, x, e => by simp at e
  | v :: xs, _, h, i, x, e => by
    cases h with
    | cons h hs =>
      cases i with
      | zero => cases e; exact ⟨_, rfl, h⟩
      | succ i => exact hs.get (i := i) (by simpa using e)
theorem DAts.of : ∀ {xs : List V} {ds : List PyData}, xs.length = ds.length → (∀ (i : Nat) x e, xs[i]? = some x → ds[i]? = some e → DAt d H x e) → DAts d H xs ds
  | [], [], _, _ => .nil
  | v :: xs, e :: ds, hl, h => .cons (h 0 v e rfl rfl) (DAts.of (by simpa using hl) fun i x f h1 h2 => h (i + 1) x f (by simpa using h1) (by simpa using h2))
  | [], _ :: _, hl, _ => by simp at hl
  | _ :: _, [], hl, _ => by simp at hl
theorem DAts.snoc : ∀ {xs : List V} {ds : List PyData} {v : V} {e : PyData}, DAts d H xs ds → DAt d H v e → DAts d H (xs ++ [v]) (ds ++ [e])
  | [], _, v, e, h, h1 => by cases h; exact .cons h1 .nil
  | _ :: xs, _, v, e, h, h1 => by
    cases h with
    | cons h hs => exact .cons h (hs.snoc h1)
theorem DAts.app : ∀ {xs ys : List V} {ds es : List PyData}, DAts d H xs ds → DAts d H ys es → DAts d H (xs ++ ys) (ds ++ es)
  | [], _, _, _, h, h1 => by cases h; exact h1
  | _ :: xs, _, _, _, h, h1 => by
    cases h with
    | cons h hs => exact .cons h (hs.app h1)
mutual
theorem DAt.keep (hd : ∃ ys, H d = some (.lst ys)) (k : Keep d H H') : ∀ (e : PyData) {v : V}, DAt d H v e → DAt d H' v e
  | .none, _, h => by cases h; exact .non
  | .bool b, _, h => by cases h; exact .bl b
  | .int i, _, h => by cases h; exact .int i
  | .str x, _, h => by cases h; exact .str x
  | .list ds, _, h => by
    cases h with
    | lst hn h hs => exact .lst hn (k _ _ h hn) (DAts.keep hd k ds hs)
  | .tuple ds, _, h => by
    obtain ⟨ys, hd'⟩ := id hd
    cases h with
    | tup h hs => exact .tup (k _ _ h (ne_of h hd' (by intro z; cases z))) (DAts.keep hd k ds hs)
  | .dict _, _, h => by cases h
theorem DAts.keep (hd : ∃ ys, H d = some (.lst ys)) (k : Keep d H H') : ∀ (es : List PyData) {vs : List V}, DAts d H vs es → DAts d H' vs es
  | [], _, h => by cases h; exact .nil
  | e :: es, _, h => by
    cases h with
    | cons h hs => exact .cons (DAt.keep hd k e h) (DAts.keep hd k es hs)
end
mutual
theorem DAt.same (k : Same H H') : ∀ (e : PyData) {v : V}, DAt d H v e → DAt d H' v e
  | .none, _, h => by cases h; exact .non
  | .bool b, _, h => by cases h; exact .bl b
  | .int i, _, h => by cases h; exact .int i
  | .str x, _, h => by cases h; exact .str x
  | .list ds, _, h => by
    cases h with
    | lst hn h hs => exact .lst hn (k _ _ h) (DAts.same k ds hs)
  | .tuple ds, _, h => by
    cases h with
    | tup h hs => exact .tup (k _ _ h) (DAts.same k ds hs)
  | .dict _, _, h => by cases h
theorem DAts.same (k : Same H H') : ∀ (es : List PyData) {vs : List V}, DAts d H vs es → DAts d H' vs es
  | [], _, h => by cases h; exact .nil
  | e :: es, _, h => by
    cases h with
    | cons h hs => exact .cons (DAt.same k e h) (DAts.same k es hs)
end
theorem DAts.ints : ∀ {ns : List Int}, DAts d H (ns.map V.int) (ns.map PyData.int)
  | [] => .nil
  | i :: ns => .cons (.int i) DAts.ints
theorem DAts.bls : ∀ {bs : List Bool}, DAts d H (bs.map V.bl) (bs.map PyData.bool)
  | [] => .nil
  | b :: bs => .cons (.bl b) DAts.bls
/-- is it an integer from 0 to b - 1 -/
def isBD (b : Int) : PyData → Bool
  | .int i => decide (0 ≤ i) && decide (i < b)
  | _ => false
theorem isBD_iff {b : Int} {e : PyData} : isBD b e = true ↔ ∃ i, e = .int i ∧ 0 ≤ i ∧ i < b := by
  cases e with
  | int i =>
    show (decide (0 ≤ i) && decide (i < b)) = true ↔ _
    rw [Bool.and_eq_true, decide_eq_true_iff, decide_eq_true_iff]
    exact ⟨fun h => ⟨i, rfl, h⟩, fun ⟨j, e, h⟩ => by cases e; exact h⟩
  | _ => exact ⟨fun h => (by cases h), fun h => (by obtain ⟨_, h, _⟩ := h; cases h)⟩
def isBlD : PyData → Bool
  | .bool _ => true
  | _ => false
end
end Br

/-! ### gates as data, and what they do -/
namespace Br
open PySem PySem.Spec PyProof.Rows L2
abbrev Gt := Nat × List Nat
def perfG (bs : List Bool) (g : Gt) : List Bool := if g.2.all (fun c => bs.getD c false) then bs.set g.1 (!bs.getD g.1 false) else bs
def perfF (gs : List Gt) (bs : List Bool) : List Bool := gs.foldl perfG bs
structure GtOk (n : Nat) (g : Gt) : Prop where
  t : g.1 < n
  c : ∀ x, x ∈ g.2 → x < n
  ne : g.1 ∉ g.2
  up : g.2.Pairwise (· < ·)
theorem GtOk.mono {n m : Nat} {g : Gt} (h : GtOk n g) (l : n ≤ m) : GtOk m g := ⟨Nat.lt_of_lt_of_le h.t l, fun x hx => Nat.lt_of_lt_of_le (h.c x hx) l, h.ne, h.up⟩
theorem perfG_len {bs : List Bool} {g : Gt} : (perfG bs g).length = bs.length := by
  unfold perfG
  split
  · rw [List.length_set]
  · rfl
theorem perfF_len : ∀ {gs : List Gt} {bs : List Bool}, (perfF gs bs).length = bs.length
  | [], _ => rfl
  | g :: gs, bs => (perfF_len (gs := gs) (bs := perfG bs g)).trans perfG_len
theorem perfF_snoc {gs : List Gt} {g : Gt} {bs : List Bool} : perfF (gs ++ [g]) bs = perfG (perfF gs bs) g := by
  unfold perfF
  rw [List.foldl_append]
  rfl
theorem getD_setB {bs : List Bool} {i j : Nat} {b : Bool} (h : i ≠ j) : (bs.set i b).getD j false = bs.getD j false := by
  rw [List.getD_eq_getElem?_getD, List.getD_eq_getElem?_getD, List.getElem?_set_ne h]
theorem perfG_twice {n : Nat} {bs : List Bool} {g : Gt} (ok : GtOk n g) (hn : n ≤ bs.length) : perfG (perfG bs g) g = bs := by
  have ht := Nat.lt_of_lt_of_le ok.t hn
  by_cases h : g.2.all (fun c => bs.getD c false) = true
  · have e : perfG bs g = bs.set g.1 (!bs.getD g.1 false) := by unfold perfG; rw [if_pos h]
    rw [e]
    unfold perfG
    rw [if_pos]
    · apply List.ext_getElem?
      intro j
      by_cases hj : g.1 = j
      · subst hj
        have h1 : g.1 < (bs.set g.1 (!bs.getD g.1 false)).length := by rw [List.length_set]; exact ht
        rw [List.getElem?_set_self h1, List.getD_eq_getElem?_getD (l := bs.set _ _), List.getElem?_set_self ht, List.getD_eq_getElem?_getD, List.getElem?_eq_getElem ht]
        simp
      · rw [List.getElem?_set_ne hj, List.getElem?_set_ne hj]
    · rw [List.all_eq_true] at h ⊢
      intro c hc
      rw [getD_setB (fun e => ok.ne (by rw [e]; exact hc))]
      exact h c hc
  · have e : perfG bs g = bs := by unfold perfG; rw [if_neg h]
    rw [e, e]
theorem perfF_rev {n : Nat} : ∀ {gs : List Gt} {bs : List Bool}, (∀ g, g ∈ gs → GtOk n g) → n ≤ bs.length → perfF gs.reverse (perfF gs bs) = bs
  | [], _, _, _ => rfl
  | g :: gs, bs, ok, hn => by
    rw [List.reverse_cons, perfF_snoc]
    show perfG (perfF gs.reverse (perfF gs (perfG bs g))) g = bs
    rw [perfF_rev (fun x hx => ok x (List.mem_cons_of_mem _ hx)) (by rw [perfG_len]; exact hn)]
    exact perfG_twice (ok g List.mem_cons_self) hn
def cInts (cs : List Nat) : List V := cs.map fun (c : Nat) => V.int (c : Int)
def GtAt (H : Hp) (a : Addr) (g : Gt) : Prop := ∃ c : Addr, H a = some (.tup [.int (g.1 : Int), .ref c]) ∧ H c = some (.tup (cInts g.2))
def gtD (g : Gt) : PyData := .tuple [.int (g.1 : Int), .tuple (g.2.map fun (c : Nat) => PyData.int (c : Int))]
theorem GtAt.tups {H H' : Hp} {a : Addr} {g : Gt} (h : GtAt H a g) (k : ∀ b xs, H b = some (.tup xs) → H' b = some (.tup xs)) : GtAt H' a g := by
  obtain ⟨c, h1, h2⟩ := h
  exact ⟨c, k _ _ h1, k _ _ h2⟩
theorem cInts_at {d : Addr} {H : Hp} : ∀ {cs : List Nat}, DAts d H (cInts cs) (cs.map fun (c : Nat) => PyData.int (c : Int))
  | [] => .nil
  | c :: cs => .cons (.int _) cInts_at
theorem GtAt.dat {d a : Addr} {H : Hp} {g : Gt} (h : GtAt H a g) : DAt d H (.ref a) (gtD g) := by
  obtain ⟨c, h1, h2⟩ := h
  exact .tup h1 (.cons (.int _) (.cons (.tup h2 cInts_at) .nil))
/-- rising bits below 120, behind the last one -/
def risF : Int → List PyData → Bool
  | _, [] => true
  | l, .int i :: es => (decide (0 ≤ i) && decide (i < 120)) && (decide (l < i) && risF i es)
  | _, _ :: _ => false
def risD : PyData → Bool
  | .tuple es => risF (-1) es
  | _ => false
def hasD (e : PyData) (es : List PyData) : Bool := es.any fun x => match x, e with | .int i, .int j => decide (i = j) | _, _ => false
def gateD : PyData → Bool
  | .tuple [t, .tuple es] => isBD 120 t && (risF (-1) es && !hasD t es)
  | _ => false
def gatesD : PyData → Bool
  | .list es => decide (es.length ≤ 60000) && es.all gateD
  | _ => false
theorem risF_ok : ∀ {cs : List Nat} {l : Int}, cs.Pairwise (· < ·) → (∀ c, c ∈ cs → c < 120 ∧ l < (c : Int)) → risF l (cs.map fun (c : Nat) => PyData.int (c : Int)) = true
  | [], _, _, _ => rfl
  | c :: cs, l, hp, h => by
    obtain ⟨h1, h2⟩ := h c List.mem_cons_self
    show ((decide (0 ≤ (c : Int)) && decide ((c : Int) < 120)) && (decide (l < (c : Int)) && _)) = true
    rw [decide_eq_true (by omega), decide_eq_true (by omega), decide_eq_true h2]
    rw [List.pairwise_cons] at hp
    exact risF_ok hp.2 fun x hx => ⟨(h x (List.mem_cons_of_mem _ hx)).1, by have := hp.1 x hx; omega⟩
theorem gateD_ok {g : Gt} (ok : GtOk 120 g) : gateD (gtD g) = true := by
  show (isBD 120 (.int (g.1 : Int)) && (risF (-1) (g.2.map fun (c : Nat) => PyData.int (c : Int)) && !hasD (.int (g.1 : Int)) (g.2.map fun (c : Nat) => PyData.int (c : Int)))) = true
  have h1 : isBD 120 (.int (g.1 : Int)) = true := isBD_iff.mpr ⟨_, rfl, by omega, by have := ok.t; omega⟩
  have h2 := risF_ok (l := -1) ok.up fun c hc => ⟨ok.c c hc, by omega⟩
  have h3 : hasD (.int (g.1 : Int)) (g.2.map fun (c : Nat) => PyData.int (c : Int)) = false := by
    unfold hasD
    rw [List.any_eq_false]
    intro x hx
    obtain ⟨c, hc, rfl⟩ := List.mem_map.mp hx
    have hne : (c : Int) ≠ (g.1 : Int) := fun e => ok.ne (by have : c = g.1 := by omega
                                                             rw [← this]; exact hc)
    show ¬ decide ((c : Int) = (g.1 : Int)) = true
    rw [decide_eq_false hne]
    decide
  rw [h1, h2, h3]
  rfl
/-- the bits that a gate touches -/
def topG (g : Gt) : Nat := g.2.foldr max g.1 + 1
theorem foldr_max {cs : List Nat} {t : Nat} : t ≤ cs.foldr max t ∧ (∀ c, c ∈ cs → c ≤ cs.foldr max t) ∧ (cs.foldr max t = t ∨ cs.foldr max t ∈ cs) := by
  induction cs with
  | nil => exact ⟨Nat.le_refl _, fun c h => by simp at h, .inl rfl⟩
  | cons c cs ih =>
    obtain ⟨h1, h2, h3⟩ := ih
    show t ≤ max c _ ∧ _ ∧ _
    refine ⟨by omega, fun x hx => ?_, ?_⟩
    · rcases List.mem_cons.mp hx with rfl | hx
      · exact Nat.le_max_left _ _
      · exact Nat.le_trans (h2 x hx) (Nat.le_max_right _ _)
    · show max c _ = t ∨ max c _ ∈ _
      rcases Nat.le_total c (cs.foldr max t) with h | h
      · rw [Nat.max_eq_right h]
        rcases h3 with h3 | h3
        · exact .inl h3
        · exact .inr (List.mem_cons_of_mem _ h3)
      · rw [Nat.max_eq_left h]
        exact .inr List.mem_cons_self
theorem topG_le {n : Nat} {g : Gt} (ok : GtOk n g) : topG g ≤ n := by
  unfold topG
  rcases (foldr_max (cs := g.2) (t := g.1)).2.2 with h | h
  · rw [h]; exact ok.t
  · exact ok.c _ h
theorem up_len {n : Nat} : ∀ {cs : List Nat} {l : Nat}, cs.Pairwise (· < ·) → (∀ c, c ∈ cs → l ≤ c ∧ c < n) → cs.length ≤ n - l
  | [], _, _, _ => Nat.zero_le _
  | c :: cs, l, hp, h => by
    rw [List.pairwise_cons] at hp
    obtain ⟨h1, h2⟩ := h c List.mem_cons_self
    have := up_len (l := c + 1) hp.2 fun x hx => ⟨hp.1 x hx, (h x (List.mem_cons_of_mem _ hx)).2⟩
    rw [List.length_cons]
    omega
theorem GtOk.len {n : Nat} {g : Gt} (h : GtOk n g) : g.2.length ≤ n := by
  have := up_len (l := 0) h.up fun c hc => ⟨Nat.zero_le _, h.c c hc⟩
  omega
theorem cInts_get {cs : List Nat} {i : Nat} {x : V} (hx : (cInts cs)[i]? = some x) : ∃ m : Nat, cs[i]? = some m ∧ x = .int (m : Int) := by
  unfold cInts at hx
  rw [List.getElem?_map] at hx
  cases e : cs[i]? with
  | none => rw [e] at hx; cases hx
  | some n => rw [e] at hx; exact ⟨n, rfl, (Option.some.inj hx).symm⟩
end Br

/-! ### bits, many gates; comprehensions with a test -/
namespace Br
open PySem PySem.Spec PyProof.Rows L2
theorem x_max {σ : L2.St} {H : Hp} {Q : VK} {K : PySem.W.Frag} {p : Addr} {ns : List Int} (hp : SqL K H p (ns.map V.int)) (h0 : 0 < ns.length) (q : ∀ m, m ∈ ns → (∀ y, y ∈ ns → y ≤ m) → Q (.int m) H) : rMax K [.ref p] H Q := ⟨p, ns, rfl, hp, h0, q⟩
theorem cInts_eq {cs : List Nat} : cInts cs = (cs.map fun (c : Nat) => (c : Int)).map V.int := by
  unfold cInts
  rw [List.map_map]
  rfl
theorem x_listT {K : PySem.W.Frag} {H : Hp} {Q : VK} {p : Addr} {xs : List V} (hp : SqT K H p xs) (q : ∀ l, H l = none → Q (.ref l) (L2.upd H l (.lst xs))) : rListOf K [.ref p] H Q := ⟨p, xs, rfl, .inr hp, q⟩
def bls (bs : List Bool) : List V := bs.map V.bl
theorem bls_get {bs : List Bool} {i : Nat} (h : i < bs.length) : (bls bs)[i]? = some (.bl (bs.getD i false)) := by
  unfold bls
  rw [List.getElem?_map, List.getElem?_eq_getElem h, List.getD_eq_getElem?_getD, List.getElem?_eq_getElem h]
  rfl
theorem bls_set {bs : List Bool} {i : Nat} {b : Bool} : (bls bs).set i (.bl b) = bls (bs.set i b) := by
  unfold bls
  rw [List.map_set]
theorem bls_len {bs : List Bool} : (bls bs).length = bs.length := by unfold bls; rw [List.length_map]
/-- many gates -/
def GtsAt (H : Hp) (as : List Addr) (gs : List Gt) : Prop := as.length = gs.length ∧ ∀ (i : Nat) x b, gs[i]? = some x → as[i]? = some b → GtAt H b x
theorem GtsAt.tups {H H' : Hp} {as : List Addr} {gs : List Gt} (h : GtsAt H as gs) (k : ∀ b xs, H b = some (.tup xs) → H' b = some (.tup xs)) : GtsAt H' as gs := ⟨h.1, fun i x b e1 e2 => (h.2 i x b e1 e2).tups k⟩
theorem GtsAt.get {H : Hp} {as : List Addr} {gs : List Gt} (h : GtsAt H as gs) {i : Nat} {b : Addr} (e : as[i]? = some b) : ∃ x, gs[i]? = some x ∧ GtAt H b x := by
  have hl := (List.getElem?_eq_some_iff.mp e).1
  have hl2 : i < gs.length := by rw [← h.1]; exact hl
  exact ⟨_, List.getElem?_eq_getElem hl2, h.2 i _ b (List.getElem?_eq_getElem hl2) e⟩
theorem take_snocG {α : Type} {ss : List α} {i : Nat} {s : α} (h : ss[i]? = some s) : ss.take (i + 1) = ss.take i ++ [s] := by rw [List.take_add_one, h]; rfl
/-- a comprehension over a tuple, with a test, that keeps the items that meet it -/
theorem x_lcTT {K : PySem.W.Frag} {σ : L2.St} {H : Hp} {Q : VK} {ta : TE} {tt : TT} {te : TE} {j : Nat} {vs : List Nat} {a : Addr} (xs : List V) (P : Addr → Nat → Hp → Prop) (hn : ∀ R : V → Hp → Prop, R (.ref a) H → ta σ H R) (ha : SqT K H a xs) (h0 : ∀ p, H p = none → P p 0 (L2.upd H p (.lst [])))
    (hl : ∀ p i H', H p = none → i ≤ xs.length → P p i H' → SqT K H' a xs) (hw : ∀ x, wipe ((wipe σ vs).set j (some x)) vs = wipe σ vs)
    (hs : ∀ p (i : Nat) x H', H p = none → xs[i]? = some x → P p i H' → tt ((wipe σ vs).set j (some x)) H' fun b H3 => if b = true then te ((wipe σ vs).set j (some x)) H3 fun y H4 => ∃ acc, H4 p = some (.lst acc) ∧ acc.length < sizeLine ∧ P p (i + 1) (L2.upd H4 p (.lst (acc ++ [y]))) else P p (i + 1) H3)
    (hd : ∀ p H', H p = none → P p xs.length H' → Q (.ref p) H') : tLc (iTup K ta) (gName j) tt te vs σ H Q := by
  refine hn _ ⟨a, rfl, ⟨xs, ha⟩, fun p hp => ?_⟩
  refine lc_tup (xs := xs) (Qd := fun H' => Q (.ref p) H') (P p) (h0 p hp) (fun i H' hi q => hl p i H' hp hi q) (fun i x H' hi q => ?_) fun H' q => hd p H' hp q
  exact ⟨hw _, hs p i x H' hp hi q⟩
theorem x_lcPreT {σ : L2.St} {H : Hp} {Q : VK} {ta : TE} {j : Nat} {tt : TT} {te : TE} {vs : List Nat} (h : ta σ H fun v H1 => tLc (iRng1 (tCons (tC v) tNil)) (gName j) tt te vs σ H1 Q) : tLc (iRng1 (tCons ta tNil)) (gName j) tt te vs σ H Q := h
/-- a comprehension over a range, with a test -/
theorem x_lcRT {σ : L2.St} {H : Hp} {Q : VK} {ta : TE} {tt : TT} {j : Nat} {te : TE} {vs : List Nat} (n : Int) (P : Addr → Nat → Hp → Prop) (hn : ∀ R : V → Hp → Prop, R (.int n) H → ta σ H R) (h1 : -(2 ^ 62) ≤ n) (h2 : n < 2 ^ 62) (h0 : ∀ p, H p = none → P p 0 (L2.upd H p (.lst [])))
    (hw : ∀ x, wipe ((wipe σ vs).set j (some x)) vs = wipe σ vs)
    (hs : ∀ p (i : Nat) H', H p = none → (i : Int) < n → P p i H' → tt ((wipe σ vs).set j (some (.int (i : Int)))) H' fun b H3 => if b = true then te ((wipe σ vs).set j (some (.int (i : Int)))) H3 fun y H4 => ∃ acc, H4 p = some (.lst acc) ∧ acc.length < sizeLine ∧ P p (i + 1) (L2.upd H4 p (.lst (acc ++ [y]))) else P p (i + 1) H3)
    (hd : ∀ p H', H p = none → P p n.toNat H' → Q (.ref p) H') : tLc (iRng1 (tCons ta tNil)) (gName j) tt te vs σ H Q := by
  refine hn _ ⟨n, rfl, h1, h2, fun p hp => ?_⟩
  refine lc_range (lo := 0) (Qd := fun H' => Q (.ref p) H') (P p) (h0 p hp) (fun i H' hi q => ?_) fun H' q => hd p H' hp q
  have e : (0 : Int) + (i : Int) = (i : Int) := Int.zero_add _
  rw [e]
  exact ⟨hw _, hs p i H' hp (by omega) q⟩
theorem up_snoc {cs : List Nat} {i : Nat} (h : cs.Pairwise (· < ·)) (hc : ∀ c, c ∈ cs → c < i) : (cs ++ [i]).Pairwise (· < ·) := by
  rw [List.pairwise_append]
  exact ⟨h, List.pairwise_singleton _ _, fun a ha b hb => by rw [List.mem_singleton.mp hb]; exact hc a ha⟩
theorem cInts_snoc {cs : List Nat} {i : Nat} : cInts cs ++ [.int (i : Int)] = cInts (cs ++ [i]) := by unfold cInts; rw [List.map_append]; rfl
theorem cInts_len {cs : List Nat} : (cInts cs).length = cs.length := by unfold cInts; rw [List.length_map]
theorem bls_snoc {bs : List Bool} {b : Bool} : bls bs ++ [.bl b] = bls (bs ++ [b]) := by unfold bls; rw [List.map_append]; rfl
/-- a comprehension of values, item by item -/
theorem x_lcV {wi : TI} {te : TE} {vs : List Nat} {j : Nat} {Q : VK} {σ : L2.St} {H : Hp} {J : It} {G : Hp → Prop} {xs : List V} (f : Nat → V) (hw : ∀ R : It → Hp → Prop, R J H → wi σ H R) (w : Walk J xs.length G (YAt xs)) (hn : xs.length ≤ 100000)
    (hG : ∀ H', Same H H' → G H') (hv : ∀ x, wipe ((wipe σ vs).set j (some x)) vs = wipe σ vs)
    (he : ∀ (i : Nat) x H', Same H H' → xs[i]? = some x → ∀ R : VK, (∀ H2, Same H' H2 → R (f i) H2) → te ((wipe σ vs).set j (some x)) H' R)
    (hd : ∀ p H', H p = none → Same H H' → H' p = some (.lst ((List.range xs.length).map f)) → Q (.ref p) H') : tLc wi (gName j) tYes te vs σ H Q := by
  refine x_lcI hw w (fun p i H' => Same H H' ∧ H' p = some (.lst ((List.range i).map f))) (fun p hp => ⟨same_upd hp, upd_same⟩) (fun p i H' _ _ z => hG H' z.1) ?_ (fun x σ' H' R R' hr h => hr _ _ h) fun p H' hp z => hd p H' hp z.1 z.2
  rintro p i x H' H2 hi hp ⟨hs, hl⟩ ⟨rfl, hx⟩
  refine x_gName ⟨hv x, he i x _ hs hx _ fun H3 hs3 => ?_⟩
  refine ⟨_, hs3 _ _ hl, lt_line (by simp; omega), sput (hs.trans hs3) hp, ?_⟩
  rw [upd_same, List.range_succ, List.map_append]
  rfl
theorem range_map {α β : Type} {ds : List α} {f : α → β} {d : α} : ((List.range ds.length).map fun i => f (ds.getD i d)) = ds.map f := by
  apply List.ext_getElem?
  intro i
  rw [List.getElem?_map, List.getElem?_map]
  by_cases h : i < ds.length
  · rw [List.getElem?_range h, List.getElem?_eq_getElem h]
    show some (f (ds.getD i d)) = some (f ds[i])
    rw [List.getD_eq_getElem?_getD, List.getElem?_eq_getElem h]; rfl
  · rw [List.getElem?_eq_none (by simpa using h), List.getElem?_eq_none (by simpa using h)]
    rfl
theorem getDT {α : Type} {ds : List α} {i : Nat} {e d : α} (h : ds[i]? = some e) : ds.getD i d = e := by rw [List.getD_eq_getElem?_getD, h]; rfl
theorem GtsAt.snoc {H : Hp} {as : List Addr} {gs : List Gt} {b : Addr} {x : Gt} (h : GtsAt H as gs) (hx : GtAt H b x) : GtsAt H (as ++ [b]) (gs ++ [x]) := by
  refine ⟨by rw [List.length_append, List.length_append, h.1]; rfl, fun i y c e1 e2 => ?_⟩
  rcases snoc_at rfl e1 with ⟨h1, e1⟩ | ⟨h1, rfl⟩
  · rcases snoc_at rfl e2 with ⟨h2, e2⟩ | ⟨h2, rfl⟩
    · exact h.2 i y c e1 e2
    · have := h.1; omega
  · rcases snoc_at rfl e2 with ⟨h2, e2⟩ | ⟨h2, rfl⟩
    · have := h.1; omega
    · exact hx
theorem x_lcPreLT {K : PySem.W.Frag} {σ : L2.St} {H : Hp} {Q : VK} {te : TE} {ta : TE} {tt : TT} {j : Nat} {vs : List Nat} (h : ta σ H fun v H1 => tLc (iList K (tC v)) (gName j) tt te vs σ H1 Q) : tLc (iList K ta) (gName j) tt te vs σ H Q := h
/-- a comprehension over a list, with a test -/
theorem x_lcLT {K : PySem.W.Frag} {σ : L2.St} {H : Hp} {Q : VK} {ta : TE} {tt : TT} {te : TE} {j : Nat} {vs : List Nat} {a : Addr} (xs : List V) (P : Addr → Nat → Hp → Prop) (hn : ∀ R : V → Hp → Prop, R (.ref a) H → ta σ H R) (ha : SqL K H a xs) (h0 : ∀ p, H p = none → P p 0 (L2.upd H p (.lst [])))
    (hl : ∀ p i H', H p = none → i ≤ xs.length → P p i H' → SqL K H' a xs) (hw : ∀ x, wipe ((wipe σ vs).set j (some x)) vs = wipe σ vs)
    (hs : ∀ p (i : Nat) x H', H p = none → xs[i]? = some x → P p i H' → tt ((wipe σ vs).set j (some x)) H' fun b H3 => if b = true then te ((wipe σ vs).set j (some x)) H3 fun y H4 => ∃ acc, H4 p = some (.lst acc) ∧ acc.length < sizeLine ∧ P p (i + 1) (L2.upd H4 p (.lst (acc ++ [y]))) else P p (i + 1) H3)
    (hd : ∀ p H', H p = none → P p xs.length H' → Q (.ref p) H') : tLc (iList K ta) (gName j) tt te vs σ H Q := by
  refine hn _ ⟨a, rfl, ⟨xs, ha⟩, fun p hp => ?_⟩
  refine lc_list (xs := xs) (Qd := fun H' => Q (.ref p) H') (P p) (h0 p hp) (fun i H' hi q => hl p i H' hp hi q) (fun i x H' hi q => ?_) fun H' q => hd p H' hp q
  exact ⟨hw _, hs p i x H' hp hi q⟩
def bitsD (n : Int) : PyData → Bool
  | .list es => decide (n ≤ (es.length : Int)) && es.all isBlD
  | _ => false
def blsD (bs : List Bool) : PyData := .list (bs.map PyData.bool)
theorem bitsD_iff {n : Int} {e : PyData} : bitsD n e = true ↔ ∃ bs : List Bool, e = blsD bs ∧ n ≤ (bs.length : Int) := by
  constructor
  · intro h
    cases e with
    | list es =>
      have h : (decide (n ≤ (es.length : Int)) && es.all isBlD) = true := h
      rw [Bool.and_eq_true, decide_eq_true_iff] at h
      have : ∀ es : List PyData, es.all isBlD = true → ∃ bs : List Bool, es = bs.map PyData.bool := by
        intro es
        induction es with
        | nil => intro _; exact ⟨[], rfl⟩
        | cons e es ih =>
          intro h
          rw [List.all_cons, Bool.and_eq_true] at h
          obtain ⟨bs, rfl⟩ := ih h.2
          cases e with
          | bool b => exact ⟨b :: bs, rfl⟩
          | _ => cases h.1
      obtain ⟨bs, rfl⟩ := this es h.2
      exact ⟨bs, rfl, by have := h.1; rw [List.length_map] at this; exact this⟩
    | _ => cases h
  · rintro ⟨bs, rfl, h⟩
    show (decide (n ≤ ((bs.map PyData.bool).length : Int)) && (bs.map PyData.bool).all isBlD) = true
    rw [List.length_map, decide_eq_true h, Bool.true_and, List.all_eq_true]
    intro e he
    obtain ⟨b, _, rfl⟩ := List.mem_map.mp he
    rfl
theorem blsD_at {d : Addr} {H : Hp} {v : V} {bs : List Bool} (h : DAt d H v (blsD bs)) : ∃ a, v = .ref a ∧ H a = some (.lst (bls bs)) := by
  unfold blsD at h
  cases h with
  | lst hd h hs =>
    rename_i a xs
    refine ⟨a, rfl, ?_⟩
    have : ∀ {bs : List Bool} {xs : List V}, DAts d H xs (bs.map PyData.bool) → xs = bls bs := by
      intro bs
      induction bs with
      | nil => intro xs h; cases h; rfl
      | cons b bs ih =>
        intro xs h
        cases h with
        | cons h hs =>
          cases h
          rw [ih hs]
          rfl
    rw [h, this hs]
end Br

/-! ### words as data, and what they do -/
namespace Br
open PySem PySem.Spec PyProof.Rows L2
theorem cutV_to {xs : List V} {k : Nat} (h : k ≤ xs.length) : cutV xs none (some (k : Int)) = xs.take k := by
  unfold cutV
  rw [HT.sIx_none, HT.sIx_nat, Nat.min_eq_left h, List.drop_zero, Nat.sub_zero]
theorem cutV_from {xs : List V} {k : Nat} (h : k ≤ xs.length) : cutV xs (some (k : Int)) none = xs.drop k := by
  unfold cutV
  rw [HT.sIx_none, HT.sIx_nat, Nat.min_eq_left h]
  exact List.take_of_length_le (by rw [List.length_drop]; exact Nat.le_refl _)
/-! slices -/
section
variable {σ : L2.St} {H : Hp} {Q : VK} {R : Option Int → Hp → Prop}
theorem x_gTup3 {K : PySem.W.Frag} {σ : L2.St} {H : Hp} {p : Addr} {x y z : V} {i j k : Nat} {R : L2.St → Hp → Prop} (hp : SqT K H p [x, y, z]) (h : R (((σ.set i (some x)).set j (some y)).set k (some z)) H) : gTup K 3 (gCons (gName i) (gCons (gName j) (gCons (gName k) gNil))) (.ref p) σ H R :=
  ⟨p, [x, y, z], rfl, hp, rfl, x, [y, z], rfl, y, [z], rfl, z, [], rfl, rfl, h⟩
end
structure PmOk (p : List Nat) : Prop where
  len : p.length = 5
  lt : ∀ x, x ∈ p → x < 5
  nd : p.Nodup
abbrev Tr := Nat × List Nat × List Nat
def TrOk (t : Tr) : Prop := t.1 < 60 ∧ PmOk t.2.1 ∧ PmOk t.2.2
def pmD (p : List Nat) : PyData := .tuple (p.map fun (c : Nat) => PyData.int (c : Int))
def trD (t : Tr) : PyData := .tuple [.int (t.1 : Int), pmD t.2.1, pmD t.2.2]
def TrAt (H : Hp) (a : Addr) (t : Tr) : Prop := ∃ z o : Addr, H a = some (.tup [.int (t.1 : Int), .ref z, .ref o]) ∧ H z = some (.tup (cInts t.2.1)) ∧ H o = some (.tup (cInts t.2.2))
theorem TrAt.tups {H H' : Hp} {a : Addr} {t : Tr} (h : TrAt H a t) (k : ∀ b xs, H b = some (.tup xs) → H' b = some (.tup xs)) : TrAt H' a t := by
  obtain ⟨z, o, h1, h2, h3⟩ := h
  exact ⟨z, o, k _ _ h1, k _ _ h2, k _ _ h3⟩
theorem TrAt.dat {d a : Addr} {H : Hp} {t : Tr} (h : TrAt H a t) : DAt d H (.ref a) (trD t) := by
  obtain ⟨z, o, h1, h2, h3⟩ := h
  exact .tup h1 (.cons (.int _) (.cons (.tup h2 cInts_at) (.cons (.tup h3 cInts_at) .nil)))
/-- back from data -/
theorem cInts_of {d : Addr} {H : Hp} : ∀ {xs : List V} {cs : List Nat}, DAts d H xs (cs.map fun (c : Nat) => PyData.int (c : Int)) → xs = cInts cs
  | [], [], _ => rfl
  | v :: xs, c :: cs, h => by
    cases h with
    | cons h hs =>
      cases h
      rw [cInts_of hs]
      rfl
  | [], _ :: _, h => by cases h
  | _ :: _, [], h => by cases h
theorem pmD_at {d : Addr} {H : Hp} {v : V} {p : List Nat} (h : DAt d H v (pmD p)) : ∃ z, v = .ref z ∧ H z = some (.tup (cInts p)) := by
  unfold pmD at h
  cases h with
  | tup h hs =>
    rename_i a xs
    refine ⟨a, rfl, ?_⟩
    rw [h, cInts_of hs]
theorem trD_at {d : Addr} {H : Hp} {v : V} {t : Tr} (h : DAt d H v (trD t)) : ∃ a, v = .ref a ∧ TrAt H a t := by
  unfold trD at h
  cases h with
  | tup h hs =>
    rename_i a xs
    cases hs with
    | cons h1 hs =>
      cases h1
      cases hs with
      | cons h2 hs =>
        cases hs with
        | cons h3 hs =>
          cases hs
          obtain ⟨z, rfl, e2⟩ := pmD_at h2
          obtain ⟨o, rfl, e3⟩ := pmD_at h3
          exact ⟨a, rfl, z, o, h, e2, e3⟩
/-- the checks -/
def intD : PyData → Int
  | .int i => i
  | _ => 0
def permD : PyData → Bool
  | .tuple es => decide (es.length = 5) && (es.all (isBD 5) && decide (es.map intD).Nodup)
  | _ => false
def tripD : PyData → Bool
  | .tuple [k, z, o] => isBD 60 k && (permD z && permD o)
  | _ => false
def wordD : PyData → Bool
  | .list es => decide (es.length ≤ 20000) && es.all tripD
  | _ => false
theorem ints_nat : ∀ {es : List PyData} {b : Nat}, es.all (isBD (b : Int)) = true → ∃ cs : List Nat, es = cs.map (fun (c : Nat) => PyData.int (c : Int)) ∧ ∀ c, c ∈ cs → c < b
  | [], _, _ => ⟨[], rfl, fun c h => by simp at h⟩
  | e :: es, b, h => by
    rw [List.all_cons, Bool.and_eq_true] at h
    obtain ⟨i, rfl, i0, i1⟩ := isBD_iff.mp h.1
    obtain ⟨cs, rfl, hc⟩ := ints_nat h.2
    refine ⟨i.toNat :: cs, ?_, fun c hc' => ?_⟩
    · rw [List.map_cons]
      congr 2
      omega
    · rcases List.mem_cons.mp hc' with rfl | hc'
      · omega
      · exact hc c hc'
theorem map_intD {cs : List Nat} : (cs.map fun (c : Nat) => PyData.int (c : Int)).map intD = cs.map fun (c : Nat) => (c : Int) := by rw [List.map_map]; rfl
theorem nodup_cast {cs : List Nat} : (cs.map fun (c : Nat) => (c : Int)).Nodup ↔ cs.Nodup := by
  unfold List.Nodup
  rw [List.pairwise_map]
  exact ⟨fun h => h.imp fun hh e => hh (by rw [e]), fun h => h.imp fun hh e => hh (Int.ofNat.inj e)⟩
theorem permD_iff {e : PyData} : permD e = true ↔ ∃ p, e = pmD p ∧ PmOk p := by
  constructor
  · intro h
    cases e with
    | tuple es =>
      have h : (decide (es.length = 5) && (es.all (isBD 5) && decide (es.map intD).Nodup)) = true := h
      rw [Bool.and_eq_true, Bool.and_eq_true (es.all _), decide_eq_true_iff, decide_eq_true_iff] at h
      obtain ⟨h1, h2, h3⟩ := h
      obtain ⟨cs, rfl, hc⟩ := ints_nat (b := 5) h2
      rw [map_intD, nodup_cast] at h3
      exact ⟨cs, rfl, by rw [List.length_map] at h1; exact h1, hc, h3⟩
    | _ => cases h
  · rintro ⟨p, rfl, h⟩
    show (decide ((p.map _).length = 5) && ((p.map _).all (isBD 5) && decide ((p.map _).map intD).Nodup)) = true
    rw [map_intD, List.length_map, decide_eq_true h.len, decide_eq_true (nodup_cast.mpr h.nd), Bool.and_true, Bool.true_and, List.all_eq_true]
    intro x hx
    obtain ⟨c, hc, rfl⟩ := List.mem_map.mp hx
    exact isBD_iff.mpr ⟨_, rfl, by omega, by have := h.lt c hc; omega⟩
theorem tripD_iff {e : PyData} : tripD e = true ↔ ∃ t, e = trD t ∧ TrOk t := by
  constructor
  · intro h
    match e, h with
    | .tuple [k, z, o], h =>
      have h : (isBD 60 k && (permD z && permD o)) = true := h
      rw [Bool.and_eq_true, Bool.and_eq_true (permD z)] at h
      obtain ⟨i, rfl, i0, i1⟩ := isBD_iff.mp h.1
      obtain ⟨p, rfl, hp⟩ := permD_iff.mp h.2.1
      obtain ⟨p2, rfl, hp2⟩ := permD_iff.mp h.2.2
      refine ⟨(i.toNat, p, p2), ?_, by show i.toNat < 60; omega, hp, hp2⟩
      show PyData.tuple _ = .tuple [.int ((i.toNat : Nat) : Int), _, _]
      rw [show ((i.toNat : Nat) : Int) = i by omega]
  · rintro ⟨t, rfl, h1, h2, h3⟩
    show (isBD 60 (.int (t.1 : Int)) && (permD (pmD t.2.1) && permD (pmD t.2.2))) = true
    rw [isBD_iff.mpr ⟨_, rfl, by omega, by omega⟩, permD_iff.mpr ⟨_, rfl, h2⟩, permD_iff.mpr ⟨_, rfl, h3⟩]
    rfl
theorem trips_of : ∀ {es : List PyData}, es.all tripD = true → ∃ ws : List Tr, es = ws.map trD ∧ ∀ t, t ∈ ws → TrOk t
  | [], _ => ⟨[], rfl, fun t h => by simp at h⟩
  | e :: es, h => by
    rw [List.all_cons, Bool.and_eq_true] at h
    obtain ⟨t, rfl, ht⟩ := tripD_iff.mp h.1
    obtain ⟨ws, rfl, hw⟩ := trips_of h.2
    refine ⟨t :: ws, rfl, fun x hx => ?_⟩
    rcases List.mem_cons.mp hx with rfl | hx
    · exact ht
    · exact hw x hx
theorem wordD_iff {e : PyData} : wordD e = true ↔ ∃ ws : List Tr, e = .list (ws.map trD) ∧ ws.length ≤ 20000 ∧ ∀ t, t ∈ ws → TrOk t := by
  constructor
  · intro h
    cases e with
    | list es =>
      have h : (decide (es.length ≤ 20000) && es.all tripD) = true := h
      rw [Bool.and_eq_true, decide_eq_true_iff] at h
      obtain ⟨ws, rfl, hw⟩ := trips_of h.2
      exact ⟨ws, rfl, by have := h.1; rw [List.length_map] at this; exact this, hw⟩
    | _ => cases h
  · rintro ⟨ws, rfl, hl, hw⟩
    show (decide ((ws.map trD).length ≤ 20000) && (ws.map trD).all tripD) = true
    rw [List.length_map, decide_eq_true hl, Bool.true_and, List.all_eq_true]
    intro x hx
    obtain ⟨t, ht, rfl⟩ := List.mem_map.mp hx
    exact tripD_iff.mpr ⟨t, rfl, hw t ht⟩
/-- what a word does -/
def stepW (bs : List Bool) (p : Nat) (t : Tr) : Nat := (if bs.getD t.1 false then t.2.2 else t.2.1).getD p 0
def effF (ws : List Tr) (bs : List Bool) (p : Nat) : Nat := ws.foldl (stepW bs) p
theorem effF_snoc {ws : List Tr} {t : Tr} {bs : List Bool} {p : Nat} : effF (ws ++ [t]) bs p = stepW bs (effF ws bs p) t := by
  unfold effF
  rw [List.foldl_append]
  rfl
theorem pm_get {p : List Nat} (h : PmOk p) {i : Nat} (hi : i < 5) : p[i]? = some (p.getD i 0) ∧ p.getD i 0 < 5 := by
  have hl : i < p.length := by rw [h.len]; exact hi
  have e : p.getD i 0 = p[i] := by rw [List.getD_eq_getElem?_getD, List.getElem?_eq_getElem hl]; rfl
  rw [e]
  exact ⟨List.getElem?_eq_getElem hl, h.lt _ (List.getElem_mem hl)⟩
theorem effF_lt {bs : List Bool} : ∀ {ws : List Tr} {p : Nat}, (∀ t, t ∈ ws → TrOk t) → p < 5 → effF ws bs p < 5
  | [], _, _, hp => hp
  | t :: ws, p, h, hp => by
    have ht := h t List.mem_cons_self
    refine effF_lt (p := stepW bs p t) (fun x hx => h x (List.mem_cons_of_mem _ hx)) ?_
    unfold stepW
    split
    · exact (pm_get ht.2.2 hp).2
    · exact (pm_get ht.2.1 hp).2
/-- the bits that a word needs -/
def needW (ws : List Tr) : Nat := (ws.map fun t => t.1 + 1).foldr max 0
theorem needW_le {ws : List Tr} {t : Tr} (h : t ∈ ws) : t.1 + 1 ≤ needW ws := (foldr_max (cs := ws.map fun t => t.1 + 1) (t := 0)).2.1 _ (List.mem_map.mpr ⟨t, h, rfl⟩)
theorem needW_max {ws : List Tr} {m : Int} (h : (ws = [] ∧ m = 0) ∨ (m ∈ ws.map (fun t => ((t.1 : Int) + 1)) ∧ ∀ y, y ∈ ws.map (fun t => ((t.1 : Int) + 1)) → y ≤ m)) : m = (needW ws : Nat) := by
  rcases h with ⟨rfl, rfl⟩ | ⟨h1, h2⟩
  · rfl
  · obtain ⟨t, ht, rfl⟩ := List.mem_map.mp h1
    have k1 := needW_le ht
    have k2 : (needW ws : Int) ≤ (t.1 : Int) + 1 := by
      rcases (foldr_max (cs := ws.map fun t => t.1 + 1) (t := 0)).2.2 with e | e
      · have : needW ws = 0 := e
        omega
      · obtain ⟨u, hu, e⟩ := List.mem_map.mp e
        have := h2 _ (List.mem_map.mpr ⟨u, hu, rfl⟩)
        have e : u.1 + 1 = needW ws := e
        omega
    omega
theorem needW_60 {ws : List Tr} (h : ∀ t, t ∈ ws → TrOk t) : needW ws ≤ 60 := by
  rcases (foldr_max (cs := ws.map fun t => t.1 + 1) (t := 0)).2.2 with e | e
  · have : needW ws = 0 := e
    omega
  · obtain ⟨u, hu, e⟩ := List.mem_map.mp e
    have := (h u hu).1
    have e : u.1 + 1 = needW ws := e
    omega
end Br

/-! ### exceptions of the program: what a suite asks of the one it holds -/
namespace Br
open PySem PySem.Spec PyProof.Rows L2
theorem kit_ref {K : PySem.W.Frag} {D Y : Addr} {b : Bool} (hd : PySem.W.hasDictIn K Y = true) (ht : PySem.W.typeIn K (.ref Y) = some (.type "type")) (h : PySem.W.subIn K (.ref D) (.ref Y) = some b) (hs : PySem.W.subIn K (.ref Y) (.ref Y) = some true) : PySem.W.kitOne K (.ref D) (.ref Y) = some b := by
  unfold PySem.W.kitOne
  by_cases e : D = Y
  · subst e
    rw [h] at hs
    cases hs
    rw [if_pos (by simp)]
  · have hne : ((Value.ref D : Value) == Value.ref Y) = false := by
      rw [beq_eq_false_iff_ne]
      intro z
      cases z
      exact e rfl
    rw [hne, if_neg Bool.false_ne_true]
    obtain ⟨cd, hc, _⟩ := PySem.W.any_some hd
    have e2 : ((PySem.W.clsIn K Y).isSome && PySem.W.typeIn K (.ref Y) == some (.type "type")) = true := by rw [hc, ht]; rfl
    show (if ((PySem.W.clsIn K Y).isSome && PySem.W.typeIn K (.ref Y) == some (.type "type")) = true then PySem.W.subIn K (.ref D) (.ref Y) else none) = some b
    rw [if_pos e2]
    exact h
/-- isinstance(e, c), e what the suite holds, of whatever class -/
def rIsEQ (K : PySem.W.Frag) (a : Addr) (cls : Value) (d : Option Addr) : List V → Hp → VK → Prop := fun xs H Q => ∃ (D : Addr) (C : Addr) (b : Bool), cls = .ref D ∧ d = none ∧ ExcC K D ∧ xs = [.ref a, .ref C] ∧ PySem.W.kitOne K (.ref D) (.ref C) = some b ∧ Q (.bl b) H
theorem call_isEQ {X : Cx} {a : Addr} {oe : Obj} {cls : Value} {d : Option Addr} {pn : List (Addr × Obj)} {K : PySem.W.Frag} (hK : X.K = K) (hz : Zc cls d oe) (hf : ∃ vs, oe.data = .fields vs) : CallR (X.suite a ((a, oe) :: pn)) (.builtin "isinstance") (rIsEQ K a cls d) := by
  subst hK
  intro pins s σ H xs us Q I r h
  obtain ⟨D, C, b, rfl, rfl, hC, rfl, hk, q⟩ := h
  exact call_isE hC hz hf pins s σ H _ us Q I r ⟨.ref C, .ref C, b, rfl, fun u hu => hu, hk, q⟩
section
variable {σ : L2.St} {H : Hp} {D : Ends}
theorem x_callS {sp : Sp} {E : L2.St → XK} {t : TA} {Q : VK} (h : t σ H fun vs H1 => sp vs H1 Q (E σ)) : tCallS sp E t σ H Q := h
end
/-- a method's call within a try: what it raises is wished for at the slots as they stand -/
def tMethX (C : Addr) (m : Str) (sp : Sp) (E : L2.St → XK) (ta : TE) (t : TA) : TE := fun σ H Q => ta σ H fun x H1 => ∃ a dx fs, x = .ref a ∧ H1 a = some (.ins C dx fs) ∧ fs.lookup m = none ∧ t σ H1 fun vs H2 => sp (x :: vs) H2 Q (E σ)
theorem pe_methX {X : Cx} {CX : CXT} {k : Nat} {f C : Addr} {fd : FuncData} {ps : List Str} {sp : Sp} {E : L2.St → XK} {m : Str} {pos apos : Pos} {e o : Expr} {es : List Expr} {ta : TE} {t : TA} {pl : Sem Bool} (he : PE X o ta) (c : Cls X.K C) (hm : Meth X.K C m f)
    (F : FnOk X.prog X.w X.K X.mg X.base CX k f fd ps sp) (hr : Room k X.A) (hb : Binds X.K fd ps []) (hx : ∀ σ, PassesAt CX X σ (E σ)) (ha : PA X (e :: es) t)
    (hst : starEach (e :: es) X.env = (false, eval e X.env) :: starEach es X.env := by rfl) (hpl : (backTo pos (starEach es X.env)).any (·.1) = false := by rfl)
    (ht : eval (.Call (.Attribute o m apos) (e :: es) [] pos) X.env = (do
      let ov ← eval o X.env
      standAt apos.atName
      let (f, first) ← holding [ov] (getMethod ov m pl)
      callWith pos f first (backTo pos (starEach (e :: es) X.env)) (backToKw pos (keywordEach [] X.env))) := by rfl) :
    PE X (.Call (.Attribute o m apos) (e :: es) [] pos) (tMethX C m sp E ta t) := by
  refine ⟨fun pins s σ H Q I h => ?_⟩
  refine PySem.W.methodCall_KW (pl := pl) (thn (he.run pins s σ H _ I h) fun u s1 ⟨x, H1, I1, rx, a, dx, fs, ex, ea, l, q⟩ => ?_) ht
  subst ex
  obtain rfl : u = Value.ref a := rx
  refine getmeth_ok I1 ea c hm l ?_
  refine PySem.W.callWith_K (first := [.ref a]) (h₀ := X.base) I.ok.mod.kin hm.kp (thn (ha.run pos pins s1 σ H1 _ I1 q) fun us s2 ⟨vs, H2, I2, r, q2⟩ => ⟨I2.kIn, ?_⟩) hst hpl
  exact run_fnS (us := .ref a :: us) (vs := .ref a :: vs) F hr hb (hx σ) I2 (.cons rfl r) q2
theorem x_methX {C : Addr} {m : Str} {sp : Sp} {E : L2.St → XK} {ta : TE} {t : TA} {σ : L2.St} {H : Hp} {Q : VK} (h : ta σ H fun x H1 => ∃ a dx fs, x = .ref a ∧ H1 a = some (.ins C dx fs) ∧ fs.lookup m = none ∧ t σ H1 fun vs H2 => sp (x :: vs) H2 Q (E σ)) : tMethX C m sp E ta t σ H Q := h
/-! texts with numbers -/
theorem x_fmt {te : TE} {σ : L2.St} {H : Hp} {Q : VK} (h : te σ H fun x H1 => (∃ y : Str, x = .str y ∧ y.length ≤ sizeLine ∧ Q (.str y) H1) ∨ ∃ i : Int, x = .int i ∧ i.natAbs.log2 < 1920 ∧ Q (.str (toString i)) H1) : tFmt te σ H Q := h
theorem len_nat {n : Nat} (h : n < 10 ^ 10) : (Str.ofString (toString (n : Int))).length ≤ 10 := toString_length_le (Int.natCast_nonneg n) (by decide) (by exact_mod_cast h)
theorem log_nat {n : Nat} (h : n < 2 ^ 64) : ((n : Int)).natAbs.log2 < 1920 := by
  rw [Int.natAbs_natCast]
  by_cases h0 : n = 0
  · subst h0; decide
  · have := (Nat.log2_lt h0).mpr h
    omega
end Br
/-! isinstance(e, (C1, C2, ..)), e what the suite holds -/
namespace Br
open PySem PySem.Spec PyProof.Rows L2
def rIsEQT (K : PySem.W.Frag) (a : Addr) (cls : Value) (d : Option Addr) : List V → Hp → VK → Prop := fun xs H Q => ∃ (D tp : Addr) (cs : List V) (us : List Value) (b : Bool), cls = .ref D ∧ d = none ∧ ExcC K D ∧ xs = [.ref a, .ref tp] ∧ H tp = some (.tup cs) ∧ Paired ClsV cs us ∧ PySem.W.kitAny K (.ref D) us = some b ∧ Q (.bl b) H
theorem call_isEQT {X : Cx} {a : Addr} {oe : Obj} {cls : Value} {d : Option Addr} {pn : List (Addr × Obj)} {K : PySem.W.Frag} (hK : X.K = K) (hz : Zc cls d oe) (hf : ∃ vs, oe.data = .fields vs) : CallR (X.suite a ((a, oe) :: pn)) (.builtin "isinstance") (rIsEQT K a cls d) := by
  subst hK
  intro pins s σ H xs us Q I r h
  obtain ⟨D, tp, cs, ws, b, rfl, rfl, C, rfl, hT, k, e, q⟩ := h
  obtain ⟨u1, u2, rfl, rx, rt⟩ := vals2 r
  cases (show u2 = Value.ref tp from rt)
  cases (show u1 = Value.ref a from rx)
  obtain ⟨hget, _⟩ := I.pin (a, oe) (List.mem_append.mpr (.inl List.mem_cons_self))
  obtain ⟨vs, hv⟩ := hf
  have J : PySem.W.InstAt s.heap a oe D none := by
    obtain ⟨oc, od, oda, osl⟩ := oe
    obtain ⟨h1, h2⟩ := hz
    dsimp only at h1 h2 hv
    subst h1 h2 hv
    exact ⟨hget, rfl, rfl, trivial⟩
  obtain ⟨_, its, rv, o, h1, h2, n, h3⟩ := (show ObjOk _ _ H s.heap tp (.tup cs) from I.hok tp _ hT)
  have e3 := ClsV.all k rv
  subst e3
  obtain ⟨oc, od, dt, sl⟩ := o
  simp only at h2 h3
  subst h2 h3
  exact PySem.W.kia_tup (PySem.W.handS_kitx_exc C.hg C.hk C.hs C.hd C.ha C.hn C.ht C.hm) I.kIn J h1 e (fun z => nomatch z) fun tk => ⟨.bl b, H, I.kept (t' := tk) fun _ _ z => z, rfl, q⟩
end Br
namespace Br
open PySem PySem.Spec PyProof.Rows L2
/-! isinstance(e, ValueError), e what the suite holds -/
def rIsEV (K : PySem.W.Frag) (a : Addr) (cls : Value) (d : Option Addr) : List V → Hp → VK → Prop := fun xs H Q => ∃ (D : Addr) (T : String) (b : Bool), cls = .ref D ∧ d = none ∧ ExcC K D ∧ xs = [.ref a, .ty T] ∧ PySem.W.kitOne K (.ref D) (.type T) = some b ∧ Q (.bl b) H
theorem call_isEV {X : Cx} {a : Addr} {oe : Obj} {cls : Value} {d : Option Addr} {pn : List (Addr × Obj)} {K : PySem.W.Frag} (hK : X.K = K) (hz : Zc cls d oe) (hf : ∃ vs, oe.data = .fields vs) : CallR (X.suite a ((a, oe) :: pn)) (.builtin "isinstance") (rIsEV K a cls d) := by
  subst hK
  intro pins s σ H xs us Q I r h
  obtain ⟨D, T, b, rfl, rfl, hC, rfl, hk, q⟩ := h
  exact call_isE hC hz hf pins s σ H _ us Q I r ⟨.ty T, .type T, b, rfl, fun u hu => hu, hk, q⟩
theorem kit_val {K : PySem.W.Frag} {D : Addr} (h : PySem.W.subIn K (.ref D) (.type "ValueError") = some true) : PySem.W.kitOne K (.ref D) (.type "ValueError") = some true := by
  unfold PySem.W.kitOne
  rw [if_neg (by rw [show ((Value.ref D : Value) == Value.type "ValueError") = false from rfl]; decide)]
  show (if PySem.W.kitMeta "ValueError" = true then PySem.W.subIn K (.ref D) (.type "ValueError") else none) = some true
  rw [if_pos (by decide +kernel)]
  exact h
end Br

/-! ### data: changes elsewhere, changes of an item -/
namespace Br
open PySem PySem.Spec PyProof.Rows L2
section
variable {d c : Addr} {H H' : Hp}
mutual
theorem DAt.keep2 (hc : ∃ ys, H c = some (.lst ys)) (k : Keep c H H') : ∀ (e : PyData) {v : V}, DAt c H v e → DAt d H v e → DAt d H' v e
  | .none, _, _, h => by cases h; exact .non
  | .bool b, _, _, h => by cases h; exact .bl b
  | .int i, _, _, h => by cases h; exact .int i
  | .str x, _, _, h => by cases h; exact .str x
  | .list ds, _, h1, h => by
    cases h1 with
    | lst hn1 h1 hs1 =>
      cases h with
      | lst hn h hs =>
        rw [h] at h1
        cases h1
        exact .lst hn (k _ _ h hn1) (DAts.keep2 hc k ds hs1 hs)
  | .tuple ds, _, h1, h => by
    obtain ⟨ys, hc'⟩ := id hc
    cases h1 with
    | tup h1 hs1 =>
      cases h with
      | tup h hs =>
        rw [h] at h1
        cases h1
        exact .tup (k _ _ h (ne_of h hc' (by intro z; cases z))) (DAts.keep2 hc k ds hs1 hs)
  | .dict _, _, _, h => by cases h
theorem DAts.keep2 (hc : ∃ ys, H c = some (.lst ys)) (k : Keep c H H') : ∀ (es : List PyData) {vs : List V}, DAts c H vs es → DAts d H vs es → DAts d H' vs es
  | [], _, _, h => by cases h; exact .nil
  | e :: es, _, h1, h => by
    cases h1 with
    | cons h1 hs1 =>
      cases h with
      | cons h hs => exact .cons (DAt.keep2 hc k e h1 h) (DAts.keep2 hc k es hs1 hs)
end
theorem DAts.set : ∀ {xs : List V} {es : List PyData} {i : Nat} {v : V} {e : PyData}, DAts d H xs es → DAt d H v e → DAts d H (xs.set i v) (es.set i e)
  | [], _, _, _, _, h, _ => by cases h; exact .nil
  | x :: xs, _, i, v, e, h, h1 => by
    cases h with
    | cons h hs =>
      cases i with
      | zero => exact .cons h1 hs
      | succ i => exact .cons h (hs.set h1)
theorem DAts.take : ∀ {xs : List V} {es : List PyData} {n : Nat}, DAts d H xs es → DAts d H (xs.take n) (es.take n)
  | [], _, n, h => by cases h; cases n <;> exact .nil
  | x :: xs, _, 0, h => by cases h; exact .nil
  | x :: xs, _, n + 1, h => by
    cases h with
    | cons h hs => exact .cons h hs.take
theorem DAts.drop : ∀ {xs : List V} {es : List PyData} {n : Nat}, DAts d H xs es → DAts d H (xs.drop n) (es.drop n)
  | [], _, n, h => by cases h; cases n <;> exact .nil
  | x :: xs, _, 0, h => h
  | x :: xs, _, n + 1, h => by
    cases h with
    | cons h hs => exact hs.drop
/-- a value that needs no object -/
def FlatD (v : V) (e : PyData) : Prop := ∀ d H, DAt d H v e
/-- data apart from every list that stood before -/
def DNew (H0 H : Hp) (v : V) (e : PyData) : Prop := ∀ p, H0 p ≠ none → DAt p H v e
theorem FlatD.new {H0 H : Hp} {v : V} {e : PyData} (h : FlatD v e) : DNew H0 H v e := fun p _ => h p H
end
theorem x_andP {t u : TT} {σ : L2.St} {H : Hp} {QT : Bool → Hp → Prop} (b1 b2 : Bool) (h1 : ∀ R : Bool → Hp → Prop, R b1 H → t σ H R) (h2 : b1 = true → ∀ R : Bool → Hp → Prop, R b2 H → u σ H R) (h : QT (b1 && b2) H) : tAnd t u σ H QT := by
  refine h1 _ ?_
  cases b1 with
  | true => exact iteT (h2 rfl _ h)
  | false => exact iteF h
theorem x_orI {u : TT} {σ : L2.St} {H : Hp} {QT : Bool → Hp → Prop} {b1 : Bool} (b2 : Bool) (h2 : b1 = false → ∀ R : Bool → Hp → Prop, R b2 H → u σ H R) (h : QT (b1 || b2) H) : if b1 = true then QT true H else u σ H QT := by
  cases b1 with
  | true => exact iteT h
  | false => exact iteF (h2 rfl _ h)
theorem x_andI {u : TT} {σ : L2.St} {H : Hp} {QT : Bool → Hp → Prop} {b1 : Bool} (b2 : Bool) (h2 : b1 = true → ∀ R : Bool → Hp → Prop, R b2 H → u σ H R) (h : QT (b1 && b2) H) : if b1 = true then u σ H QT else QT false H := by
  cases b1 with
  | true => exact iteT (h2 rfl _ h)
  | false => exact iteF h
end Br

/-! ### what is a list of gates, read back -/
namespace Br
open PySem PySem.Spec PyProof.Rows L2
theorem risF_nat : ∀ {es : List PyData} {l : Int}, -1 ≤ l → risF l es = true → ∃ cs : List Nat, es = cs.map (fun (c : Nat) => PyData.int (c : Int)) ∧ cs.Pairwise (· < ·) ∧ ∀ c, c ∈ cs → c < 120 ∧ l < (c : Int)
  | [], _, _, _ => ⟨[], rfl, .nil, fun c h => by simp at h⟩
  | .int i :: es, l, hl, hr => by
    have hr : ((decide (0 ≤ i) && decide (i < 120)) && (decide (l < i) && risF i es)) = true := hr
    rw [Bool.and_eq_true, Bool.and_eq_true (decide (l < i)), Bool.and_eq_true, decide_eq_true_iff, decide_eq_true_iff, decide_eq_true_iff] at hr
    obtain ⟨⟨h0, h1⟩, h2, h3⟩ := hr
    obtain ⟨cs, rfl, hp, hc⟩ := risF_nat (by omega) h3
    obtain ⟨c, rfl⟩ : ∃ c : Nat, i = (c : Int) := ⟨i.toNat, by omega⟩
    refine ⟨c :: cs, rfl, List.pairwise_cons.mpr ⟨fun x hx => by have := (hc x hx).2; omega, hp⟩, fun x hx => ?_⟩
    rcases List.mem_cons.mp hx with rfl | hx
    · omega
    · have := hc x hx
      omega
  | .none :: _, _, _, hr => by cases hr
  | .bool _ :: _, _, _, hr => by cases hr
  | .str _ :: _, _, _, hr => by cases hr
  | .list _ :: _, _, _, hr => by cases hr
  | .tuple _ :: _, _, _, hr => by cases hr
  | .dict _ :: _, _, _, hr => by cases hr
theorem gateD_iff {e : PyData} : gateD e = true ↔ ∃ g, e = gtD g ∧ GtOk 120 g := by
  constructor
  · intro h
    match e, h with
    | .tuple [t, .tuple es], h =>
      have h : (isBD 120 t && (risF (-1) es && !hasD t es)) = true := h
      rw [Bool.and_eq_true, Bool.and_eq_true] at h
      obtain ⟨h1, h2, h3⟩ := h
      obtain ⟨i, rfl, i0, i1⟩ := isBD_iff.mp h1
      obtain ⟨cs, rfl, hp, hc⟩ := risF_nat (by decide) h2
      obtain ⟨t, rfl⟩ : ∃ c : Nat, i = (c : Int) := ⟨i.toNat, by omega⟩
      refine ⟨(t, cs), rfl, ⟨by show t < 120; omega, fun c hc2 => (hc c hc2).1, fun hm => ?_, hp⟩⟩
      have hf : hasD (.int (t : Int)) (cs.map fun (c : Nat) => PyData.int (c : Int)) = false := by simpa using h3
      unfold hasD at hf
      rw [List.any_eq_false] at hf
      exact hf (.int (t : Int)) (List.mem_map.mpr ⟨t, hm, rfl⟩) (by show decide ((t : Int) = (t : Int)) = true; exact decide_eq_true rfl)
  · rintro ⟨g, rfl, ok⟩
    exact gateD_ok ok
theorem gatesD_iff {e : PyData} : gatesD e = true ↔ ∃ gs : List Gt, e = .list (gs.map gtD) ∧ gs.length ≤ 60000 ∧ ∀ g, g ∈ gs → GtOk 120 g := by
  constructor
  · intro h
    cases e with
    | list es =>
      have h : (decide (es.length ≤ 60000) && es.all gateD) = true := h
      rw [Bool.and_eq_true, decide_eq_true_iff] at h
      have : ∀ es : List PyData, es.all gateD = true → ∃ gs : List Gt, es = gs.map gtD ∧ ∀ g, g ∈ gs → GtOk 120 g := by
        intro es
        induction es with
        | nil => intro _; exact ⟨[], rfl, fun g h => by simp at h⟩
        | cons e es ih =>
          intro h
          rw [List.all_cons, Bool.and_eq_true] at h
          obtain ⟨gs, rfl, hg⟩ := ih h.2
          obtain ⟨g, rfl, ok⟩ := gateD_iff.mp h.1
          refine ⟨g :: gs, rfl, fun x hx => ?_⟩
          rcases List.mem_cons.mp hx with rfl | hx
          · exact ok
          · exact hg x hx
      obtain ⟨gs, rfl, hg⟩ := this es h.2
      exact ⟨gs, rfl, by have := h.1; rw [List.length_map] at this; exact this, hg⟩
    | _ => cases h
  · rintro ⟨gs, rfl, hl, ok⟩
    show (decide ((gs.map gtD).length ≤ 60000) && (gs.map gtD).all gateD) = true
    rw [List.length_map, decide_eq_true hl, Bool.true_and, List.all_eq_true]
    intro e he
    obtain ⟨g, hg, rfl⟩ := List.mem_map.mp he
    exact gateD_ok (ok g hg)
/-- the bits that gates need -/
def needG (gs : List Gt) : Nat := (gs.map topG).foldr max 0
theorem needG_max {gs : List Gt} {m : Int} (h : (gs.map fun g => ((topG g : Nat) : Int)) = [] ∧ m = 0 ∨ m ∈ (gs.map fun g => ((topG g : Nat) : Int)) ∧ ∀ y, y ∈ (gs.map fun g => ((topG g : Nat) : Int)) → y ≤ m) : m = ((needG gs : Nat) : Int) := by
  obtain ⟨f1, f2, f3⟩ := foldr_max (cs := gs.map topG) (t := 0)
  rcases h with ⟨h, rfl⟩ | ⟨h, hle⟩
  · rw [List.map_eq_nil_iff.mp h]; rfl
  · obtain ⟨g, hg, rfl⟩ := List.mem_map.mp h
    have k1 := f2 _ (List.mem_map.mpr ⟨g, hg, rfl⟩)
    have k2 : ((needG gs : Nat) : Int) ≤ ((topG g : Nat) : Int) := by
      rcases f3 with f3 | f3
      · unfold needG; rw [f3]; omega
      · obtain ⟨g2, hg2, e2⟩ := List.mem_map.mp f3
        have := hle _ (List.mem_map.mpr ⟨g2, hg2, rfl⟩)
        unfold needG
        rw [← e2]
        exact this
    have k3 : topG g ≤ needG gs := k1
    omega
theorem needG_le {gs : List Gt} {n : Nat} (h : ∀ g, g ∈ gs → GtOk n g) : needG gs ≤ n := by
  rcases (foldr_max (cs := gs.map topG) (t := 0)).2.2 with e | e
  · unfold needG; rw [e]; exact Nat.zero_le _
  · obtain ⟨g, hg, e2⟩ := List.mem_map.mp e
    unfold needG
    rw [← e2]
    exact topG_le (h g hg)
theorem needG_ge {gs : List Gt} {g : Gt} (h : g ∈ gs) : topG g ≤ needG gs := (foldr_max (cs := gs.map topG) (t := 0)).2.1 _ (List.mem_map.mpr ⟨g, h, rfl⟩)
theorem GtOk.top {n m : Nat} {g : Gt} (ok : GtOk n g) (h : topG g ≤ m) : GtOk m g := by
  obtain ⟨f1, f2, _⟩ := foldr_max (cs := g.2) (t := g.1)
  have h : g.2.foldr max g.1 + 1 ≤ m := h
  exact ⟨by omega, fun c hc => by have := f2 c hc; omega, ok.ne, ok.up⟩
theorem gtD_inj : Function.Injective gtD := fun a b hab => by
  obtain ⟨t, cs⟩ := a
  obtain ⟨u, ds⟩ := b
  have h := PyData.tuple.inj hab
  obtain ⟨h1, h2⟩ := List.cons.inj h
  have h2 := PyData.tuple.inj (List.cons.inj h2).1
  have h1 : (t : Int) = (u : Int) := PyData.int.inj h1
  have h2 : cs = ds := (List.map_inj_right (fun _ _ z => Int.ofNat.inj (PyData.int.inj z))).mp h2
  rw [h2, Int.ofNat.inj h1]
theorem gts_inj {a b : List Gt} (h : a.map gtD = b.map gtD) : a = b := (List.map_inj_right gtD_inj).mp h
theorem gtD_at {d : Addr} {H : Hp} {v : V} {g : Gt} (h : DAt d H v (gtD g)) : ∃ a, v = .ref a ∧ GtAt H a g := by
  unfold gtD at h
  cases h with
  | tup h hs =>
    rename_i a xs
    cases hs with
    | cons h1 hs =>
      cases hs with
      | cons h2 hs =>
        cases hs
        cases h1
        cases h2 with
        | tup h2 hs2 =>
          rename_i c ys
          have : ∀ {cs : List Nat} {ys : List V}, DAts d H ys (cs.map fun (c : Nat) => PyData.int (c : Int)) → ys = cInts cs := by
            intro cs
            induction cs with
            | nil => intro ys h; cases h; rfl
            | cons c cs ih =>
              intro ys h
              cases h with
              | cons h hs => cases h; rw [ih hs]; rfl
          exact ⟨a, rfl, c, h, by rw [h2, this hs2]⟩
theorem DAts.gts {d : Addr} {H : Hp} {xs : List V} {gs : List Gt} (h : DAts d H xs (gs.map gtD)) : ∃ as : List Addr, xs = as.map V.ref ∧ GtsAt H as gs := by
  induction gs generalizing xs with
  | nil => cases h; exact ⟨[], rfl, rfl, fun i x b h _ => by simp at h⟩
  | cons g gs ih =>
    cases h with
    | cons h hs =>
      obtain ⟨a, rfl, ha⟩ := gtD_at h
      obtain ⟨as, rfl, hl, hat⟩ := ih hs
      refine ⟨a :: as, rfl, congrArg (· + 1) hl, fun i x b h1 h2 => ?_⟩
      cases i with
      | zero => cases h1; cases h2; exact ha
      | succ i => exact hat i x b (by simpa using h1) (by simpa using h2)
theorem GtsAt.dats {d : Addr} {H : Hp} {as : List Addr} {gs : List Gt} (h : GtsAt H as gs) : DAts d H (as.map V.ref) (gs.map gtD) := by
  refine DAts.of (by rw [List.length_map, List.length_map, h.1]) fun i x e h1 h2 => ?_
  obtain ⟨b, hb, rfl⟩ := map_getR h1
  obtain ⟨g, hg, hat⟩ := h.get hb
  rw [List.getElem?_map, hg] at h2
  cases h2
  exact hat.dat
/-- what is no list of rising bits -/
theorem risF_bad : ∀ {es : List PyData} {l : Int} {e : PyData}, e ∈ es → isBD 120 e = false → risF l es = false
  | [], _, _, h, _ => by simp at h
  | .int i :: es, l, e, h, hb => by
    show ((decide (0 ≤ i) && decide (i < 120)) && (decide (l < i) && risF i es)) = false
    rcases List.mem_cons.mp h with rfl | h
    · rw [show (decide (0 ≤ i) && decide (i < 120)) = false from hb]; rfl
    · rw [risF_bad h hb, Bool.and_false, Bool.and_false]
  | .none :: _, _, _, _, _ => rfl
  | .bool _ :: _, _, _, _, _ => rfl
  | .str _ :: _, _, _, _, _ => rfl
  | .list _ :: _, _, _, _, _ => rfl
  | .tuple _ :: _, _, _, _, _ => rfl
  | .dict _ :: _, _, _, _, _ => rfl
theorem risF_two : ∀ {xs ys : List PyData} {l a b : Int}, b ≤ a → risF l (xs ++ .int a :: .int b :: ys) = false
  | [], ys, l, a, b, h => by
    show ((decide (0 ≤ a) && decide (a < 120)) && (decide (l < a) && ((decide (0 ≤ b) && decide (b < 120)) && (decide (a < b) && risF b ys)))) = false
    rw [decide_eq_false (show ¬ a < b by omega), Bool.false_and, Bool.and_false, Bool.and_false, Bool.and_false]
  | .int i :: xs, ys, l, a, b, h => by
    show ((decide (0 ≤ i) && decide (i < 120)) && (decide (l < i) && risF i (xs ++ .int a :: .int b :: ys))) = false
    rw [risF_two h, Bool.and_false, Bool.and_false]
  | .none :: _, _, _, _, _, _ => rfl
  | .bool _ :: _, _, _, _, _, _ => rfl
  | .str _ :: _, _, _, _, _, _ => rfl
  | .list _ :: _, _, _, _, _, _ => rfl
  | .tuple _ :: _, _, _, _, _, _ => rfl
  | .dict _ :: _, _, _, _, _, _ => rfl
theorem gateD_ris {t : PyData} {es : List PyData} (h : risF (-1) es = false) : gateD (.tuple [t, .tuple es]) = false := by
  show (isBD 120 t && (risF (-1) es && _)) = false
  rw [h, Bool.false_and, Bool.and_false]
theorem gateD_tgt {t c : PyData} (h : isBD 120 t = false) : gateD (.tuple [t, c]) = false := by
  cases c with
  | tuple es =>
    show (isBD 120 t && _) = false
    rw [h, Bool.false_and]
  | _ => rfl
theorem gateD_has {t : Int} {es : List PyData} (h : PyData.int t ∈ es) : gateD (.tuple [.int t, .tuple es]) = false := by
  show (isBD 120 (.int t) && (risF (-1) es && !hasD (.int t) es)) = false
  have : hasD (.int t) es = true := by
    unfold hasD
    rw [List.any_eq_true]
    exact ⟨_, h, decide_eq_true rfl⟩
  rw [this, Bool.not_true, Bool.and_false, Bool.and_false]
theorem mem_setI {α : Type} {xs : List α} {i : Nat} {e : α} (h : i < xs.length) : e ∈ xs.set i e := List.mem_of_getElem? (List.getElem?_set_self h)
theorem gatesD_set {gs : List Gt} {i : Nat} {e : PyData} (hi : i < gs.length) (h : gateD e = false) : gatesD (.list ((gs.map gtD).set i e)) = false := by
  show (decide _ && ((gs.map gtD).set i e).all gateD) = false
  have : ((gs.map gtD).set i e).all gateD = false := List.all_eq_false.mpr ⟨e, mem_setI (by rw [List.length_map]; exact hi), by rw [h]; decide⟩
  rw [this, Bool.and_false]
theorem bitsD_set {bs : List Bool} {i : Nat} {e : PyData} {n : Int} (hi : i < bs.length) (h : isBlD e = false) : bitsD n (.list ((bs.map PyData.bool).set i e)) = false := by
  show (decide _ && ((bs.map PyData.bool).set i e).all isBlD) = false
  have : ((bs.map PyData.bool).set i e).all isBlD = false := List.all_eq_false.mpr ⟨e, mem_setI (by rw [List.length_map]; exact hi), by rw [h]; decide⟩
  rw [this, Bool.and_false]
theorem bitsD_short {bs : List Bool} {n : Int} (h : (bs.length : Int) < n) : bitsD n (blsD bs) = false := by
  show (decide (n ≤ ((bs.map PyData.bool).length : Int)) && _) = false
  rw [List.length_map, decide_eq_false (by omega), Bool.false_and]
end Br

/-! ### gates that are spread -/
namespace Br
open PySem PySem.Spec PyProof.Rows L2
theorem atI_back {α : Type} {xs : List α} {j : Nat} {v : α} (hj : j < xs.length) (h : xs[xs.length - 1 - j]? = some v) : atI xs (-1 - (j : Int)) = some v := by
  unfold atI ixN
  rw [if_neg (by omega), if_pos (by omega)]
  show xs[(-1 - (j : Int) + (xs.length : Int)).toNat]? = some v
  rw [show (-1 - (j : Int) + (xs.length : Int)).toNat = xs.length - 1 - j by omega]
  exact h
theorem atI_m1 {α : Type} {xs : List α} {v : α} (hj : 0 < xs.length) (h : xs[xs.length - 1]? = some v) : atI xs (-1) = some v := atI_back (j := 0) hj h
def two (t a b : Nat) : Gt := (t, if a < b then [a, b] else [b, a])
/-- what the borrowed bits must be -/
def borD (ns : List Int) (n : Int) : PyData → Bool
  | .list es => decide ((es.length : Int) = n) && (es.all (isBD 120) && decide ((ns ++ es.map intD).Nodup))
  | _ => false
def natsD (cs : List Nat) : List PyData := cs.map fun (c : Nat) => PyData.int (c : Int)
theorem natsD_of : ∀ {es : List PyData}, es.all (isBD 120) = true → ∃ bs : List Nat, es = natsD bs ∧ ∀ b, b ∈ bs → b < 120
  | [], _ => ⟨[], rfl, fun b h => by simp at h⟩
  | e :: es, h => by
    rw [List.all_cons, Bool.and_eq_true] at h
    obtain ⟨i, rfl, i0, i1⟩ := isBD_iff.mp h.1
    obtain ⟨bs, rfl, hb⟩ := natsD_of h.2
    obtain ⟨b, rfl⟩ : ∃ b : Nat, i = (b : Int) := ⟨i.toNat, by omega⟩
    refine ⟨b :: bs, rfl, fun x hx => ?_⟩
    rcases List.mem_cons.mp hx with rfl | hx
    · omega
    · exact hb x hx
theorem natsD_int {bs : List Nat} : (natsD bs).map intD = bs.map fun (c : Nat) => (c : Int) := by unfold natsD; rw [List.map_map]; rfl
theorem natsD_all {bs : List Nat} (h : ∀ b, b ∈ bs → b < 120) : (natsD bs).all (isBD 120) = true := by
  rw [List.all_eq_true]
  intro e he
  obtain ⟨b, hb, rfl⟩ := List.mem_map.mp he
  have := h b hb
  exact isBD_iff.mpr ⟨_, rfl, by omega, by omega⟩
theorem nodup_nat {ns : List Nat} : (ns.map fun (c : Nat) => (c : Int)).Nodup ↔ ns.Nodup := by
  constructor
  · intro h
    exact (List.pairwise_map.mp h).imp fun h e => h (by rw [e])
  · intro h
    exact List.pairwise_map.mpr (h.imp fun h e => h (by omega))
theorem borD_iff {t n : Nat} {cs : List Nat} {e : PyData} : borD ((t : Int) :: cs.map fun (c : Nat) => (c : Int)) (n : Int) e = true ↔ ∃ bs : List Nat, e = .list (natsD bs) ∧ bs.length = n ∧ (∀ b, b ∈ bs → b < 120) ∧ (t :: cs ++ bs).Nodup := by
  constructor
  · intro h
    cases e with
    | list es =>
      have h : (decide ((es.length : Int) = n) && (es.all (isBD 120) && decide ((((t : Int) :: cs.map fun (c : Nat) => (c : Int)) ++ es.map intD).Nodup))) = true := h
      rw [Bool.and_eq_true, Bool.and_eq_true, decide_eq_true_iff, decide_eq_true_iff] at h
      obtain ⟨h1, h2, h3⟩ := h
      obtain ⟨bs, rfl, hb⟩ := natsD_of h2
      rw [natsD_int] at h3
      refine ⟨bs, rfl, by unfold natsD at h1; rw [List.length_map] at h1; omega, hb, nodup_nat.mp ?_⟩
      rw [List.map_append]
      exact h3
    | _ => cases h
  · rintro ⟨bs, rfl, hl, hb, hn⟩
    show (decide (((natsD bs).length : Int) = n) && ((natsD bs).all (isBD 120) && decide ((((t : Int) :: cs.map fun (c : Nat) => (c : Int)) ++ (natsD bs).map intD).Nodup))) = true
    rw [natsD_all hb, natsD_int, Bool.true_and]
    have h1 : (natsD bs).length = n := by unfold natsD; rw [List.length_map]; exact hl
    have h2 := nodup_nat.mpr hn
    rw [List.map_append] at h2
    have h2 : (((t : Int) :: cs.map fun (c : Nat) => (c : Int)) ++ bs.map fun (c : Nat) => (c : Int)).Nodup := h2
    rw [decide_eq_true (by omega), decide_eq_true h2]
    rfl
def turnF (t : Nat) (bs : List Nat) : List Nat := t :: bs.reverse
def downF (t : Nat) (cs bs : List Nat) : List Gt := (List.range bs.length).map fun j => two ((turnF t bs).getD j 0) ((turnF t bs).getD (j + 1) 0) (cs.getD (cs.length - 1 - j) 0)
def lastF (t : Nat) (cs bs : List Nat) : Gt := ((turnF t bs).getD bs.length 0, cs.take 2)
def spreadF (t : Nat) (cs bs : List Nat) : List Gt := if bs = [] then [(t, cs)] else downF t cs bs ++ [lastF t cs bs] ++ (downF t cs bs).reverse ++ (downF t cs bs).drop 1 ++ [lastF t cs bs] ++ ((downF t cs bs).drop 1).reverse
theorem turn_len {t : Nat} {bs : List Nat} : (turnF t bs).length = bs.length + 1 := by unfold turnF; rw [List.length_cons, List.length_reverse]
theorem down_len {t : Nat} {cs bs : List Nat} : (downF t cs bs).length = bs.length := by unfold downF; rw [List.length_map, List.length_range]
theorem down_get {t k : Nat} {cs bs : List Nat} (h : k < bs.length) : (downF t cs bs)[k]? = some (two ((turnF t bs).getD k 0) ((turnF t bs).getD (k + 1) 0) (cs.getD (cs.length - 1 - k) 0)) := by
  unfold downF
  rw [List.getElem?_map, List.getElem?_range h]
  rfl
theorem cInts_at2 {cs : List Nat} {i : Nat} (h : i < cs.length) : (cInts cs)[i]? = some (.int ((cs.getD i 0 : Nat) : Int)) := by
  unfold cInts
  rw [List.getElem?_map, List.getElem?_eq_getElem h, List.getD_eq_getElem?_getD, List.getElem?_eq_getElem h]
  rfl
theorem cInts_rev {cs : List Nat} : (cInts cs).reverse = cInts cs.reverse := by unfold cInts; rw [List.map_reverse]
theorem cInts_app {cs ds : List Nat} : cInts cs ++ cInts ds = cInts (cs ++ ds) := by unfold cInts; rw [List.map_append]
theorem cInts_take {cs : List Nat} {n : Nat} : (cInts cs).take n = cInts (cs.take n) := by unfold cInts; rw [List.map_take]
theorem GtsAt.rev {H : Hp} {as : List Addr} {gs : List Gt} (h : GtsAt H as gs) : GtsAt H as.reverse gs.reverse := by
  refine ⟨by rw [List.length_reverse, List.length_reverse, h.1], fun i x b e1 e2 => ?_⟩
  have h1 := (List.getElem?_eq_some_iff.mp e1).1
  have h2 := (List.getElem?_eq_some_iff.mp e2).1
  rw [List.length_reverse] at h1 h2
  rw [List.getElem?_reverse h1] at e1
  rw [List.getElem?_reverse h2, h.1] at e2
  exact h.2 _ x b e1 e2
theorem GtsAt.app {H : Hp} {as bs : List Addr} {gs hs : List Gt} (h : GtsAt H as gs) (h2 : GtsAt H bs hs) : GtsAt H (as ++ bs) (gs ++ hs) := by
  refine ⟨by rw [List.length_append, List.length_append, h.1, h2.1], fun i x b e1 e2 => ?_⟩
  by_cases hi : i < gs.length
  · rw [List.getElem?_append_left hi] at e1
    rw [List.getElem?_append_left (by rw [h.1]; exact hi)] at e2
    exact h.2 i x b e1 e2
  · rw [List.getElem?_append_right (by omega)] at e1
    rw [List.getElem?_append_right (by rw [h.1]; omega), h.1] at e2
    exact h2.2 _ x b e1 e2
theorem GtsAt.drop {H : Hp} {as : List Addr} {gs : List Gt} (h : GtsAt H as gs) {n : Nat} : GtsAt H (as.drop n) (gs.drop n) :=
  ⟨by rw [List.length_drop, List.length_drop, h.1], fun i x b e1 e2 => h.2 (n + i) x b (by rw [← List.getElem?_drop]; exact e1) (by rw [← List.getElem?_drop]; exact e2)⟩
theorem GtsAt.one {H : Hp} {a : Addr} {g : Gt} (h : GtAt H a g) : GtsAt H [a] [g] := ⟨rfl, fun i x b e1 e2 => by
  cases i with
  | zero => cases e1; cases e2; exact h
  | succ i => simp at e1⟩
end Br

/-! ### len(set(xs)), any ints -/
namespace Br
open PySem PySem.Spec PyProof.Rows L2
theorem nodup_le : ∀ {ks ns : List Int}, ks.Nodup → (∀ k, k ∈ ks → k ∈ ns) → ks.length ≤ ns.length
  | [], _, _, _ => Nat.zero_le _
  | k :: ks, ns, hn, hs => by
    rw [List.nodup_cons] at hn
    have hk := hs k List.mem_cons_self
    have h := nodup_le (ns := ns.erase k) hn.2 fun x hx => by
      have hx2 := hs x (List.mem_cons_of_mem _ hx)
      exact (List.mem_erase_of_ne (fun e => hn.1 (by rw [← e]; exact hx))).mpr hx2
    rw [List.length_erase_of_mem hk] at h
    have := List.length_pos_of_mem hk
    rw [List.length_cons]
    omega
theorem dup_at : ∀ {ns : List Int}, ¬ ns.Nodup → ∃ x, x ∈ ns ∧ x ∈ ns.erase x
  | [], h => absurd List.nodup_nil h
  | x :: r, h => by
    by_cases hx : x ∈ r
    · exact ⟨x, List.mem_cons_self, by rw [List.erase_cons_head]; exact hx⟩
    · have hr : ¬ r.Nodup := fun hr => h (List.nodup_cons.mpr ⟨hx, hr⟩)
      obtain ⟨y, h1, h2⟩ := dup_at hr
      have hne : x ≠ y := fun e => hx (by rw [e]; exact h1)
      refine ⟨y, List.mem_cons_of_mem _ h1, ?_⟩
      rw [List.erase_cons_tail (by simpa using hne)]
      exact List.mem_cons_of_mem _ h2
theorem card_iff {ks ns : List Int} (hn : ks.Nodup) (h : ∀ k, k ∈ ks ↔ k ∈ ns) : (ks.length = ns.length ↔ ns.Nodup) ∧ ks.length ≤ ns.length := by
  have hle := nodup_le hn fun k hk => (h k).mp hk
  refine ⟨⟨fun e => ?_, fun hs => ?_⟩, hle⟩
  · by_cases hd : ns.Nodup
    · exact hd
    · exfalso
      obtain ⟨x, h1, h2⟩ := dup_at hd
      have := nodup_le (ns := ns.erase x) hn fun k hk => by
        by_cases e : k = x
        · rw [e]; exact h2
        · exact (List.mem_erase_of_ne e).mpr ((h k).mp hk)
      rw [List.length_erase_of_mem h1] at this
      have := List.length_pos_of_mem h1
      omega
  · have := nodup_le hs fun k hk => (h k).mpr hk
    omega
theorem step_nodup {ks : List Int} {k : Int} (h : ks.Nodup) : (step_dedup ks k).Nodup ∧ ∀ x, x ∈ step_dedup ks k ↔ x ∈ ks ∨ x = k := by
  unfold step_dedup
  split
  · rename_i hb
    obtain ⟨y, hy, e⟩ := List.any_eq_true.mp hb
    have : y = k := by simpa using e
    subst this
    refine ⟨h, fun x => ⟨.inl, fun z => z.elim id fun e => by rw [e]; exact hy⟩⟩
  · rename_i hb
    have hk : k ∉ ks := fun hk => hb (List.any_eq_true.mpr ⟨k, hk, by simp⟩)
    refine ⟨List.nodup_append.mpr ⟨h, by simp, fun a ha b hb e => hk (by rw [← List.mem_singleton.mp hb, ← e]; exact ha)⟩, fun x => by simp⟩
theorem firstMet_spec {ns : List Int} : ∀ i, i ≤ ns.length → (firstMet (fun i => ns.getD i 0) i).Nodup ∧ ∀ x, x ∈ firstMet (fun i => ns.getD i 0) i ↔ x ∈ ns.take i
  | 0, _ => ⟨List.nodup_nil, fun x => by show x ∈ [] ↔ x ∈ ns.take 0; simp⟩
  | i + 1, hi => by
    obtain ⟨h1, h2⟩ := firstMet_spec (ns := ns) i (Nat.le_of_lt hi)
    obtain ⟨k1, k2⟩ := step_nodup (k := ns.getD i 0) h1
    rw [firstMet_succ]
    refine ⟨k1, fun x => ?_⟩
    have e : ns.getD i 0 = ns[i] := by rw [List.getD_eq_getElem?_getD, List.getElem?_eq_getElem hi]; rfl
    have e2 : ns.take (i + 1) = ns.take i ++ [ns[i]] := by rw [List.take_add_one, List.getElem?_eq_getElem hi]; rfl
    rw [k2, h2, e, e2, List.mem_append, List.mem_singleton]
def tLenSet (K : PySem.W.Frag) (ta : TE) : TE := fun σ H Q => ta σ H fun x H1 => ∃ (l : Addr) (ns : List Int), x = V.ref l ∧ (SqL K H1 l (ns.map V.int) ∨ SqT K H1 l (ns.map V.int)) ∧ ns.length ≤ 4000 ∧ ∀ c : Nat, (c = ns.length ↔ ns.Nodup) → c ≤ ns.length → Q (.int (c : Nat)) H1
theorem pe_lenSetA {X : Cx} {a : Expr} {ta : TE} {p p2 q pos : Pos} (hg : Gl X "len") (hm : X.mg "len" = none) (hg2 : Gl X "set") (hm2 : X.mg "set" = none) (ha : PE X a ta) (hc : X.calm = true := by rfl)
    (na : starEach [a] X.env = (false, eval a X.env) :: starEach [] X.env := by rfl) : PE X (.Call (.Name "len" p) [.Call (.Name "set" p2) [a] [] q] [] pos) (tLenSet X.K ta) := by
  refine ⟨fun pins s σ H Q I h => ?_⟩
  refine Call_ (ld_blt I hg hm PySem.boot_len ?_)
  refine PyProof.Rows.callWith_builtin1 (PyProof.Rows.args_cons ?_ rfl) rfl rfl
  refine Call_ (ld_blt I hg2 hm2 PyProof.Rows.boot_set ?_)
  refine PyProof.Rows.callWith_type1 (PyProof.Rows.args_cons (thn (ha.run pins s σ H _ I h) fun v s1 ⟨x, H1, I1, r1, q1⟩ => PyProof.Rows.args_nil ?_) na) na rfl
  obtain ⟨l, ns, rfl, hq, hl, q1⟩ := q1
  cases r1
  rcases hq with hq | hq
  · obtain ⟨its, r, pl, hz⟩ := I1.list hq
    have hlen : its.toArray.size = ns.length := by rw [List.size_toArray, ← r.length, List.length_map]
    refine call_set_list (I1.ok.hd hc) pl.isList (ns := ns) (by simpa using r.ints) (by rw [hlen]; unfold scanBound; omega) fun h' tk hS hk => ?_
    rw [hlen] at hS
    obtain ⟨f1, f2⟩ := firstMet_spec (ns := ns) ns.length (Nat.le_refl _)
    rw [List.take_length] at f2
    obtain ⟨c1, c2⟩ := card_iff f1 f2
    refine PyProof.Rows.args_nil ?_
    obtain ⟨o, es, ep, t, ho, hex, hd, _, _, _, hf, hn⟩ := hS
    have I2 : Inv X pins σ H1 { s1 with heap := h', toks := tk } := I1.kept fun b o e => hk b o (Heap.lt_size e) e
    refine call_len_set ho hex hd hf (by rw [hn]; omega) ⟨.int ((es.size : Nat) : Int), H1, I2.tok _, ⟨_, rfl⟩, by rw [hn]; exact q1 _ c1 c2⟩
  · obtain ⟨its, r, pl, hz⟩ := I1.tuple hq
    refine call_set_tupI ns (I1.ok.hd hc) pl (by simpa using r.ints) (by unfold scanBound; omega) fun h' tk c hS _ hk => ?_
    refine PyProof.Rows.args_nil ?_
    obtain ⟨o, es, ep, t, ho, hex, hd, _, hnd, hS, _, hf, hn, _⟩ := hS
    obtain ⟨c1, c2⟩ := card_iff (ns := ns) hnd fun k => by rw [← hS k]; simp
    have hsz : (es.toList.map keyOf).length = c := by rw [List.length_map, Array.length_toList, hn]
    rw [hsz] at c1 c2
    have I2 : Inv X pins σ H1 { s1 with heap := h', toks := tk } := I1.kept hk
    refine call_len_set ho hex hd hf (by rw [hn]; omega) ⟨.int ((es.size : Nat) : Int), H1, I2.tok _, ⟨_, rfl⟩, by rw [hn]; exact q1 c c1 c2⟩
end Br

/-! ### a def that takes the rest of its arguments; cases of other forms; data in a match -/
namespace Br
open PySem PySem.Spec PyProof.Rows L2
def StarB (fd : FuncData) (ps : List Str) (pv : Str) : Prop := ∀ us rest : List Value, us.length = ps.length → bindArgs fd ⟨us ++ rest, []⟩ = (newTuple rest >>= fun t => pure (ps.zip us ++ [(pv, t)]))
def spStar (n : Nat) (sp : Sp) : Sp := fun vs H Q E => ∃ ws rest, vs = ws ++ rest ∧ ws.length = n ∧ rest.length ≤ sizeLine ∧ ∀ p, H p = Option.none → sp (ws ++ [V.ref p]) (L2.upd H p (.tup rest)) Q E
section
variable {P : Program} {w : World} {K : PySem.W.Frag} {mg : Str → Option Value} {base : Heap}
theorem star_ok {x qual : Str} {st : Stmt} {f : Addr} {fd : FuncData} {N ps : List Str} {pv : Str} {k : Nat} {sp : Sp} (F : Fun K x qual st f fd) (B : StarB fd ps pv) (S : FnScope N (ps ++ [pv]) (defScope st))
    (hbody : ∀ (cdv : Value) (A : Around) (outer : List Env) (s : Shared) (H : Hp) (vs : List V) (Q : VK) (E : XK), Room k (A.deeper (envOfC qual (defScope st) s.heap.objs.size f cdv)) → sp vs H Q E →
      ∃ t, PSs (cxOf CX0 P w K mg base N qual (defScope st) f cdv A outer s H E).nox (defBody st) t ∧ t { nx := fun _ H' => Q .non H', rt := Q } (start N vs) H) : FnR P w K mg base CX0 (k + 1) f (spStar ps.length sp) := by
  obtain ⟨oc, od, kV, doc, pm, an, cdv, ct, osl, rfl, lk, hcd⟩ := F.ex
  refine StX.fn_star lk hcd S StX.cxUp_none B fun A outer s H vs Q E hr hsp => ?_
  obtain ⟨t, h, q⟩ := hbody cdv A outer s H vs Q E hr hsp
  exact ⟨t, h.nox, q⟩
end
def tCallR (sp : Sp) (E : XK) (t : TA) : TE := fun σ H Q => t σ H fun vs H1 => sp vs H1 Q E
theorem x_callR {sp : Sp} {E : XK} {t : TA} {σ : L2.St} {H : Hp} {Q : VK} (h : t σ H fun vs H1 => sp vs H1 Q E) : tCallR sp E t σ H Q := h
section
variable {X : Cx}
theorem pe_callR {CX : CXT} {k : Nat} {f : Addr} {sp : Sp} {E : XK} {x : Str} {e : Expr} {es : List Expr} {t : TA} {p pos : Pos} (F : FnR X.prog X.w X.K X.mg X.base CX k f sp) (hr : Room k X.A) (hk : PySem.W.keepIn X.K (.ref f) = true) (hg : Gl X x) (hm : X.mg x = some (.ref f)) (hx : Passes CX X E)
    (ha : PA X (e :: es) t) (hdb : (x == ("__debug__" : Str)) = false := by decide) (he : starEach (e :: es) X.env = (false, eval e X.env) :: starEach es X.env := by rfl) (hpl : (backTo pos (starEach es X.env)).any (·.1) = false := by rfl) :
    PE X (.Call (.Name x p) (e :: es) [] pos) (tCallR sp E t) := by
  refine ⟨fun pins s σ H Q I h => ?_⟩
  refine wpAny_Call_Name_kw (ld_glob I hg hm ?_ hdb)
  refine PySem.W.callWith_K (h₀ := X.base) I.ok.mod.kin hk (thn (ha.run pos pins s σ H _ I h) fun us s1 ⟨vs, H1, I1, r, q⟩ => ⟨I1.kIn, ?_⟩) he hpl
  exact wpAny_call (run_fnR F hr hx I1 r q)
/-- a tuple of n parts, whatever they are -/
def tSeqA (K : PySem.W.Frag) (n : Nat) (is : List (Option Nat)) (body : TS) (rest : V → TS) : V → TS := fun v D σ H => ∃ (a : Addr) (xs : List V), v = .ref a ∧ SqT K H a xs ∧
  ((xs.length ≠ n ∧ rest v D σ H) ∨ (xs.length = n ∧ body D (bindS is xs σ) H))
theorem pcs_tup {n : Nat} {p3 : Pos} {ps : List Pattern} {is : List (Option Nat)} {body : List Stmt} {rest : List MatchCase} {tb : TS} {tr : V → TS} (hc : X.calm = true) (hp : PCap X ps is) (hb : PSs X body tb) (hr : PCs X rest tr) (hn : ps.length = n := by rfl)
    (hs : ps.findIdx? (·.isStar) = none := by rfl) (hw : (ps.all fun p => p.isWildcard || (p.isStar && p.names.isEmpty)) = false := by rfl) :
    PCs X (⟨.MatchSequence ps p3, none, body⟩ :: rest) (tSeqA X.K n is tb tr) := by
  refine ⟨fun first pins s σ H D v u I rv h => ?_⟩
  obtain ⟨a, xs, rfl, hx, h⟩ := h
  cases (show u = Value.ref a from rv)
  obtain ⟨its, ri, ht, hz⟩ := I.tuple hx
  have hl := ri.length
  have hfit : ((its.toArray.size : Nat) : Int) < 2 ^ 63 := by
    have h1 : its.length ≤ sizeLine := by rw [← hl]; exact hz
    have h2 : sizeLine < 2 ^ 63 := by decide
    have h3 : its.toArray.size < 2 ^ 63 := Nat.lt_of_le_of_lt (by simpa using h1) h2
    omega
  rcases h with ⟨hne, q⟩ | ⟨hxl, q⟩
  · refine wpAny_matchCases_cons (matchSeq_tuple_miss ht hfit (by simp; omega) ?_ hs hw)
    exact hr.run false pins _ σ H D (.ref a) _ (I.tok _) rfl q
  · have sz : its.toArray.size = ps.length := by simp at hxl ⊢; omega
    refine wpAny_matchCases_cons (matchSeq_tuple_hit ht hfit (by simpa using sz) ?_ hs hw)
    rw [show ps.length = its.toArray.size from sz.symm]
    refine unpackItems_tuple (I.ok.hd hc) ht fun h' hk => ?_
    have I2 : Inv X pins σ H { s with heap := h', toks := s.toks + 1 + 1 } := I.kept fun b o e => hk b o (Nat.ne_of_lt (Heap.lt_size e)) e
    refine each_caps hp.caps (by simpa using sz) ?_
    refine thn (hp.run pins _ σ H xs its I2 ri (by simpa using sz)) fun _ s4 I4 => ?_
    exact hb.run pins s4 _ H D I4 q
/-- any value, by a name -/
def tNameC (i : Nat) (body : TS) : V → TS := fun v D σ H => body D (σ.set i (some v)) H
theorem pcs_name {i : Nat} {x : Str} {pos : Pos} {body : List Stmt} {rest : List MatchCase} {t : TS} (hN : X.N.Nodup) (hi : X.N[i]? = some x) (hx : Loc X.env.scope x) (hb : PSs X body t) (hf : X.fn x = true ∨ X.env.scope.names.lookup x = some .local := by first | exact .inl rfl | exact .inr rfl) :
    PCs X (⟨.MatchAs none (some x) pos, none, body⟩ :: rest) (tNameC i t) :=
  ⟨fun _ pins s σ H D v u I r h => wpAny_matchCases_cons (wpAny_matchPattern_Capture (wpAny_assignInOrder_more (wpAny_bindName (store_ok I hN hi hx r (fun s' I' => wpAny_assignInOrder_none (hb.run pins s' _ H D I' h)) hf))))⟩
end
section
variable {σ : L2.St} {H : Hp} {D : Ends} {K : PySem.W.Frag} {v : V} {t : V → TS}
theorem x_caseA {n : Nat} {is : List (Option Nat)} {body : TS} {a : Addr} {xs : List V} (ha : SqT K H a xs) (hl : xs.length = n) (h : body D (bindS is xs σ) H) : tSeqA K n is body t (.ref a) D σ H := ⟨a, xs, rfl, ha, .inr ⟨hl, h⟩⟩
theorem x_caseAN {n : Nat} {is : List (Option Nat)} {body : TS} {a : Addr} {xs : List V} (ha : SqT K H a xs) (hl : xs.length ≠ n) (h : t (.ref a) D σ H) : tSeqA K n is body t (.ref a) D σ H := ⟨a, xs, rfl, ha, .inl ⟨hl, h⟩⟩
theorem x_nameC {i : Nat} {body : TS} (h : body D (σ.set i (some v)) H) : tNameC i body v D σ H := h
end
/-! data that may be compared -/
def Sh (e : PyData) : Prop := e.canLay0 = true ∧ e.depth ≤ 60
theorem Sh.shaped {e : PyData} (h : Sh e) : SeqAt.shaped e = true := by
  unfold SeqAt.shaped
  rw [h.1, Bool.true_and]
  exact decide_eq_true (by have := h.2; omega)
theorem canLayAll_mem : ∀ {es : List PyData}, PyData.canLayAll0 es = true ↔ ∀ e, e ∈ es → e.canLay0 = true
  | [] => ⟨fun _ e h => by simp at h, fun _ => rfl⟩
  | x :: es => by
    show (PyData.canLay0 x && PyData.canLayAll0 es) = true ↔ _
    rw [Bool.and_eq_true, canLayAll_mem (es := es)]
    exact ⟨fun h e he => (List.mem_cons.mp he).elim (fun e1 => by rw [e1]; exact h.1) (h.2 e), fun h => ⟨h x List.mem_cons_self, fun e he => h e (List.mem_cons_of_mem _ he)⟩⟩
theorem depthAll_mem : ∀ {es : List PyData} {n : Nat}, PyData.depthAll es ≤ n ↔ ∀ e, e ∈ es → e.depth ≤ n
  | [], n => ⟨fun _ e h => by simp at h, fun _ => by show PyData.depthAll [] ≤ n; rw [PyData.depthAll]; exact Nat.zero_le _⟩
  | x :: es, n => by
    have e : PyData.depthAll (x :: es) = max x.depth (PyData.depthAll es) := by rw [PyData.depthAll]
    rw [e, Nat.max_le, depthAll_mem (es := es)]
    exact ⟨fun h y hy => (List.mem_cons.mp hy).elim (fun e1 => by rw [e1]; exact h.1) (h.2 y), fun h => ⟨h x List.mem_cons_self, fun y hy => h y (List.mem_cons_of_mem _ hy)⟩⟩
/-- so deep at most -/
def ShN (n : Nat) (e : PyData) : Prop := e.canLay0 = true ∧ e.depth ≤ n
theorem ShN.sh {n : Nat} {e : PyData} (h : ShN n e) (hn : n ≤ 60) : Sh e := ⟨h.1, Nat.le_trans h.2 hn⟩
theorem ShN.mono {n m : Nat} {e : PyData} (h : ShN n e) (hn : n ≤ m) : ShN m e := ⟨h.1, Nat.le_trans h.2 hn⟩
theorem ShN.tup {n : Nat} {es : List PyData} (h : ∀ e, e ∈ es → ShN n e) : ShN (n + 1) (.tuple es) := by
  constructor
  · show PyData.canLayAll0 es = true
    exact canLayAll_mem.mpr fun e he => (h e he).1
  · rw [PyData.depth]
    have := depthAll_mem.mpr fun e he => (h e he).2
    omega
theorem ShN.lst {n : Nat} {es : List PyData} (h : ∀ e, e ∈ es → ShN n e) : ShN (n + 1) (.list es) := by
  constructor
  · show PyData.canLayAll0 es = true
    exact canLayAll_mem.mpr fun e he => (h e he).1
  · rw [PyData.depth]
    have := depthAll_mem.mpr fun e he => (h e he).2
    omega
theorem ShN.of_tup {n : Nat} {es : List PyData} (h : ShN (n + 1) (.tuple es)) : ∀ e, e ∈ es → ShN n e := fun e he => by
  obtain ⟨h1, h2⟩ := h
  have h1 : PyData.canLayAll0 es = true := h1
  rw [PyData.depth] at h2
  exact ⟨canLayAll_mem.mp h1 e he, depthAll_mem.mp (by omega) e he⟩
theorem Sh.of_tup {es : List PyData} (h : Sh (.tuple es)) : ∀ e, e ∈ es → Sh e := fun e he => by
  obtain ⟨h1, h2⟩ := h
  have h1 : PyData.canLayAll0 es = true := h1
  rw [PyData.depth] at h2
  exact ⟨canLayAll_mem.mp h1 e he, (depthAll_mem (n := 60)).mp (by omega) e he⟩
theorem ShN.int {n : Nat} {i : Int} : ShN n (.int i) := ⟨rfl, by rw [PyData.depth]; exact Nat.zero_le _⟩
theorem ShN.bl {n : Nat} {i : Bool} : ShN n (.bool i) := ⟨rfl, by rw [PyData.depth]; exact Nat.zero_le _⟩
theorem ShN.non {n : Nat} : ShN n .none := ⟨rfl, by rw [PyData.depth]; exact Nat.zero_le _⟩
theorem ShN.str {n : Nat} {x : Str} (h : PyData.strOk x = true) : ShN n (.str x) := ⟨h, by rw [PyData.depth]; exact Nat.zero_le _⟩
mutual
theorem DAt.dp {K : PySem.W.Frag} {d : Addr} {H : Hp} : ∀ (e : PyData) {v : V}, DAt d H v e → Dp K H v e
  | .none, _, h => by cases h; exact .non
  | .bool b, _, h => by cases h; exact .bl b
  | .int i, _, h => by cases h; exact .int i
  | .str x, _, h => by cases h; exact .str x
  | .list ds, _, h => by
    cases h with
    | lst hd h hs => exact .lst (sq_of h) (DAts.dp ds hs)
  | .tuple ds, _, h => by
    cases h with
    | tup h hs => exact .tup (st_of h) (DAts.dp ds hs)
  | .dict _, _, h => by cases h
theorem DAts.dp {K : PySem.W.Frag} {d : Addr} {H : Hp} : ∀ (es : List PyData) {vs : List V}, DAts d H vs es → DpAll K H vs es
  | [], _, h => by cases h; exact .nil
  | e :: es, _, h => by
    cases h with
    | cons h hs => exact .cons (DAt.dp e h) (DAts.dp es hs)
end
/-- does it begin with the word and have so many parts -/
def wordAt (es : List PyData) (n : Nat) (word : Str) : Bool := match es with
  | .str w :: er => decide (er.length + 1 = n) && decide (w = word)
  | _ => false
theorem eqv_str {e : PyData} {w : Str} : PyData.eqv e (.str w) = match e with | .str x => decide (x = w) | _ => false := by
  cases e with
  | str x => rw [PyData.eqv]; first | rfl | simp
  | none => rw [PyData.eqv]
  | bool b => rw [PyData.eqv]
  | int i => rw [PyData.eqv]
  | list xs => rw [PyData.eqv]
  | tuple xs => rw [PyData.eqv]
  | dict xs => rw [PyData.eqv]
theorem x_caseD {σ : L2.St} {H : Hp} {D : Ends} {K : PySem.W.Frag} {t : V → TS} {d a : Addr} {xs : List V} {es : List PyData} {n : Nat} {word : Str} {is : List (Option Nat)} {body : TS} (ha : SqT K H a xs) (hs : DAts d H xs es) (hsh : ∀ e, e ∈ es → Sh e) (hw : PyData.strOk word = true) (n0 : 0 < n)
    (h1 : ∀ (y : V) (ys : List V) (er : List PyData), xs = y :: ys → es = .str word :: er → er.length + 1 = n → DAts d H ys er → body D (bindS is ys σ) H) (h0 : wordAt es n word = false → t (.ref a) D σ H) : tSeqW K (rEqD K) n word is body t (.ref a) D σ H := by
  have hlen := hs.len
  refine ⟨a, xs, rfl, ha, ?_⟩
  by_cases hl : es.length = n
  · cases hs with
    | nil => simp at hl; omega
    | cons h hs =>
      rename_i y ys e er
      refine .inr ⟨y, ys, rfl, by rw [hlen]; exact hl, e, .str word, DAt.dp e h, .str word, (hsh e List.mem_cons_self).shaped, Sh.shaped ⟨hw, by rw [PyData.depth]; exact Nat.zero_le _⟩, _, rfl, ?_⟩
      rw [eqv_str]
      cases e with
      | str x =>
        show if decide (x = word) = true then _ else _
        by_cases hx : x = word
        · subst hx
          rw [if_pos (decide_eq_true rfl)]
          exact h1 y ys er rfl rfl hl hs
        · rw [if_neg (by rw [decide_eq_false hx]; decide)]
          refine h0 ?_
          show (decide _ && decide (x = word)) = false
          rw [decide_eq_false hx, Bool.and_false]
      | none => exact iteF (h0 rfl)
      | bool b => exact iteF (h0 rfl)
      | int i => exact iteF (h0 rfl)
      | list xs => exact iteF (h0 rfl)
      | tuple xs => exact iteF (h0 rfl)
      | dict xs => exact iteF (h0 rfl)
  · refine .inl ⟨by rw [hlen]; exact hl, h0 ?_⟩
    cases es with
    | nil => rfl
    | cons e er =>
      cases e with
      | str x =>
        show (decide (er.length + 1 = n) && _) = false
        rw [decide_eq_false (show ¬ er.length + 1 = n from hl), Bool.false_and]
      | _ => rfl
theorem v_str {a b : Str} : decide (V.str a = V.str b) = decide (a = b) := decide_eq_decide.mpr ⟨fun h => V.str.inj h, fun h => h ▸ rfl⟩
theorem x_EqS {i j : Str} {H : Hp} {Q : VK} (q : Q (.bl (decide (i = j))) H) : rEq (.str i) (.str j) H Q := ⟨rfl, v_str ▸ q⟩
theorem x_NeS {i j : Str} {H : Hp} {Q : VK} (q : Q (.bl (!decide (i = j))) H) : rNe (.str i) (.str j) H Q := ⟨rfl, by rw [v_str]; exact q⟩
end Br

/-! ### enumerate of a tuple -/
namespace Br
open PySem PySem.Spec PyProof.Rows L2
def IteT (K : PySem.W.Frag) (a : Addr) : It :=
  ⟨fun i H => ∃ (xs : List V) (x : V), SqT K H a xs ∧ xs[i]? = some x, fun i H v H' => ∃ T x, v = .ref T ∧ H T = none ∧ H' = upd H T (.tup [.int (i : Nat), x]) ∧ ∀ xs, SqT K H a xs → xs[i]? = some x, fun i H => ∃ xs : List V, SqT K H a xs ∧ xs.length = i⟩
theorem turn_enumT {P : Program} {w : World} {K : PySem.W.Frag} {elts : List Expr} {kk : Nat} {tpos : Pos} (a e it : Addr) :
    Turn P w K (.Tuple elts kk tpos) (IteT K a) [e, it] e (fun i h => (∃ old, IsEnum h e it ((i : Nat) : Int) old) ∧ h.IsTupleIter it a i ∧ e ≠ it ∧ e ≠ a) where
  mem := by simp
  obj := fun i h st b hb => by
    obtain ⟨⟨old, he⟩, ⟨o, ho, hc, hd⟩, _⟩ := st
    have e' : b = e ∨ b = it := by simpa using hb
    rcases e' with z | z
    · rw [z]; exact ⟨_, he, fun v q => nomatch q⟩
    · rw [z]; exact ⟨o, ho, fun v q => by rw [hd] at q; cases q⟩
  keep := fun i h h' st k => let ⟨⟨old, he⟩, hi, hne⟩ := st; ⟨⟨old, k e (by simp) _ he⟩, hi.at fun o q => k it (by simp) o q, hne⟩
  item := by
    intro X hP hw hK hc i pins s σ H E I hf st hg
    subst hP hw hK
    obtain ⟨⟨old, he⟩, hit, hne, hea⟩ := st
    obtain ⟨xs, x, hq, hx⟩ := hg
    obtain ⟨its, rv, p, hz⟩ := I.tuple hq
    obtain ⟨u, hu, ru⟩ := rv.get hx
    have hel : e < s.heap.objs.size := Heap.lt_size he
    have hil : it < s.heap.objs.size := by obtain ⟨_, q, _⟩ := hit; exact Heap.lt_size q
    have hd : X.A.in1.handled = none := I.ok.hd hc
    have nb : a ≠ it := fun e => by
      obtain ⟨o, eo, co, _⟩ := hit
      obtain ⟨o', eo', co', _⟩ := p
      rw [e, eo] at eo'
      cases eo'
      rw [co] at co'
      simp at co'
    have nx := rv.length
    have hlt : i < its.toArray.size := by
      have := (List.getElem?_eq_some_iff.mp hx).1
      simp
      omega
    refine wpAny_pyNext_enum_itemD (Draws.tuple hd it a nb its.toArray) he ⟨hit, p⟩ hlt hne (by simp; exact ⟨hne, hea⟩) fun x2 h' tk q2 ho hit' hT hsz hk => ?_
    have ex : x2 = u := by
      rw [List.getElem?_toArray, hu] at q2
      exact (Option.some.inj q2).symm
    subst ex
    refine ⟨_, rfl, wpAny_letOwnedTupleGo_enum (s := { s with heap := h', toks := tk + 1 }) ho fun h'' he' sb => ?_⟩
    have hT2 : h''.get? s.heap.objs.size = some { cls := .type "tuple", data := .seq #[.int i tk, x2] } := (sb.2 _ (Nat.ne_of_gt hel)).trans hT
    have new : ObjOk X.prog X.w (upd H s.heap.objs.size (.tup [.int (i : Nat), x])) h'' s.heap.objs.size (.tup [.int (i : Nat), x]) :=
      ⟨by show 2 ≤ sizeLine; decide, [.int i tk, x2], .cons ⟨_, rfl⟩ (.cons ru .nil), ⟨_, hT2, rfl, _, rfl⟩⟩
    have I1 : Inv X pins σ (upd H s.heap.objs.size (.tup [.int (i : Nat), x])) { s with heap := h'', toks := tk + 1 } :=
      I.turnedNew (ch := [e, it]) (t' := tk + 1) (fun b ob hb q => (sb.2 b (fun z => hb (by simp [z]))).trans (hk b ob (fun z => hb (by simp [z])) (fun z => hb (by simp [z])) q)) hf (Nat.le_refl _) new
    refine ⟨.ref s.heap.objs.size, _, I1, rfl, ⟨_, x, rfl, I.hok.fresh (Nat.le_refl _), rfl, fun ys hy => by rw [I.tuple_inj hy hq]; exact hx⟩, ⟨⟨x2, ?_⟩, hit'.1.at fun o q => (sb.2 it (Ne.symm hne)).trans q, hne, hea⟩, fun b hb => ?_⟩
    · have e1 : ((i + 1 : Nat) : Int) = (i : Int) + 1 := by omega
      rw [e1]; exact he'
    · have hb' : b < s.heap.objs.size := by
        have e' : b = e ∨ b = it := by simpa using hb
        rcases e' with z | z
        · rw [z]; exact hel
        · rw [z]; exact hil
      rw [upd_ne (Nat.ne_of_lt hb')]
      exact (hf b hb).1
  done := by
    intro X hP hw hK hc i pins s σ H E I hf st hg
    subst hP hw hK
    obtain ⟨⟨old, he⟩, hit, hne, hea⟩ := st
    obtain ⟨xs, hq, hx⟩ := hg
    obtain ⟨its, rv, p, hz⟩ := I.tuple hq
    obtain ⟨f0, f1, f2, f3, f4, f5⟩ := hf it (by simp)
    have hl := rv.length
    have hd : X.A.in1.handled = none := I.ok.hd hc
    have nb : a ≠ it := fun e => by
      obtain ⟨o, eo, co, _⟩ := hit
      obtain ⟨o', eo', co', _⟩ := p
      rw [e, eo] at eo'
      cases eo'
      rw [co] at co'
      simp at co'
    have hn : its.toArray.size = i := by simp; omega
    subst hn
    exact wpAny_pyNext_enum_endD (Draws.tuple hd it a nb its.toArray) he ⟨hit, p⟩ fun h' eb => ⟨rfl, I.turned (t' := s.toks) (fun b o hb q => eb b o hb q) f0 f1 f3 f4 f5⟩
  self := fun A i s Q E st h => let ⟨⟨_, he⟩, _⟩ := st; wpAny_pyIter_enum he h
set_option maxHeartbeats 1000000 in
theorem meets_enum_B0 {v : Value} {o : Obj} {H : Heap → Prop} (B : Begins v o H) :
    Meets (Builtin.«enumerate.__new__» ⟨[.type "enumerate", v], []⟩) (fun _ R s => H s.heap ∧
      R (.ok (.ret (.ref (s.heap.push o).objs.size))) { s with heap := (s.heap.push o).push { cls := .type "enumerate", data := .fields #[.none, .bool false, .ref s.heap.objs.size, rawInt 0, .none, .none] } }) :=
  .of_wp fun prog w A R s h => by
    obtain ⟨hp, g, d, tk, os⟩ := s; obtain ⟨h1, h⟩ := h
    have hsub := sub_enumerate
    have q1 : ∀ {A' : Around} {E : Value → Shared → Prop} {Q : Value → Shared → Prop}, Q (.ref hp.objs.size) ⟨hp.push o, g, d, tk, os⟩ → wpAny (model prog w) A' (pyIter v) Q E ⟨hp, g, d, tk, os⟩ :=
      fun q => B.iter prog w _ _ ⟨hp, g, d, tk, os⟩ _ h1 q
    wp_walk using q1
    refine wpAny_stack_any fun st => wpAny_pure ?_
    split
    · rename_i c _ _ _ _ _
      cases (c == Value.type "enumerate")
      · wp_walk using q1
        exact ⟨_, rfl, h⟩
      · wp_walk using q1
        exact ⟨_, rfl, h⟩
    · wp_walk using q1
      exact ⟨_, rfl, h⟩
theorem enum_begins0 {prog : Program} {w : World} {A : Around} {E : Value → Shared → Prop} {s : Shared} {v : Value} {o : Obj} {H : Heap → Prop} {Q : Value → Shared → Prop} (B : Begins v o H) (h1 : H s.heap)
    (h : ∀ h', IsEnum h' (s.heap.objs.size + 1) s.heap.objs.size 0 .none → h'.get? s.heap.objs.size = some o → h'.objs.size = s.heap.objs.size + 2 →
      (∀ b o, s.heap.get? b = some o → h'.get? b = some o) → Q (.ref (s.heap.objs.size + 1)) { s with heap := h' }) :
    wpAny (model prog w) A (call (.type "enumerate") [v]) Q E s := by
  refine callType_new F.called_enumerate (by decide) (F.typeCall_enumerate_1 _) (F.newCall_enumerate_1 _) (fun obj => F.args_object_init_2 obj _) F.entry_enumerate_new
    (meets_enum_B0 B) ⟨h1, ?_⟩
  have hz : (s.heap.push o).objs.size = s.heap.objs.size + 1 := Heap.size_push ..
  show _ ∧ _
  rw [hz]
  have he : IsEnum ((s.heap.push o).push { cls := .type "enumerate", data := .fields #[.none, .bool false, .ref s.heap.objs.size, rawInt 0, .none, .none] }) (s.heap.objs.size + 1) s.heap.objs.size 0 .none := by
    have := Heap.get?_push_size (s.heap.push o) (o := { cls := .type "enumerate", data := .fields #[.none, .bool false, .ref s.heap.objs.size, rawInt 0, .none, .none] }) rfl
    rw [hz] at this; exact this
  refine ⟨⟨_, he, rfl⟩, h _ he (Heap.get?_push_of_some _ (Heap.get?_push_size _ B.free)) (by rw [Heap.size_push, hz]) fun b o x => Heap.get?_push_of_some _ (Heap.get?_push_of_some _ x)⟩
def iEnumT (K : PySem.W.Frag) (ta : TA) : TI := fun σ H R => ta σ H fun vs H1 => ∃ a xs, vs = [.ref a] ∧ SqT K H1 a xs ∧ R (IteT K a) H1
theorem pi_enumT {X : Cx} {K2 : PySem.W.Frag} (hK : X.K = K2) {e : Expr} {ta : TA} {p pos tpos : Pos} {elts : List Expr} {kk : Nat} (hg : Gl X "enumerate") (hm : X.mg "enumerate" = none) (ha : PA X [e] ta) (hs : starEach [e] X.env = [(false, eval e X.env)] := by rfl) :
    PI X (.Tuple elts kk tpos) (.Call (.Name "enumerate" p) [e] [] pos) (iEnumT K2 ta) := by
  subst hK
  refine ⟨fun pins s σ H R I h => ?_⟩
  refine Call_ (ld_blt I hg hm boot_enumerate (PyProof.Rows.callWith_type1 (thn (ha.run pos pins s σ H _ I h) fun us s1 ⟨vs, H1, I1, r1, q1⟩ => ?_) hs rfl))
  obtain ⟨a, xs, ex, hq, q⟩ := q1
  subst ex
  cases r1 with
  | cons r rr =>
    cases rr
    cases r
    obtain ⟨its, rv, p', hz⟩ := I1.tuple hq
    have la : a < s1.heap.objs.size := by
      obtain ⟨_, e, _⟩ := id p'
      exact Heap.lt_size e
    refine enum_begins0 (begins_tuple a its.toArray) p' fun h' he hit hsz hk => wpAny_pyIter_enum he ?_
    have I2 : Inv X pins σ H1 { s1 with heap := h' } := I1.kept (t' := s1.toks) hk
    refine ⟨s1.heap.objs.size + 1, [s1.heap.objs.size + 1, s1.heap.objs.size], _, _, H1, rfl, I2, turn_enumT a (s1.heap.objs.size + 1) s1.heap.objs.size, ⟨⟨.none, he⟩, ⟨_, hit, rfl, rfl⟩, Nat.succ_ne_self _, Nat.ne_of_gt (Nat.lt_succ_of_lt la)⟩, fun b hb => ?_, q⟩
    have e' : b = s1.heap.objs.size + 1 ∨ b = s1.heap.objs.size := by simpa using hb
    have hle : s1.heap.objs.size ≤ b := by
      rcases e' with z | z
      · rw [z]; exact Nat.le_add_right _ _
      · rw [z]; exact Nat.le_refl _
    exact I1.fpOk hle (I1.hok.fresh hle)
def YEnT (xs : List V) : Nat → Hp → V → Hp → Prop := fun i H v H' => ∃ T x, v = .ref T ∧ H T = none ∧ H' = upd H T (.tup [.int (i : Nat), x]) ∧ xs[i]? = some x
theorem walk_enumT {K : PySem.W.Frag} {a : Addr} {xs : List V} : Walk (IteT K a) xs.length (fun H => SqT K H a xs) (YEnT xs) := by
  refine ⟨fun i H hi q => ⟨xs, xs[i], q, List.getElem?_eq_getElem hi⟩, fun H q => ⟨xs, q, rfl⟩, fun i H v H' hi q y => ?_⟩
  obtain ⟨T, x, e1, e2, e3, e4⟩ := y
  exact ⟨T, x, e1, e2, e3, e4 _ q⟩
/-- a comprehension over enumerate of a tuple, item by item -/
theorem x_lcEnT {K : PySem.W.Frag} {ta : TA} {te : TE} {vs : List Nat} {i j : Nat} {Q : VK} {σ : L2.St} {H : Hp} {a : Addr} {xs : List V} (f : Nat → V) (hn : ∀ R : List V → Hp → Prop, R [.ref a] H → ta σ H R) (ha : SqT K H a xs) (hl : xs.length ≤ 100000)
    (hv : ∀ x y, wipe (((wipe σ vs).set i (some x)).set j (some y)) vs = wipe σ vs) (hG : ∀ H', Same H H' → SqT K H' a xs)
    (he : ∀ (k : Nat) x H', Same H H' → xs[k]? = some x → ∀ R : VK, (∀ H2, Same H' H2 → R (f k) H2) → te (((wipe σ vs).set i (some (.int (k : Int)))).set j (some x)) H' R)
    (hd : ∀ p H', H p = none → Same H H' → H' p = some (.lst ((List.range xs.length).map f)) → Q (.ref p) H') : tLc (iEnumT K ta) (gTup K 2 (gCons (gName i) (gCons (gName j) gNil))) tYes te vs σ H Q := by
  refine x_lcI (J := IteT K a) (n := xs.length) (G := fun H => SqT K H a xs) (fun R r => hn _ ⟨a, xs, rfl, ha, r⟩) walk_enumT (fun p k H' => Same H H' ∧ H' p = some (.lst ((List.range k).map f))) (fun p hp => ⟨same_upd hp, upd_same⟩) (fun p k H' _ _ z => hG H' z.1) ?_ ?_ fun p H' hp z => hd p H' hp z.1 z.2
  · rintro p k x H' H2 hk hp ⟨hs, hl⟩ ⟨T, y, rfl, hT, rfl, hx⟩
    have sT := same_upd (o := .tup [.int (k : Nat), y]) hT
    refine x_gTup2 (st_of upd_same) ⟨hv _ _, he k y _ (hs.trans sT) hx _ fun H3 s3 => ?_⟩
    refine ⟨_, s3 _ _ (sT _ _ hl), lt_line (by simp; omega), sput ((hs.trans sT).trans s3) hp, ?_⟩
    rw [upd_same, List.range_succ, List.map_append]
    rfl
  · rintro x σ' H' R R' hr ⟨p, zs, e1, e2, e3, x1, r1, e4, x2, r2, e5, e6, h⟩
    exact ⟨p, zs, e1, e2, e3, x1, r1, e4, x2, r2, e5, e6, hr _ _ h⟩
end Br

/-! ### nodes that refer to nodes before them: Boolean sources as data -/
namespace Br
open PySem PySem.Spec PyProof.Rows L2
/-- values from left to right, each from those before it -/
def scanF {α β : Type} (f : List β → α → β) (ns : List α) : List β := ns.foldl (fun acc n => acc ++ [f acc n]) []
theorem scanF_snoc {α β : Type} {f : List β → α → β} {ns : List α} {n : α} : scanF f (ns ++ [n]) = scanF f ns ++ [f (scanF f ns) n] := by unfold scanF; rw [List.foldl_append]; rfl
theorem revRec {α : Type} {P : List α → Prop} (h0 : P []) (h1 : ∀ xs x, P xs → P (xs ++ [x])) : ∀ xs, P xs := fun xs => by
  have h : ∀ ys : List α, P ys.reverse := by
    intro ys
    induction ys with
    | nil => exact h0
    | cons y ys ih => rw [List.reverse_cons]; exact h1 _ _ ih
  have := h xs.reverse
  rw [List.reverse_reverse] at this
  exact this
theorem scanF_len {α β : Type} {f : List β → α → β} {ns : List α} : (scanF f ns).length = ns.length := by
  refine revRec (P := fun ns => (scanF f ns).length = ns.length) rfl (fun ns n ih => ?_) ns
  rw [scanF_snoc, List.length_append, List.length_append, ih]
  rfl
def isTupD : PyData → Bool
  | .tuple _ => true
  | _ => false
def nodesD : PyData → Bool
  | .tuple es => (decide (1 ≤ es.length) && decide (es.length ≤ 200)) && es.all isTupD
  | _ => false
theorem isBD_nat {i m : Nat} (h : i < m) : isBD (m : Int) (.int (i : Int)) = true := isBD_iff.mpr ⟨_, rfl, by omega, by omega⟩
theorem sh_cons {m : Nat} {e : PyData} {es : List PyData} (h : ShN m e) (hs : ∀ x, x ∈ es → ShN m x) : ∀ x, x ∈ e :: es → ShN m x := fun x hx => (List.mem_cons.mp hx).elim (fun e1 => by rw [e1]; exact h) (hs x)
theorem sh_nil {m : Nat} : ∀ x, x ∈ ([] : List PyData) → ShN m x := fun x hx => by simp at hx
theorem sh_app {m : Nat} {es fs : List PyData} (h : ∀ x, x ∈ es → ShN m x) (h2 : ∀ x, x ∈ fs → ShN m x) : ∀ x, x ∈ es ++ fs → ShN m x := fun x hx => (List.mem_append.mp hx).elim (h x) (h2 x)
theorem sh_take {m n : Nat} {es : List PyData} (h : ∀ x, x ∈ es → ShN m x) : ∀ x, x ∈ es.take n → ShN m x := fun x hx => h x (List.mem_of_mem_take hx)
theorem sh_drop {m n : Nat} {es : List PyData} (h : ∀ x, x ∈ es → ShN m x) : ∀ x, x ∈ es.drop n → ShN m x := fun x hx => h x (List.mem_of_mem_drop hx)
theorem sh_up {m k : Nat} {es : List PyData} (h : ∀ x, x ∈ es → ShN m x) (hm : m ≤ k) : ∀ x, x ∈ es → ShN k x := fun x hx => (h x hx).mono hm
/-! readings of slices and sums of tuples, the whole and the empty one included -/
theorem x_slA {K : PySem.W.Frag} {a : Addr} {xs : List V} {lo hi : Option Int} {H : Hp} {Q : VK} (hp : H a = some (.tup xs)) (q : ∀ r H', Same H H' → H' r = some (.tup (cutV xs lo hi)) → Q (.ref r) H') : rSlA K (.ref a) lo hi H Q := by
  refine ⟨a, xs, rfl, st_of hp, fun h => q a H (Same.refl _) ?_, fun _ p hn => q p _ (same_upd hn) upd_same⟩
  rw [hp]
  unfold cutV
  rw [h.1, h.2, List.drop_zero, Nat.sub_zero, List.take_length]
theorem x_catA {K : PySem.W.Frag} {a b : Addr} {xs ys : List V} {H : Hp} {Q : VK} (ha : H a = some (.tup xs)) (hb : H b = some (.tup ys)) (hl : xs.length + ys.length ≤ 1000000) (q : ∀ r H', Same H H' → H' r = some (.tup (xs ++ ys)) → Q (.ref r) H') : rCatA K (.ref a) (.ref b) H Q := by
  refine ⟨a, b, xs, ys, rfl, rfl, st_of ha, st_of hb, Nat.le_trans hl (by decide), fun h => q b H (Same.refl _) (by rw [h]; exact hb), fun _ h => q a H (Same.refl _) (by rw [h, List.append_nil]; exact ha), fun _ _ p hn => q p _ (same_upd hn) upd_same⟩
end Br

/-! ### sources as data -/
namespace Br
open PySem PySem.Spec PyProof.Rows L2
inductive SN where
  | con (c : Nat)
  | inp (k : Nat)
  | sum (i j : Nat)
  | prod (i j : Nat)
  | scl (c i : Nat)
  | cho (i j l : Nat)
def snV : SN → List V
  | .con c => [.str "const", .int (c : Int)]
  | .inp k => [.str "input", .int (k : Int)]
  | .sum i j => [.str "sum", .int (i : Int), .int (j : Int)]
  | .prod i j => [.str "product", .int (i : Int), .int (j : Int)]
  | .scl c i => [.str "scaled", .int (c : Int), .int (i : Int)]
  | .cho i j l => [.str "choose", .int (i : Int), .int (j : Int), .int (l : Int)]
def snEs : SN → List PyData
  | .con c => [.str "const", .int (c : Int)]
  | .inp k => [.str "input", .int (k : Int)]
  | .sum i j => [.str "sum", .int (i : Int), .int (j : Int)]
  | .prod i j => [.str "product", .int (i : Int), .int (j : Int)]
  | .scl c i => [.str "scaled", .int (c : Int), .int (i : Int)]
  | .cho i j l => [.str "choose", .int (i : Int), .int (j : Int), .int (l : Int)]
def snD (n : SN) : PyData := .tuple (snEs n)
def SnOk (m : Nat) : SN → Prop
  | .con c => c < 1000000000
  | .inp k => k < 60
  | .sum i j => i < m ∧ j < m
  | .prod i j => i < m ∧ j < m
  | .scl c i => c < 1000000000 ∧ i < m
  | .cho i j l => i < m ∧ j < m ∧ l < m
theorem snEs_at {d : Addr} {H : Hp} {b : SN} : DAts d H (snV b) (snEs b) := by
  cases b with
  | con c => exact .cons (.str _) (.cons (.int _) .nil)
  | inp k => exact .cons (.str _) (.cons (.int _) .nil)
  | sum i j => exact .cons (.str _) (.cons (.int _) (.cons (.int _) .nil))
  | prod i j => exact .cons (.str _) (.cons (.int _) (.cons (.int _) .nil))
  | scl i j => exact .cons (.str _) (.cons (.int _) (.cons (.int _) .nil))
  | cho i j l => exact .cons (.str _) (.cons (.int _) (.cons (.int _) (.cons (.int _) .nil)))
theorem sn_dat {d a : Addr} {H : Hp} {n : SN} (h : H a = some (.tup (snV n))) : DAt d H (.ref a) (snD n) := .tup h snEs_at
theorem snEs_of {d : Addr} {H : Hp} {xs : List V} {n : SN} (h : DAts d H xs (snEs n)) : xs = snV n := by
  have one : ∀ {d : Addr} {H : Hp} {x : V} {i : Int}, DAt d H x (.int i) → x = .int i := fun h => by cases h; rfl
  have ons : ∀ {d : Addr} {H : Hp} {x : V} {i : Str}, DAt d H x (.str i) → x = .str i := fun h => by cases h; rfl
  cases n with
  | con c => cases h with | cons h1 h => cases h with | cons h2 h => cases h; rw [ons h1, one h2]; rfl
  | inp c => cases h with | cons h1 h => cases h with | cons h2 h => cases h; rw [ons h1, one h2]; rfl
  | sum i j => cases h with | cons h1 h => cases h with | cons h2 h => cases h with | cons h3 h => cases h; rw [ons h1, one h2, one h3]; rfl
  | prod i j => cases h with | cons h1 h => cases h with | cons h2 h => cases h with | cons h3 h => cases h; rw [ons h1, one h2, one h3]; rfl
  | scl i j => cases h with | cons h1 h => cases h with | cons h2 h => cases h with | cons h3 h => cases h; rw [ons h1, one h2, one h3]; rfl
  | cho i j l => cases h with | cons h1 h => cases h with | cons h2 h => cases h with | cons h3 h => cases h with | cons h4 h => cases h; rw [ons h1, one h2, one h3, one h4]; rfl
theorem snD_at {d : Addr} {H : Hp} {v : V} {n : SN} (h : DAt d H v (snD n)) : ∃ a, v = .ref a ∧ H a = some (.tup (snV n)) := by
  unfold snD at h
  cases h with
  | tup h hs => exact ⟨_, rfl, by rw [h, snEs_of hs]⟩
structure SsOk (ns : List SN) : Prop where
  l1 : 1 ≤ ns.length
  l2 : ns.length ≤ 200
  ok : ∀ i n, ns[i]? = some n → SnOk i n
def snodeD (m : Int) : PyData → Bool
  | .tuple [.str w, x] => if w = "const" then isBD 1000000000 x else if w = "input" then isBD 60 x else false
  | .tuple [.str w, x, y] => if w = "sum" then isBD m x && isBD m y else if w = "product" then isBD m x && isBD m y else if w = "scaled" then isBD 1000000000 x && isBD m y else false
  | .tuple [.str w, x, y, z] => if w = "choose" then isBD m x && (isBD m y && isBD m z) else false
  | _ => false
theorem sn1 {m : Int} {w : Str} {x : PyData} : snodeD m (.tuple [.str w, x]) = (if w = "const" then isBD 1000000000 x else if w = "input" then isBD 60 x else false) := rfl
theorem sn2 {m : Int} {w : Str} {x y : PyData} : snodeD m (.tuple [.str w, x, y]) = (if w = "sum" then isBD m x && isBD m y else if w = "product" then isBD m x && isBD m y else if w = "scaled" then isBD 1000000000 x && isBD m y else false) := rfl
theorem sn3 {m : Int} {w : Str} {x y z : PyData} : snodeD m (.tuple [.str w, x, y, z]) = (if w = "choose" then isBD m x && (isBD m y && isBD m z) else false) := rfl
theorem isBD_toNat {b : Int} {x : PyData} (h : isBD b x = true) : ∃ c : Nat, x = .int (c : Int) ∧ (c : Int) < b := by
  obtain ⟨i, rfl, i0, i1⟩ := isBD_iff.mp h
  exact ⟨i.toNat, by rw [show ((i.toNat : Nat) : Int) = i by omega], by omega⟩
theorem snodeD_iff {m : Nat} {e : PyData} : snodeD m e = true ↔ ∃ n, e = snD n ∧ SnOk m n := by
  constructor
  · intro h
    match e, h with
    | .tuple [.str w, x], h =>
      rw [sn1] at h
      by_cases h1 : w = "const"
      · rw [if_pos h1] at h
        obtain ⟨c, rfl, hc⟩ := isBD_toNat h
        exact ⟨.con c, by rw [h1]; rfl, by show c < 1000000000; omega⟩
      rw [if_neg h1] at h
      by_cases h2 : w = "input"
      · rw [if_pos h2] at h
        obtain ⟨c, rfl, hc⟩ := isBD_toNat h
        exact ⟨.inp c, by rw [h2]; rfl, by show c < 60; omega⟩
      rw [if_neg h2] at h
      cases h
    | .tuple [.str w, x, y], h =>
      rw [sn2] at h
      by_cases h1 : w = "sum"
      · rw [if_pos h1, Bool.and_eq_true] at h
        obtain ⟨i, rfl, hi⟩ := isBD_toNat h.1
        obtain ⟨j, rfl, hj⟩ := isBD_toNat h.2
        exact ⟨.sum i j, by rw [h1]; rfl, by show i < m ∧ j < m; omega⟩
      rw [if_neg h1] at h
      by_cases h2 : w = "product"
      · rw [if_pos h2, Bool.and_eq_true] at h
        obtain ⟨i, rfl, hi⟩ := isBD_toNat h.1
        obtain ⟨j, rfl, hj⟩ := isBD_toNat h.2
        exact ⟨.prod i j, by rw [h2]; rfl, by show i < m ∧ j < m; omega⟩
      rw [if_neg h2] at h
      by_cases h3 : w = "scaled"
      · rw [if_pos h3, Bool.and_eq_true] at h
        obtain ⟨i, rfl, hi⟩ := isBD_toNat h.1
        obtain ⟨j, rfl, hj⟩ := isBD_toNat h.2
        exact ⟨.scl i j, by rw [h3]; rfl, by show i < 1000000000 ∧ j < m; omega⟩
      rw [if_neg h3] at h
      cases h
    | .tuple [.str w, x, y, z], h =>
      rw [sn3] at h
      by_cases h1 : w = "choose"
      · rw [if_pos h1, Bool.and_eq_true, Bool.and_eq_true] at h
        obtain ⟨i, rfl, hi⟩ := isBD_toNat h.1
        obtain ⟨j, rfl, hj⟩ := isBD_toNat h.2.1
        obtain ⟨l, rfl, hl⟩ := isBD_toNat h.2.2
        exact ⟨.cho i j l, by rw [h1]; rfl, by show i < m ∧ j < m ∧ l < m; omega⟩
      rw [if_neg h1] at h
      cases h
  · rintro ⟨n, rfl, ok⟩
    cases n with
    | con c => show snodeD m (.tuple [.str "const", .int (c : Int)]) = true; rw [sn1, if_pos rfl]; exact isBD_nat (m := 1000000000) ok
    | inp k => show snodeD m (.tuple [.str "input", .int (k : Int)]) = true; rw [sn1, if_neg (by decide), if_pos rfl]; exact isBD_nat (m := 60) ok
    | sum i j =>
      have ok : i < m ∧ j < m := ok
      show snodeD m (.tuple [.str "sum", .int (i : Int), .int (j : Int)]) = true
      rw [sn2, if_pos rfl, isBD_nat ok.1, isBD_nat ok.2]; rfl
    | prod i j =>
      have ok : i < m ∧ j < m := ok
      show snodeD m (.tuple [.str "product", .int (i : Int), .int (j : Int)]) = true
      rw [sn2, if_neg (by decide), if_pos rfl, isBD_nat ok.1, isBD_nat ok.2]; rfl
    | scl c i =>
      have ok : c < 1000000000 ∧ i < m := ok
      show snodeD m (.tuple [.str "scaled", .int (c : Int), .int (i : Int)]) = true
      rw [sn2, if_neg (by decide), if_neg (by decide), if_pos rfl, show isBD 1000000000 (.int (c : Int)) = true from isBD_nat (m := 1000000000) ok.1, isBD_nat ok.2]; rfl
    | cho i j l =>
      have ok : i < m ∧ j < m ∧ l < m := ok
      show snodeD m (.tuple [.str "choose", .int (i : Int), .int (j : Int), .int (l : Int)]) = true
      rw [sn3, if_pos rfl, isBD_nat ok.1, isBD_nat ok.2.1, isBD_nat ok.2.2]; rfl
def sourceD : PyData → Bool
  | .tuple es => nodesD (.tuple es) && ((List.range es.length).all fun i => snodeD (i : Int) (es.getD i .none))
  | _ => false
theorem sourceD_iff {e : PyData} : sourceD e = true ↔ ∃ ns : List SN, e = .tuple (ns.map snD) ∧ SsOk ns := by
  constructor
  · intro h
    cases e with
    | tuple es =>
      have h : (((decide (1 ≤ es.length) && decide (es.length ≤ 200)) && es.all isTupD) && ((List.range es.length).all fun i => snodeD (i : Int) (es.getD i .none))) = true := h
      rw [Bool.and_eq_true, Bool.and_eq_true, Bool.and_eq_true, decide_eq_true_iff, decide_eq_true_iff] at h
      obtain ⟨⟨⟨h1, h2⟩, _⟩, h3⟩ := h
      rw [List.all_eq_true] at h3
      have h4 : ∀ i e, es[i]? = some e → ∃ n, e = snD n ∧ SnOk i n := fun i e he => by
        have := h3 i (List.mem_range.mpr (List.getElem?_eq_some_iff.mp he).1)
        rw [getDT he] at this
        exact snodeD_iff.mp this
      have h5 : ∀ (es : List PyData) (k : Nat), (∀ i e, es[i]? = some e → ∃ n, e = snD n ∧ SnOk (k + i) n) → ∃ ns : List SN, es = ns.map snD ∧ ∀ i n, ns[i]? = some n → SnOk (k + i) n := by
        intro es
        induction es with
        | nil => intro k _; exact ⟨[], rfl, fun i n h => by simp at h⟩
        | cons e es ih =>
          intro k h
          obtain ⟨n, rfl, hn⟩ := h 0 e rfl
          obtain ⟨ns, rfl, hns⟩ := ih (k + 1) fun i e he => by
            have := h (i + 1) e (by simpa using he)
            rw [show k + 1 + i = k + (i + 1) by omega]
            exact this
          refine ⟨n :: ns, rfl, fun i m hm => ?_⟩
          cases i with
          | zero => cases hm; exact hn
          | succ i =>
            have := hns i m (by simpa using hm)
            rw [show k + (i + 1) = k + 1 + i by omega]
            exact this
      obtain ⟨ns, rfl, hns⟩ := h5 es 0 fun i e he => by rw [Nat.zero_add]; exact h4 i e he
      rw [List.length_map] at h1 h2
      exact ⟨ns, rfl, h1, h2, fun i n hn => by have := hns i n hn; rw [Nat.zero_add] at this; exact this⟩
    | _ => cases h
  · rintro ⟨ns, rfl, ok⟩
    show (((decide (1 ≤ (ns.map snD).length) && decide ((ns.map snD).length ≤ 200)) && (ns.map snD).all isTupD) && ((List.range (ns.map snD).length).all fun i => snodeD (i : Int) ((ns.map snD).getD i .none))) = true
    have h3 : (ns.map snD).all isTupD = true := by
      rw [List.all_eq_true]
      intro e he
      obtain ⟨n, _, rfl⟩ := List.mem_map.mp he
      rfl
    have h4 : ((List.range (ns.map snD).length).all fun i => snodeD (i : Int) ((ns.map snD).getD i .none)) = true := by
      rw [List.all_eq_true]
      intro i hi
      rw [List.length_map] at hi
      have hi := List.mem_range.mp hi
      have e1 : (ns.map snD)[i]? = some (snD ns[i]) := by rw [List.getElem?_map, List.getElem?_eq_getElem hi]; rfl
      rw [getDT e1]
      exact snodeD_iff.mpr ⟨_, rfl, ok.ok i _ (List.getElem?_eq_getElem hi)⟩
    rw [h3, h4, List.length_map, decide_eq_true ok.l1, decide_eq_true ok.l2]
    rfl
def snOf : PyData → SN
  | .tuple [.str w, .int k] => if w = "const" then .con k.toNat else .inp k.toNat
  | .tuple [.str w, .int i, .int j] => if w = "sum" then .sum i.toNat j.toNat else if w = "product" then .prod i.toNat j.toNat else .scl i.toNat j.toNat
  | .tuple [.str _, .int i, .int j, .int l] => .cho i.toNat j.toNat l.toNat
  | _ => .inp 0
theorem snOf_snD {n : SN} : snOf (snD n) = n := by
  cases n with
  | con k =>
    show (if (Str.ofString "const") = (Str.ofString "const") then SN.con ((k : Int)).toNat else .inp ((k : Int)).toNat) = _
    rw [if_pos rfl]; rfl
  | inp i =>
    show (if (Str.ofString "input") = (Str.ofString "const") then SN.con ((i : Int)).toNat else .inp ((i : Int)).toNat) = _
    rw [if_neg (by decide)]; rfl
  | sum i j =>
    show (if (Str.ofString "sum") = (Str.ofString "sum") then SN.sum ((i : Int)).toNat ((j : Int)).toNat else if (Str.ofString "sum") = (Str.ofString "product") then .prod ((i : Int)).toNat ((j : Int)).toNat else .scl ((i : Int)).toNat ((j : Int)).toNat) = _
    rw [if_pos rfl]; rfl
  | prod i j =>
    show (if (Str.ofString "product") = (Str.ofString "sum") then SN.sum ((i : Int)).toNat ((j : Int)).toNat else if (Str.ofString "product") = (Str.ofString "product") then .prod ((i : Int)).toNat ((j : Int)).toNat else .scl ((i : Int)).toNat ((j : Int)).toNat) = _
    rw [if_neg (by decide), if_pos rfl]; rfl
  | scl i j =>
    show (if (Str.ofString "scaled") = (Str.ofString "sum") then SN.sum ((i : Int)).toNat ((j : Int)).toNat else if (Str.ofString "scaled") = (Str.ofString "product") then .prod ((i : Int)).toNat ((j : Int)).toNat else .scl ((i : Int)).toNat ((j : Int)).toNat) = _
    rw [if_neg (by decide), if_neg (by decide)]; rfl
  | cho i j l => rfl
theorem sns_inj {a b : List SN} (h : a.map snD = b.map snD) : a = b :=
  (List.map_inj_right fun x y hxy => by have := congrArg snOf hxy; rw [snOf_snD, snOf_snD] at this; exact this).mp h
theorem snEs_sh {b : SN} {m : Nat} : ∀ e, e ∈ snEs b → ShN m e := by
  have w1 : ShN m (.str "const") := ShN.str (by decide +kernel)
  have w2 : ShN m (.str "input") := ShN.str (by decide +kernel)
  have w3 : ShN m (.str "sum") := ShN.str (by decide +kernel)
  have w4 : ShN m (.str "product") := ShN.str (by decide +kernel)
  have w5 : ShN m (.str "scaled") := ShN.str (by decide +kernel)
  have w6 : ShN m (.str "choose") := ShN.str (by decide +kernel)
  cases b with
  | con k => exact sh_cons w1 (sh_cons .int sh_nil)
  | inp k => exact sh_cons w2 (sh_cons .int sh_nil)
  | sum i j => exact sh_cons w3 (sh_cons .int (sh_cons .int sh_nil))
  | prod i j => exact sh_cons w4 (sh_cons .int (sh_cons .int sh_nil))
  | scl i j => exact sh_cons w5 (sh_cons .int (sh_cons .int sh_nil))
  | cho i j l => exact sh_cons w6 (sh_cons .int (sh_cons .int (sh_cons .int sh_nil)))
theorem sns_sh {ns : List SN} {m : Nat} : ∀ e, e ∈ ns.map snD → ShN (m + 1) e := fun e he => by
  obtain ⟨b, _, rfl⟩ := List.mem_map.mp he
  exact ShN.tup snEs_sh
theorem sns_at {d : Addr} {H : Hp} : ∀ {xs : List V} {ns : List SN}, DAts d H xs (ns.map snD) → ∃ as : List Addr, xs = as.map V.ref ∧ as.length = ns.length ∧ ∀ (i : Nat) n a, ns[i]? = some n → as[i]? = some a → H a = some (.tup (snV n))
  | _, [], h => by cases h; exact ⟨[], rfl, rfl, fun i n a h _ => by simp at h⟩
  | _, n :: ns, h => by
    cases h with
    | cons h hs =>
      obtain ⟨a, rfl, ha⟩ := snD_at h
      obtain ⟨as, rfl, hl, hat⟩ := sns_at hs
      refine ⟨a :: as, rfl, congrArg (· + 1) hl, fun i m b h1 h2 => ?_⟩
      cases i with
      | zero => cases h1; cases h2; exact ha
      | succ i => exact hat i m b (by simpa using h1) (by simpa using h2)
theorem sns_dats {d : Addr} {H : Hp} {as : List Addr} {ns : List SN} (hl : as.length = ns.length) (h : ∀ (i : Nat) n a, ns[i]? = some n → as[i]? = some a → H a = some (.tup (snV n))) : DAts d H (as.map V.ref) (ns.map snD) := by
  refine DAts.of (by rw [List.length_map, List.length_map, hl]) fun i x e h1 h2 => ?_
  obtain ⟨a, ha, rfl⟩ := map_getR h1
  rw [List.getElem?_map] at h2
  cases hn : ns[i]? with
  | none => rw [hn] at h2; cases h2
  | some n => rw [hn] at h2; cases h2; exact sn_dat (h i n a hn ha)
/-- costs -/
def cost1 (cs : List Nat) : SN → Nat
  | .sum i j => cs.getD i 0 + cs.getD j 0
  | .prod i j => 2 * (cs.getD i 0 + cs.getD j 0)
  | .scl _ i => cs.getD i 0
  | .cho i j l => cs.getD l 0 + 2 * (cs.getD i 0 + cs.getD j 0 + cs.getD l 0)
  | _ => 1
def costsF (ns : List SN) : List Nat := scanF cost1 ns
theorem costs_snoc {ns : List SN} {n : SN} : costsF (ns ++ [n]) = costsF ns ++ [cost1 (costsF ns) n] := scanF_snoc
theorem costs_len {ns : List SN} : (costsF ns).length = ns.length := scanF_len
/-- the cost of the last node -/
def costF (ns : List SN) : Nat := (costsF ns).getD (ns.length - 1) 0
end Br

/-! ### values of sources, and what they need -/
namespace Br
open PySem PySem.Spec PyProof.Rows L2
def need1 : SN → Option Nat
  | .inp k => some (k + 1)
  | _ => none
def needL (ns : List SN) : List Nat := ns.filterMap need1
def needF (ns : List SN) : Nat := (needL ns).foldr max 0
theorem needL_snoc {ns : List SN} {n : SN} : needL (ns ++ [n]) = needL ns ++ (match need1 n with | some k => [k] | none => []) := by
  unfold needL
  rw [List.filterMap_append]
  cases h : need1 n with
  | none => simp [List.filterMap_cons, h]
  | some k => simp [List.filterMap_cons, h]
theorem needF_max {ls : List Nat} {m : Int} (h : (ls.map fun (c : Nat) => (c : Int)) = [] ∧ m = 0 ∨ m ∈ (ls.map fun (c : Nat) => (c : Int)) ∧ ∀ y, y ∈ (ls.map fun (c : Nat) => (c : Int)) → y ≤ m) : m = ((ls.foldr max 0 : Nat) : Int) := by
  obtain ⟨f1, f2, f3⟩ := foldr_max (cs := ls) (t := 0)
  rcases h with ⟨h, rfl⟩ | ⟨h, hle⟩
  · rw [List.map_eq_nil_iff.mp h]; rfl
  · obtain ⟨c, hc, rfl⟩ := List.mem_map.mp h
    have k1 := f2 c hc
    have k2 : ((ls.foldr max 0 : Nat) : Int) ≤ (c : Int) := by
      rcases f3 with f3 | f3
      · rw [f3]; omega
      · exact hle _ (List.mem_map.mpr ⟨_, f3, rfl⟩)
    omega
def val1 (gs vs : List Int) : SN → Int
  | .con c => (c : Int)
  | .inp k => gs.getD k 0
  | .sum i j => vs.getD i 0 + vs.getD j 0
  | .prod i j => vs.getD i 0 * vs.getD j 0
  | .scl c i => (c : Int) * vs.getD i 0
  | .cho i j l => vs.getD l 0 + vs.getD i 0 * (vs.getD j 0 - vs.getD l 0)
def valsF (m : Int) (gs : List Int) (ns : List SN) : List Int := scanF (fun acc n => val1 gs acc n % m) ns
def valF (m : Int) (gs : List Int) (ns : List SN) : Int := (valsF m gs ns).getD (ns.length - 1) 0
def SnIn (m b : Nat) : SN → Prop
  | .con _ => True
  | .inp k => k < b
  | .sum i j => i < m ∧ j < m
  | .prod i j => i < m ∧ j < m
  | .scl _ i => i < m
  | .cho i j l => i < m ∧ j < m ∧ l < m
theorem int_get {vs : List Int} {i : Nat} (h : i < vs.length) : (vs.map V.int)[i]? = some (.int (vs.getD i 0)) := by
  rw [List.getElem?_map, List.getElem?_eq_getElem h, List.getD_eq_getElem?_getD, List.getElem?_eq_getElem h]
  rfl
theorem rg_get {lo hi : Int} {xs : List Int} {i : Nat} (h : Rg lo hi xs) (hi2 : i < xs.length) : lo ≤ xs.getD i 0 ∧ xs.getD i 0 < hi := by
  rw [List.getD_eq_getElem?_getD, List.getElem?_eq_getElem hi2]
  exact h _ (List.getElem_mem hi2)
theorem vals_rg {m : Int} (hm : 0 < m) {gs : List Int} : ∀ ns : List SN, Rg 0 m (valsF m gs ns) := revRec (fun z hz => by simp [valsF, scanF] at hz) fun ns n ih z hz => by
  have e : valsF m gs (ns ++ [n]) = valsF m gs ns ++ [val1 gs (valsF m gs ns) n % m] := scanF_snoc
  rw [e] at hz
  rcases List.mem_append.mp hz with hz | hz
  · exact ih z hz
  · rw [List.mem_singleton.mp hz]
    exact ⟨Int.emod_nonneg _ (by omega), Int.emod_lt_of_pos _ hm⟩
theorem needF_le {ns : List SN} {k c : Nat} (h : ns[k]? = some (.inp c)) : c < needF ns := by
  have hm : c + 1 ∈ needL ns := List.mem_filterMap.mpr ⟨_, List.mem_of_getElem? h, rfl⟩
  exact (foldr_max (cs := needL ns) (t := 0)).2.1 _ hm
end Br

/-! ### compiled sources: the mathematics -/
namespace Br
open PySem PySem.Spec PyProof.Rows L2 Br.F
/-! ### compiled sources: the tasks, and what they do -/
/-- alike modulo m -/
def Cg (m a b : Int) : Prop := m ∣ a - b
theorem Cg.rfl' {m a : Int} : Cg m a a := ⟨0, by omega⟩
theorem Cg.symm {m a b : Int} (h : Cg m a b) : Cg m b a := by obtain ⟨k, h⟩ := h; exact ⟨-k, by rw [Int.mul_neg]; omega⟩
theorem Cg.trans {m a b c : Int} (h : Cg m a b) (g : Cg m b c) : Cg m a c := by
  obtain ⟨k, h⟩ := h; obtain ⟨l, g⟩ := g; exact ⟨k + l, by rw [Int.mul_add]; omega⟩
theorem Cg.add {m a b c d : Int} (h : Cg m a b) (g : Cg m c d) : Cg m (a + c) (b + d) := by
  obtain ⟨k, h⟩ := h; obtain ⟨l, g⟩ := g; exact ⟨k + l, by rw [Int.mul_add]; omega⟩
theorem Cg.mul {m a b c d : Int} (h : Cg m a b) (g : Cg m c d) : Cg m (a * c) (b * d) := by
  obtain ⟨k, h⟩ := h; obtain ⟨l, g⟩ := g
  refine ⟨k * c + b * l, ?_⟩
  have e1 : a = b + m * k := by omega
  have e2 : c = d + m * l := by omega
  subst e1; subst e2
  grind
theorem Cg.md {m a : Int} : Cg m (a % m) a := by
  have := Int.mul_ediv_add_emod a m
  exact ⟨-(a / m), by rw [Int.mul_neg]; omega⟩
theorem Cg.eq {m a b : Int} (h : Cg m a b) : a % m = b % m := by
  obtain ⟨k, h⟩ := h
  have e : a = b + m * k := by omega
  rw [e, Int.add_mul_emod_self_left]
theorem Cg.small {m a b : Int} (h : Cg m a b) (a0 : 0 ≤ b) (a1 : b < m) : a % m = b := by rw [h.eq, Int.emod_eq_of_lt a0 a1]
theorem Cg.of {m a b : Int} (h : a % m = b % m) : Cg m a b := by
  have h1 := Int.mul_ediv_add_emod a m
  have h2 := Int.mul_ediv_add_emod b m
  exact ⟨a / m - b / m, by rw [Int.mul_sub]; omega⟩
structure Tk where
  at_ : Nat
  t : Nat
  c : Int
  f : Option Nat
def fcV (mem : List Int) : Option Nat → Int
  | none => 1
  | some g => mem.getD g 0
def tkF (m : Int) (vs mem : List Int) (k : Tk) : List Int := mem.set k.t ((mem.getD k.t 0 + k.c * vs.getD k.at_ 0 * fcV mem k.f) % m)
def tksF (m : Int) (vs : List Int) (ks : List Tk) (mem : List Int) : List Int := ks.foldl (fun mem k => tkF m vs mem k) mem
theorem tksF_app {m : Int} {vs : List Int} {ks ls : List Tk} {mem : List Int} : tksF m vs (ks ++ ls) mem = tksF m vs ls (tksF m vs ks mem) := List.foldl_append ..
structure TkOk (n : Nat) (k : Tk) : Prop where
  lt : k.at_ < n
  t3 : k.t < 3
  f3 : ∀ g, k.f = some g → g < 3 ∧ g ≠ k.t
  c0 : -1000000000 ≤ k.c
  c1 : k.c ≤ 1000000000
def borF (t : Nat) (f : Option Nat) : Nat := if 0 ≠ t ∧ some 0 ≠ f then 0 else if 1 ≠ t ∧ some 1 ≠ f then 1 else 2
def partsF (t : Nat) (c : Int) (f : Option Nat) : SN → List Tk
  | .sum i j => [⟨i, t, c, f⟩, ⟨j, t, c, f⟩]
  | .prod i j => [⟨i, borF t f, 1, f⟩, ⟨j, t, c, some (borF t f)⟩, ⟨i, borF t f, -1, f⟩, ⟨j, t, -c, some (borF t f)⟩]
  | .cho i j l => [⟨l, t, c, f⟩, ⟨i, borF t f, 1, f⟩, ⟨j, t, c, some (borF t f)⟩, ⟨l, t, -c, some (borF t f)⟩,
      ⟨i, borF t f, -1, f⟩, ⟨j, t, -c, some (borF t f)⟩, ⟨l, t, c, some (borF t f)⟩]
  | _ => []
theorem borF_ok {t : Nat} {f : Option Nat} (h3 : t < 3) (hf : ∀ g, f = some g → g < 3 ∧ g ≠ t) : borF t f < 3 ∧ borF t f ≠ t ∧ some (borF t f) ≠ f := by
  unfold borF
  split
  · rename_i h; exact ⟨by omega, h.1, h.2⟩
  · split
    · rename_i h; exact ⟨by omega, h.1, h.2⟩
    · rename_i h0 h1
      have ne : ∀ i, ¬ (i ≠ t ∧ some i ≠ f) → i = t ∨ f = some i := fun i h => by
        by_cases e : i = t
        · exact .inl e
        · right
          by_cases e2 : some i = f
          · exact e2.symm
          · exact absurd ⟨e, e2⟩ h
      refine ⟨by omega, fun e => ?_, fun e => ?_⟩
      · have h0 := ne 0 h0
        have h1 := ne 1 h1
        rcases h0 with h0 | h0
        · omega
        · rcases h1 with h1 | h1
          · omega
          · rw [h0] at h1; cases h1
      · have e := e.symm
        have h0 := ne 0 h0
        have h1 := ne 1 h1
        rcases h0 with h0 | h0
        · rcases h1 with h1 | h1
          · omega
          · rw [e] at h1; cases h1
        · rw [e] at h0; cases h0
theorem sum_v {m x a b c F v : Int} (hv : Cg m v (a + b)) : ((x + c * a * F) % m + c * b * F) % m = (x + c * v * F) % m := by
  apply Cg.eq
  refine Cg.trans (Cg.add Cg.md Cg.rfl') ?_
  refine Cg.trans (b := x + c * (a + b) * F) ?_ (Cg.add Cg.rfl' (Cg.mul (Cg.mul Cg.rfl' hv.symm) Cg.rfl'))
  exact ⟨0, by grind⟩
theorem bor_v {m y a F : Int} (y0 : 0 ≤ y) (y1 : y < m) : ((y + 1 * a * F) % m + -1 * a * F) % m = y :=
  Cg.small (Cg.trans (Cg.add Cg.md Cg.rfl') ⟨0, by grind⟩) y0 y1
theorem prod_v {m x y a b c F v : Int} (hv : Cg m v (a * b)) : ((x + c * b * ((y + 1 * a * F) % m)) % m + -c * b * y) % m = (x + c * v * F) % m := by
  apply Cg.eq
  refine Cg.trans (Cg.add (Cg.trans Cg.md (Cg.add Cg.rfl' (Cg.mul Cg.rfl' Cg.md))) Cg.rfl') ?_
  refine Cg.trans (b := x + c * (a * b) * F) ?_ (Cg.add Cg.rfl' (Cg.mul (Cg.mul Cg.rfl' hv.symm) Cg.rfl'))
  exact ⟨0, by grind⟩
theorem cho_v {m x y a b l c F v : Int} (hv : Cg m v (l + a * (b - l))) : (((((x + c * l * F) % m + c * b * ((y + 1 * a * F) % m)) % m + -c * l * ((y + 1 * a * F) % m)) % m + -c * b * y) % m + c * l * y) % m = (x + c * v * F) % m := by
  apply Cg.eq
  refine Cg.trans (Cg.add (Cg.trans Cg.md (Cg.add (Cg.trans Cg.md (Cg.add (Cg.trans Cg.md (Cg.add Cg.md (Cg.mul Cg.rfl' Cg.md))) (Cg.mul Cg.rfl' Cg.md))) Cg.rfl')) Cg.rfl') ?_
  refine Cg.trans (b := x + c * (l + a * (b - l)) * F) ?_ (Cg.add Cg.rfl' (Cg.mul (Cg.mul Cg.rfl' hv.symm) Cg.rfl'))
  exact ⟨0, by grind⟩
theorem getD_set {xs : List Int} {i j : Nat} {z : Int} (hi : i < xs.length) : (xs.set i z).getD j 0 = if j = i then z else xs.getD j 0 := by
  rw [List.getD_eq_getElem?_getD, List.getD_eq_getElem?_getD, List.getElem?_set]
  by_cases e : i = j
  · subst e; rw [if_pos rfl, if_pos rfl, if_pos hi]; rfl
  · rw [if_neg e, if_neg (fun h => e h.symm)]
theorem mem_ext {xs ys : List Int} (hl : xs.length = ys.length) (h : ∀ i, i < xs.length → xs.getD i 0 = ys.getD i 0) : xs = ys := by
  apply List.ext_getElem hl
  intro i h1 h2
  have := h i h1
  rw [List.getD_eq_getElem?_getD, List.getD_eq_getElem?_getD, List.getElem?_eq_getElem h1, List.getElem?_eq_getElem h2] at this
  exact this
theorem tkF_len {m : Int} {vs mem : List Int} {k : Tk} : (tkF m vs mem k).length = mem.length := List.length_set ..
theorem tkF_get {m : Int} {vs mem : List Int} {k : Tk} {j : Nat} (h : k.t < mem.length) : (tkF m vs mem k).getD j 0 = if j = k.t then (mem.getD k.t 0 + k.c * vs.getD k.at_ 0 * fcV mem k.f) % m else mem.getD j 0 := getD_set h
theorem tksF_len {m : Int} {vs : List Int} : ∀ {ks : List Tk} {mem : List Int}, (tksF m vs ks mem).length = mem.length
  | [], _ => rfl
  | k :: ks, mem => (tksF_len (ks := ks) (mem := tkF m vs mem k)).trans tkF_len
theorem tkF_mem {m n : Nat} {vs mem : List Int} {k : Tk} (hm : 1 ≤ m) (h : Mem m n mem) : Mem m n (tkF m vs mem k) := h.set (Int.emod_nonneg _ (by omega)) (Int.emod_lt_of_pos _ (by omega))
/-- the parts of a node do what the node does -/
theorem parts_do {m : Nat} {vs mem : List Int} {n : SN} {base t : Nat} {c : Int} {f : Option Nat} (hm : 1 ≤ m) (hM : Mem m 3 mem) (ht : t < 3) (hf : ∀ g, f = some g → g < 3 ∧ g ≠ t)
    (hn : partsF t c f n ≠ []) (hv : Cg m (vs.getD base 0) (val1 [] vs n)) : tksF m vs (partsF t c f n) mem = tkF m vs mem ⟨base, t, c, f⟩ := by
  have hl := hM.len
  obtain ⟨b3, bt, bf⟩ := borF_ok ht hf
  have htl : t < mem.length := by omega
  have hbl : borF t f < mem.length := by omega
  have fk : ∀ (mm : List Int) (k : Tk), mm.length = 3 → (k.t = t ∨ k.t = borF t f) → (∀ g, f = some g → mm.getD g 0 = mem.getD g 0) → (∀ g, f = some g → (tkF m vs mm k).getD g 0 = mem.getD g 0) := fun mm k h3 hk h g hg => by
    rw [tkF_get (by omega)]
    have hgt := (hf g hg).2
    have hgb : g ≠ borF t f := fun e => bf (by rw [← e, hg])
    rw [if_neg (by rcases hk with hk | hk <;> rw [hk] <;> assumption)]
    exact h g hg
  have fv : ∀ mm : List Int, (∀ g, f = some g → mm.getD g 0 = mem.getD g 0) → fcV mm f = fcV mem f := fun mm h => by
    cases f with
    | none => rfl
    | some g => exact h g rfl
  have hy := hM.get b3
  obtain ⟨y, _, hy, y0, y1⟩ := hy
  refine mem_ext (by rw [tksF_len, tkF_len]) fun i hi => ?_
  rw [tksF_len] at hi
  rw [tkF_get htl]
  generalize hb : borF t f = b at *
  generalize hF : fcV mem f = F at *
  cases n with
  | con => exact absurd rfl hn
  | inp => exact absurd rfl hn
  | scl => exact absurd rfl hn
  | sum p q =>
    have hv : Cg m (vs.getD base 0) (vs.getD p 0 + vs.getD q 0) := hv
    show (tkF m vs (tkF m vs mem ⟨p, t, c, f⟩) ⟨q, t, c, f⟩).getD i 0 = _
    have f1 := fk mem ⟨p, t, c, f⟩ hl (.inl rfl) (fun _ _ => rfl)
    rw [tkF_get (by rw [tkF_len]; exact htl)]
    dsimp only
    by_cases e : i = t
    · rw [if_pos e, if_pos e, fv _ f1, tkF_get htl, if_pos rfl]
      dsimp only
      rw [hF]
      exact sum_v hv
    · rw [if_neg e, if_neg e, tkF_get htl, if_neg e]
  | prod p q =>
    have hv : Cg m (vs.getD base 0) (vs.getD p 0 * vs.getD q 0) := hv
    have e0 : partsF t c f (.prod p q) = [⟨p, b, 1, f⟩, ⟨q, t, c, some b⟩, ⟨p, b, -1, f⟩, ⟨q, t, -c, some b⟩] := by unfold partsF; rw [hb]
    rw [e0]
    show (tkF m vs (tkF m vs (tkF m vs (tkF m vs mem ⟨p, b, 1, f⟩) ⟨q, t, c, some b⟩) ⟨p, b, -1, f⟩) ⟨q, t, -c, some b⟩).getD i 0 = _
    have f1 := fk mem ⟨p, b, 1, f⟩ hl (.inr rfl) (fun _ _ => rfl)
    have g1 : ∀ j, (tkF m vs mem ⟨p, b, 1, f⟩).getD j 0 = if j = b then (y + 1 * vs.getD p 0 * F) % m else mem.getD j 0 := fun j => by rw [tkF_get (by exact hbl)]; simp only [hy, hF]
    have l1 : (tkF m vs mem ⟨p, b, 1, f⟩).length = 3 := by rw [tkF_len, hl]
    generalize tkF m vs mem ⟨p, b, 1, f⟩ = m1 at *
    have f2 := fk m1 ⟨q, t, c, some b⟩ l1 (.inl rfl) f1
    have g2 : ∀ j, (tkF m vs m1 ⟨q, t, c, some b⟩).getD j 0 = if j = t then (mem.getD t 0 + c * vs.getD q 0 * ((y + 1 * vs.getD p 0 * F) % m)) % m else m1.getD j 0 := fun j => by
      rw [tkF_get (by show t < _; omega)]
      simp only [fcV, g1, if_pos, if_neg (Ne.symm bt)]
    have l2 : (tkF m vs m1 ⟨q, t, c, some b⟩).length = 3 := by rw [tkF_len, l1]
    generalize tkF m vs m1 ⟨q, t, c, some b⟩ = m2 at *
    have f3 := fk m2 ⟨p, b, -1, f⟩ l2 (.inr rfl) f2
    have g3 : ∀ j, (tkF m vs m2 ⟨p, b, -1, f⟩).getD j 0 = if j = b then y else m2.getD j 0 := fun j => by
      rw [tkF_get (by show b < _; omega)]
      simp only [fv _ f2, hF, g2, g1, if_neg bt, if_pos]
      by_cases e : j = b
      · rw [if_pos e, if_pos e]; exact bor_v y0 y1
      · simp only [if_neg e]
    have l3 : (tkF m vs m2 ⟨p, b, -1, f⟩).length = 3 := by rw [tkF_len, l2]
    generalize tkF m vs m2 ⟨p, b, -1, f⟩ = m3 at *
    rw [tkF_get (by show t < _; omega)]
    simp only [fcV, g3, g2, g1, if_pos, if_neg (Ne.symm bt)]
    by_cases e : i = t
    · rw [if_pos e, if_pos e]; exact prod_v hv
    · by_cases e2 : i = b
      · simp only [if_neg e, if_pos e2]; rw [e2, hy]
      · simp only [if_neg e, if_neg e2]
  | cho p q l =>
    have hv : Cg m (vs.getD base 0) (vs.getD l 0 + vs.getD p 0 * (vs.getD q 0 - vs.getD l 0)) := hv
    have e0 : partsF t c f (.cho p q l) = [⟨l, t, c, f⟩, ⟨p, b, 1, f⟩, ⟨q, t, c, some b⟩, ⟨l, t, -c, some b⟩, ⟨p, b, -1, f⟩, ⟨q, t, -c, some b⟩, ⟨l, t, c, some b⟩] := by unfold partsF; rw [hb]
    rw [e0]
    show (tkF m vs (tkF m vs (tkF m vs (tkF m vs (tkF m vs (tkF m vs (tkF m vs mem ⟨l, t, c, f⟩) ⟨p, b, 1, f⟩) ⟨q, t, c, some b⟩) ⟨l, t, -c, some b⟩) ⟨p, b, -1, f⟩) ⟨q, t, -c, some b⟩) ⟨l, t, c, some b⟩).getD i 0 = _
    have f0 := fk mem ⟨l, t, c, f⟩ hl (.inl rfl) (fun _ _ => rfl)
    have g0 : ∀ j, (tkF m vs mem ⟨l, t, c, f⟩).getD j 0 = if j = t then (mem.getD t 0 + c * vs.getD l 0 * F) % m else mem.getD j 0 := fun j => by rw [tkF_get (by exact htl)]; simp only [hF]
    have l0 : (tkF m vs mem ⟨l, t, c, f⟩).length = 3 := by rw [tkF_len, hl]
    generalize tkF m vs mem ⟨l, t, c, f⟩ = m0 at *
    have f1 := fk m0 ⟨p, b, 1, f⟩ l0 (.inr rfl) f0
    have g1 : ∀ j, (tkF m vs m0 ⟨p, b, 1, f⟩).getD j 0 = if j = b then (y + 1 * vs.getD p 0 * F) % m else m0.getD j 0 := fun j => by
      rw [tkF_get (by show b < _; omega)]
      simp only [fv _ f0, hF, g0, if_neg bt, hy]
    have l1 : (tkF m vs m0 ⟨p, b, 1, f⟩).length = 3 := by rw [tkF_len, l0]
    generalize tkF m vs m0 ⟨p, b, 1, f⟩ = m1 at *
    have f2 := fk m1 ⟨q, t, c, some b⟩ l1 (.inl rfl) f1
    have g2 : ∀ j, (tkF m vs m1 ⟨q, t, c, some b⟩).getD j 0 = if j = t then ((mem.getD t 0 + c * vs.getD l 0 * F) % m + c * vs.getD q 0 * ((y + 1 * vs.getD p 0 * F) % m)) % m else m1.getD j 0 := fun j => by
      rw [tkF_get (by show t < _; omega)]
      simp only [fcV, g1, g0, if_pos, if_neg (Ne.symm bt)]
    have l2 : (tkF m vs m1 ⟨q, t, c, some b⟩).length = 3 := by rw [tkF_len, l1]
    generalize tkF m vs m1 ⟨q, t, c, some b⟩ = m2 at *
    have f3 := fk m2 ⟨l, t, -c, some b⟩ l2 (.inl rfl) f2
    have g3 : ∀ j, (tkF m vs m2 ⟨l, t, -c, some b⟩).getD j 0 = if j = t then (((mem.getD t 0 + c * vs.getD l 0 * F) % m + c * vs.getD q 0 * ((y + 1 * vs.getD p 0 * F) % m)) % m + -c * vs.getD l 0 * ((y + 1 * vs.getD p 0 * F) % m)) % m else m1.getD j 0 := fun j => by
      rw [tkF_get (by show t < _; omega)]
      simp only [fcV, g2, g1, if_pos, if_neg bt]
      by_cases e : j = t
      · rw [if_pos e, if_pos e]
      · rw [if_neg e, if_neg e, if_neg e]
    have l3 : (tkF m vs m2 ⟨l, t, -c, some b⟩).length = 3 := by rw [tkF_len, l2]
    generalize tkF m vs m2 ⟨l, t, -c, some b⟩ = m3 at *
    have f4 := fk m3 ⟨p, b, -1, f⟩ l3 (.inr rfl) f3
    have g4 : ∀ j, (tkF m vs m3 ⟨p, b, -1, f⟩).getD j 0 = if j = b then y else m3.getD j 0 := fun j => by
      rw [tkF_get (by show b < _; omega)]
      simp only [fv _ f3, hF, g3, g1, if_neg bt, if_pos]
      by_cases e : j = b
      · rw [if_pos e, if_pos e]; exact bor_v y0 y1
      · simp only [if_neg e]
    have l4 : (tkF m vs m3 ⟨p, b, -1, f⟩).length = 3 := by rw [tkF_len, l3]
    generalize tkF m vs m3 ⟨p, b, -1, f⟩ = m4 at *
    have g5 : ∀ j, (tkF m vs m4 ⟨q, t, -c, some b⟩).getD j 0 = if j = t then ((((mem.getD t 0 + c * vs.getD l 0 * F) % m + c * vs.getD q 0 * ((y + 1 * vs.getD p 0 * F) % m)) % m + -c * vs.getD l 0 * ((y + 1 * vs.getD p 0 * F) % m)) % m + -c * vs.getD q 0 * y) % m else m4.getD j 0 := fun j => by
      rw [tkF_get (by show t < _; omega)]
      simp only [fcV, g4, g3, if_pos, if_neg (Ne.symm bt)]
    have l5 : (tkF m vs m4 ⟨q, t, -c, some b⟩).length = 3 := by rw [tkF_len, l4]
    generalize tkF m vs m4 ⟨q, t, -c, some b⟩ = m5 at *
    rw [tkF_get (by show t < _; omega)]
    simp only [fcV, g5, g4, g3, g1, g0, if_pos, if_neg bt]
    by_cases e : i = t
    · rw [if_pos e, if_pos e]; exact cho_v hv
    · by_cases e2 : i = b
      · simp only [if_neg e, if_pos e2]; rw [e2, hy]
      · simp only [if_neg e, if_neg e2]
/-! ### nodes behind scaling, and the tasks that are left -/
theorem getD_take {α : Type} {xs : List α} {i j : Nat} {d : α} (h : j < i) : (xs.take i).getD j d = xs.getD j d := by
  rw [List.getD_eq_getElem?_getD, List.getD_eq_getElem?_getD, List.getElem?_take, if_pos h]
theorem scanF_get {α β : Type} {f : List β → α → β} {ns : List α} : ∀ {i : Nat} {n : α}, ns[i]? = some n → (scanF f ns)[i]? = some (f ((scanF f ns).take i) n) := by
  refine revRec (P := fun ns => ∀ {i : Nat} {n : α}, ns[i]? = some n → (scanF f ns)[i]? = some (f ((scanF f ns).take i) n)) (fun h => by simp at h) (fun ns n ih => ?_) ns
  intro i x h
  rw [scanF_snoc]
  have hl : (scanF f ns).length = ns.length := scanF_len
  by_cases hi : i < ns.length
  · rw [List.getElem?_append_left hi] at h
    rw [List.getElem?_append_left (by omega), ih h, List.take_append_of_le_length (by omega)]
  · have hi2 : i = ns.length := by
      have := (List.getElem?_eq_some_iff.mp h).1
      simp at this
      omega
    subst hi2
    rw [List.getElem?_append_right (Nat.le_refl _), Nat.sub_self] at h
    cases h
    rw [← hl, List.getElem?_append_right (Nat.le_refl _), Nat.sub_self, List.take_append_of_le_length (Nat.le_refl _), List.take_length]
    rfl
theorem scanF_getD {α β : Type} {f : List β → α → β} {ns : List α} {i : Nat} {n : α} {d : β} (h : ns[i]? = some n) : (scanF f ns).getD i d = f ((scanF f ns).take i) n := by
  rw [List.getD_eq_getElem?_getD, scanF_get h]; rfl
theorem costs_at {ns : List SN} (ok : SsOk ns) {i : Nat} {n : SN} (h : ns[i]? = some n) : (costsF ns).getD i 0 = cost1 (costsF ns) n := by
  have hn := ok.ok i n h
  unfold costsF
  rw [scanF_getD h]
  cases n with
  | con => rfl
  | inp => rfl
  | sum p q => show (_ : List Nat).getD p 0 + (_ : List Nat).getD q 0 = _; rw [getD_take hn.1, getD_take hn.2]; rfl
  | prod p q => show 2 * ((_ : List Nat).getD p 0 + (_ : List Nat).getD q 0) = _; rw [getD_take hn.1, getD_take hn.2]; rfl
  | scl c p => show (_ : List Nat).getD p 0 = _; rw [getD_take hn.2]; rfl
  | cho p q l => show (_ : List Nat).getD l 0 + 2 * ((_ : List Nat).getD p 0 + (_ : List Nat).getD q 0 + (_ : List Nat).getD l 0) = _; rw [getD_take hn.1, getD_take hn.2.1, getD_take hn.2.2]; rfl
theorem vals_at {m : Int} {gs : List Int} {ns : List SN} (ok : SsOk ns) {i : Nat} {n : SN} (h : ns[i]? = some n) : (valsF m gs ns).getD i 0 = val1 gs (valsF m gs ns) n % m := by
  have hn := ok.ok i n h
  unfold valsF
  rw [scanF_getD h]
  cases n with
  | con => rfl
  | inp => rfl
  | sum p q => show ((_ : List Int).getD p 0 + (_ : List Int).getD q 0) % m = _; rw [getD_take hn.1, getD_take hn.2]; rfl
  | prod p q => show ((_ : List Int).getD p 0 * (_ : List Int).getD q 0) % m = _; rw [getD_take hn.1, getD_take hn.2]; rfl
  | scl c p => show ((c : Int) * (_ : List Int).getD p 0) % m = _; rw [getD_take hn.2]; rfl
  | cho p q l => show ((_ : List Int).getD l 0 + (_ : List Int).getD p 0 * ((_ : List Int).getD q 0 - (_ : List Int).getD l 0)) % m = _; rw [getD_take hn.1, getD_take hn.2.1, getD_take hn.2.2]; rfl
theorem cost_pos {ns : List SN} (ok : SsOk ns) : ∀ {i : Nat}, i < ns.length → 1 ≤ (costsF ns).getD i 0 := by
  intro i
  induction i using Nat.strongRecOn with
  | ind i ih =>
    intro hi
    have h := List.getElem?_eq_getElem hi
    have hn := ok.ok i _ h
    rw [costs_at ok h]
    generalize ns[i] = n at *
    cases n with
    | con => exact Nat.le_refl 1
    | inp => exact Nat.le_refl 1
    | sum p q =>
      have := ih p hn.1 (by have := hn.1; omega)
      show 1 ≤ (costsF ns).getD p 0 + (costsF ns).getD q 0
      omega
    | prod p q =>
      have := ih p hn.1 (by have := hn.1; omega)
      show 1 ≤ 2 * ((costsF ns).getD p 0 + (costsF ns).getD q 0)
      omega
    | scl c p => exact ih p hn.2 (by have := hn.2; omega)
    | cho p q l =>
      have := ih l hn.2.2 (by have := hn.2.2; omega)
      show 1 ≤ (costsF ns).getD l 0 + 2 * ((costsF ns).getD p 0 + (costsF ns).getD q 0 + (costsF ns).getD l 0)
      omega
def base1 (m : Int) (bs : List (Nat × Int)) : SN → Nat × Int
  | .scl c i => ((bs.getD i (0, 0)).1, (bs.getD i (0, 0)).2 * (c : Int) % m)
  | _ => (bs.length, 1)
def basesF (m : Int) (ns : List SN) : List (Nat × Int) := scanF (base1 m) ns
def isScl : SN → Bool
  | .scl _ _ => true
  | _ => false
structure BasAt (m : Nat) (ns : List SN) (i b : Nat) (s : Int) (n : SN) : Prop where
  e : (basesF m ns).getD i (0, 0) = (b, s)
  le : b ≤ i
  nd : ns[b]? = some n
  nsc : isScl n = false
  s0 : 0 ≤ s
  s1 : s ≤ 1000000000
  co : (costsF ns).getD i 0 = cost1 (costsF ns) n
  va : ∀ gs, Cg m ((valsF m gs ns).getD i 0) (s * (valsF m gs ns).getD b 0)
theorem bases_at {m : Nat} {ns : List SN} (m1 : 1 ≤ m) (m9 : m ≤ 1000000000) (ok : SsOk ns) : ∀ {i : Nat}, i < ns.length → ∃ b s n, BasAt m ns i b s n := by
  intro i
  induction i using Nat.strongRecOn with
  | ind i ih =>
    intro hi
    have h := List.getElem?_eq_getElem hi
    have hn := ok.ok i _ h
    have hc := costs_at ok h
    have hv := fun gs => vals_at (m := m) (gs := gs) ok h
    have hb : (basesF m ns).getD i (0, 0) = base1 m ((basesF m ns).take i) ns[i] := scanF_getD h
    have hbl : ((basesF (m : Int) ns).take i).length = i := by
      rw [List.length_take]
      have : (basesF (m : Int) ns).length = ns.length := scanF_len
      omega
    have own : ∀ n, ns[i]? = some n → isScl n = false → (basesF (m : Int) ns).getD i (0, 0) = (i, 1) → (costsF ns).getD i 0 = cost1 (costsF ns) n → ∃ b s n, BasAt m ns i b s n := fun n h1 h2 h3 h4 =>
      ⟨i, 1, n, h3, Nat.le_refl _, h1, h2, by decide, by decide, h4, fun gs => by rw [Int.one_mul]; exact Cg.rfl'⟩
    generalize hne : ns[i] = n at *
    cases n with
    | con => exact own _ h rfl (by rw [hb]; show (_, _) = _; rw [hbl]) hc
    | inp => exact own _ h rfl (by rw [hb]; show (_, _) = _; rw [hbl]) hc
    | sum p q => exact own _ h rfl (by rw [hb]; show (_, _) = _; rw [hbl]) hc
    | prod p q => exact own _ h rfl (by rw [hb]; show (_, _) = _; rw [hbl]) hc
    | cho p q l => exact own _ h rfl (by rw [hb]; show (_, _) = _; rw [hbl]) hc
    | scl c p =>
      obtain ⟨b, s, n, hB⟩ := ih p hn.2 (by have := hn.2; omega)
      have hp := hn.2
      have e1 : (basesF (m : Int) ns).getD i (0, 0) = (b, s * (c : Int) % m) := by
        rw [hb]
        show ((((basesF (m : Int) ns).take i).getD p (0, 0)).1, (((basesF (m : Int) ns).take i).getD p (0, 0)).2 * (c : Int) % m) = _
        rw [getD_take hp, hB.e]
      have s9 := Int.emod_lt_of_pos (s * (c : Int)) (show (0 : Int) < m by omega)
      refine ⟨b, _, n, e1, by have := hB.le; omega, hB.nd, hB.nsc, Int.emod_nonneg _ (by omega), by omega, by rw [hc, ← hB.co]; rfl, fun gs => ?_⟩
      rw [hv gs]
      refine Cg.trans Cg.md ?_
      refine Cg.trans (b := (c : Int) * (s * (valsF m gs ns).getD b 0)) (Cg.mul Cg.rfl' (hB.va gs)) ?_
      refine Cg.trans (b := (s * (c : Int)) * (valsF m gs ns).getD b 0) ⟨0, by grind⟩ (Cg.mul Cg.md.symm Cg.rfl')
def facsF : Option Nat → List Fac
  | none => []
  | some g => [.cell g]
def isAdd : Stp → Bool
  | .add _ _ _ => true
  | _ => false
def tkCost (ns : List SN) (k : Tk) : Nat := (costsF ns).getD k.at_ 0
def tksCost (ns : List SN) (T : List Tk) : Nat := (T.map (tkCost ns)).sum
/-- the steps so far and the tasks that are left (the next one last) -/
structure Cmp (m : Nat) (ns : List SN) (i : Nat) (S : List Stp) (T : List Tk) : Prop where
  sok : ∀ s, s ∈ S → StpOk m 3 i s ∧ isAdd s = true
  tok : ∀ k, k ∈ T → TkOk ns.length k
  len : S.length + tksCost ns T = costF ns
  eff : ∀ gs mem, Mem m i gs → Mem m 3 mem → tksF m (valsF m gs ns) T.reverse (runF m gs S mem) = mem.set 0 ((mem.getD 0 0 + valF m gs ns) % m)
theorem tksCost_app {ns : List SN} {T U : List Tk} : tksCost ns (T ++ U) = tksCost ns T + tksCost ns U := by
  unfold tksCost; rw [List.map_append, List.sum_append]
theorem tksCost_rev {ns : List SN} {T : List Tk} : tksCost ns T.reverse = tksCost ns T := by
  induction T with
  | nil => rfl
  | cons k T ih => rw [List.reverse_cons, tksCost_app, ih]; show _ + (tkCost ns k + 0) = tkCost ns k + tksCost ns T; omega
theorem Cmp.init {m i : Nat} {ns : List SN} (ok : SsOk ns) : Cmp m ns i [] [⟨ns.length - 1, 0, 1, none⟩] where
  sok := fun s h => by simp at h
  tok := fun k h => by
    rw [List.mem_singleton.mp h]
    exact ⟨(by have := ok.l1; show ns.length - 1 < ns.length; omega), (by show 0 < 3; decide), (fun g hg => by cases hg), (by show (-1000000000 : Int) ≤ 1; decide), (by show (1 : Int) ≤ 1000000000; decide)⟩
  len := by show 0 + (tkCost ns _ + 0) = _; rw [Nat.zero_add]; rfl
  eff := fun gs mem _ hM => by
    show mem.set 0 ((mem.getD 0 0 + 1 * (valsF m gs ns).getD (ns.length - 1) 0 * 1) % m) = _
    rw [Int.one_mul, Int.mul_one]; rfl
theorem Cmp.pop {m i : Nat} {ns : List SN} {S : List Stp} {T : List Tk} {k : Tk} (h : Cmp m ns i S (T ++ [k])) : TkOk ns.length k ∧ S.length + tksCost ns T + tkCost ns k = costF ns := by
  refine ⟨h.tok k (List.mem_append_right _ List.mem_cons_self), ?_⟩
  have := h.len
  rw [tksCost_app] at this
  have e : tksCost ns [k] = tkCost ns k := by show _ + 0 = _; omega
  omega
theorem rev_snoc {T : List Tk} {k : Tk} : (T ++ [k]).reverse = k :: T.reverse := by rw [List.reverse_append]; rfl
theorem coef_ok {m : Nat} {c : Int} (m1 : 1 ≤ m) : 0 ≤ c % m ∧ c % m < m := ⟨Int.emod_nonneg _ (by omega), Int.emod_lt_of_pos _ (by omega)⟩
/-- a task by the node behind scaling -/
theorem base_do {m : Nat} {ns : List SN} {gs mem : List Int} {k : Tk} {b : Nat} {s : Int} {n : SN} (hB : BasAt m ns k.at_ b s n) :
    tkF m (valsF m gs ns) mem k = tkF m (valsF m gs ns) mem ⟨b, k.t, k.c * s % m, k.f⟩ := by
  unfold tkF
  dsimp only
  congr 1
  apply Cg.eq
  refine Cg.add Cg.rfl' (Cg.mul ?_ Cg.rfl')
  refine Cg.trans (Cg.mul Cg.rfl' (hB.va gs)) ?_
  refine Cg.trans (b := k.c * s * (valsF m gs ns).getD b 0) ⟨0, by grind⟩ (Cg.mul (Cg.md (a := k.c * s)).symm Cg.rfl')
theorem facs_v {mem inp : List Int} {f : Option Nat} : prodV mem inp (facsF f) = fcV mem f := by
  cases f with
  | none => rfl
  | some g => show mem.getD g 0 * 1 = mem.getD g 0; rw [Int.mul_one]
theorem facs_v2 {mem inp : List Int} {f : Option Nat} {k : Nat} : prodV mem inp (facsF f ++ [.inp k]) = fcV mem f * inp.getD k 0 := by
  cases f with
  | none => show inp.getD k 0 * 1 = 1 * inp.getD k 0; rw [Int.mul_one, Int.one_mul]
  | some g => show mem.getD g 0 * (inp.getD k 0 * 1) = mem.getD g 0 * inp.getD k 0; rw [Int.mul_one]
theorem facs_ok {n i : Nat} {k : Tk} (h : TkOk n k) : ∀ f, f ∈ facsF k.f → FacOk 3 i k.t f := fun f hf => by
  cases hk : k.f with
  | none => rw [hk] at hf; simp [facsF] at hf
  | some g =>
    rw [hk] at hf
    have : f = .cell g := by simpa [facsF] using hf
    rw [this]
    exact h.f3 g hk
theorem facs_len {f : Option Nat} : (facsF f).length ≤ 1 := by cases f <;> simp [facsF]
theorem Cmp.con {m i : Nat} {ns : List SN} {S : List Stp} {T : List Tk} {k : Tk} {b c : Nat} {s : Int} (m1 : 1 ≤ m) (ok : SsOk ns) (h : Cmp m ns i S (T ++ [k])) (hB : BasAt m ns k.at_ b s (.con c)) :
    Cmp m ns i (S ++ [.add k.t (k.c * s % m * (c : Int) % m) (facsF k.f)]) T := by
  obtain ⟨hk, hlen⟩ := h.pop
  refine ⟨fun x hx => ?_, fun x hx => h.tok x (List.mem_append_left _ hx), ?_, fun gs mem hg hM => ?_⟩
  · rcases List.mem_append.mp hx with hx | hx
    · exact h.sok x hx
    · rw [List.mem_singleton.mp hx]
      exact ⟨⟨hk.t3, (coef_ok m1).1, (coef_ok m1).2, Nat.le_trans facs_len (by decide), facs_ok hk⟩, rfl⟩
  · have e : tkCost ns k = 1 := hB.co
    rw [List.length_append]
    show S.length + 1 + _ = _
    omega
  · have e := h.eff gs mem hg hM
    rw [rev_snoc] at e
    rw [← e, runF_snoc]
    show _ = tksF m (valsF m gs ns) T.reverse (tkF m (valsF m gs ns) (runF m gs S mem) k)
    congr 1
    rw [base_do hB]
    have hv : (valsF m gs ns).getD b 0 = (c : Int) % m := vals_at ok hB.nd
    unfold tkF
    dsimp only [stepF]
    congr 1
    rw [hv, facs_v]
    apply Cg.eq
    refine Cg.add Cg.rfl' (Cg.mul ?_ Cg.rfl')
    exact Cg.trans Cg.md (Cg.mul Cg.rfl' Cg.md.symm)
theorem Cmp.inp {m i : Nat} {ns : List SN} {S : List Stp} {T : List Tk} {k : Tk} {b c : Nat} {s : Int} (m1 : 1 ≤ m) (ok : SsOk ns) (hi : ∀ (j : Nat) (c : Nat), ns[j]? = some (SN.inp c) → c < i) (h : Cmp m ns i S (T ++ [k])) (hB : BasAt m ns k.at_ b s (.inp c)) :
    Cmp m ns i (S ++ [.add k.t (k.c * s % m) (facsF k.f ++ [.inp c])]) T := by
  obtain ⟨hk, hlen⟩ := h.pop
  refine ⟨fun x hx => ?_, fun x hx => h.tok x (List.mem_append_left _ hx), ?_, fun gs mem hg hM => ?_⟩
  · rcases List.mem_append.mp hx with hx | hx
    · exact h.sok x hx
    · rw [List.mem_singleton.mp hx]
      refine ⟨⟨hk.t3, (coef_ok m1).1, (coef_ok m1).2, ?_, fun f hf => ?_⟩, rfl⟩
      · rw [List.length_append]
        have := facs_len (f := k.f)
        show _ + 1 ≤ 3
        omega
      · rcases List.mem_append.mp hf with hf | hf
        · exact facs_ok hk f hf
        · rw [List.mem_singleton.mp hf]
          exact hi b c hB.nd
  · have e : tkCost ns k = 1 := hB.co
    rw [List.length_append]
    show S.length + 1 + _ = _
    omega
  · have e := h.eff gs mem hg hM
    rw [rev_snoc] at e
    rw [← e, runF_snoc]
    show _ = tksF m (valsF m gs ns) T.reverse (tkF m (valsF m gs ns) (runF m gs S mem) k)
    congr 1
    rw [base_do hB]
    have hv : (valsF m gs ns).getD b 0 = gs.getD c 0 % m := vals_at ok hB.nd
    unfold tkF
    dsimp only [stepF]
    congr 1
    rw [hv, facs_v2]
    apply Cg.eq
    refine Cg.add Cg.rfl' ?_
    refine Cg.trans (b := k.c * s % m * (gs.getD c 0) * fcV (runF m gs S mem) k.f) ⟨0, by grind⟩ (Cg.mul (Cg.mul Cg.rfl' Cg.md.symm) Cg.rfl')
theorem parts_ok {ns : List SN} (ok : SsOk ns) {b : Nat} {n : SN} (hb : ns[b]? = some n) {t : Nat} {c : Int} {f : Option Nat} (ht : t < 3) (hf : ∀ g, f = some g → g < 3 ∧ g ≠ t) (c0 : 0 ≤ c) (c1 : c < 1000000000) : ∀ k, k ∈ partsF t c f n → TkOk ns.length k := by
  have hn := ok.ok b n hb
  have hbl := (List.getElem?_eq_some_iff.mp hb).1
  obtain ⟨b3, bt, bf⟩ := borF_ok ht hf
  have A : ∀ p d, p < b → -1000000000 ≤ d → d ≤ 1000000000 → TkOk ns.length ⟨p, t, d, f⟩ := fun p d h1 h2 h3 => ⟨by show p < _; omega, ht, hf, h2, h3⟩
  have B : ∀ p d, p < b → -1000000000 ≤ d → d ≤ 1000000000 → TkOk ns.length ⟨p, borF t f, d, f⟩ := fun p d h1 h2 h3 => ⟨by show p < _; omega, b3, fun g hg => ⟨(hf g hg).1, fun e => bf (by have e : g = borF t f := e; have hg : f = some g := hg; rw [← e, ← hg])⟩, h2, h3⟩
  have D : ∀ p d, p < b → -1000000000 ≤ d → d ≤ 1000000000 → TkOk ns.length ⟨p, t, d, some (borF t f)⟩ := fun p d h1 h2 h3 => ⟨by show p < _; omega, ht, fun g hg => by cases hg; exact ⟨b3, bt⟩, h2, h3⟩
  intro k hk
  cases n with
  | con => simp [partsF] at hk
  | inp => simp [partsF] at hk
  | scl => simp [partsF] at hk
  | sum p q =>
    have hk : k = ⟨p, t, c, f⟩ ∨ k = ⟨q, t, c, f⟩ := by simpa [partsF] using hk
    rcases hk with rfl | rfl
    · exact A _ _ hn.1 (by omega) (by omega)
    · exact A _ _ hn.2 (by omega) (by omega)
  | prod p q =>
    have hk : k = ⟨p, borF t f, 1, f⟩ ∨ k = ⟨q, t, c, some (borF t f)⟩ ∨ k = ⟨p, borF t f, -1, f⟩ ∨ k = ⟨q, t, -c, some (borF t f)⟩ := by simpa [partsF] using hk
    rcases hk with rfl | rfl | rfl | rfl
    · exact B _ _ hn.1 (by omega) (by omega)
    · exact D _ _ hn.2 (by omega) (by omega)
    · exact B _ _ hn.1 (by omega) (by omega)
    · exact D _ _ hn.2 (by omega) (by omega)
  | cho p q l =>
    have hk : k = ⟨l, t, c, f⟩ ∨ k = ⟨p, borF t f, 1, f⟩ ∨ k = ⟨q, t, c, some (borF t f)⟩ ∨ k = ⟨l, t, -c, some (borF t f)⟩ ∨ k = ⟨p, borF t f, -1, f⟩ ∨ k = ⟨q, t, -c, some (borF t f)⟩ ∨ k = ⟨l, t, c, some (borF t f)⟩ := by simpa [partsF] using hk
    rcases hk with rfl | rfl | rfl | rfl | rfl | rfl | rfl
    · exact A _ _ hn.2.2 (by omega) (by omega)
    · exact B _ _ hn.1 (by omega) (by omega)
    · exact D _ _ hn.2.1 (by omega) (by omega)
    · exact D _ _ hn.2.2 (by omega) (by omega)
    · exact B _ _ hn.1 (by omega) (by omega)
    · exact D _ _ hn.2.1 (by omega) (by omega)
    · exact D _ _ hn.2.2 (by omega) (by omega)
def isLeaf : SN → Bool
  | .con _ => true
  | .inp _ => true
  | _ => false
theorem parts_cost {ns : List SN} {n : SN} {t : Nat} {c : Int} {f : Option Nat} (h1 : isScl n = false) (h2 : isLeaf n = false) : tksCost ns (partsF t c f n) = cost1 (costsF ns) n ∧ 2 ≤ (partsF t c f n).length ∧ (partsF t c f n).length ≤ 7 := by
  cases n with
  | con => cases h2
  | inp => cases h2
  | scl => cases h1
  | sum p q => exact ⟨by simp [partsF, tksCost, tkCost, cost1], Nat.le_refl 2, by show 2 ≤ 7; decide⟩
  | prod p q => exact ⟨by simp [partsF, tksCost, tkCost, cost1]; omega, by show 2 ≤ 4; decide, by show 4 ≤ 7; decide⟩
  | cho p q l => exact ⟨by simp [partsF, tksCost, tkCost, cost1]; omega, by show 2 ≤ 7; decide, Nat.le_refl 7⟩
theorem Cmp.node {m i : Nat} {ns : List SN} {S : List Stp} {T : List Tk} {k : Tk} {b : Nat} {s : Int} {n : SN} (m1 : 1 ≤ m) (m9 : m ≤ 1000000000) (ok : SsOk ns) (h : Cmp m ns i S (T ++ [k])) (hB : BasAt m ns k.at_ b s n) (hn : isLeaf n = false) :
    Cmp m ns i S (T ++ (partsF k.t (k.c * s % m) k.f n).reverse) := by
  obtain ⟨hk, hlen⟩ := h.pop
  obtain ⟨pc, p2, _⟩ := parts_cost (ns := ns) (t := k.t) (c := k.c * s % m) (f := k.f) hB.nsc hn
  have cc := coef_ok (c := k.c * s) m1
  have po := parts_ok ok hB.nd (c := k.c * s % m) hk.t3 hk.f3 cc.1 (by omega)
  refine ⟨h.sok, fun x hx => ?_, ?_, fun gs mem hg hM => ?_⟩
  · rcases List.mem_append.mp hx with hx | hx
    · exact h.tok x (List.mem_append_left _ hx)
    · exact po x (List.mem_reverse.mp hx)
  · have e : tkCost ns k = cost1 (costsF ns) n := hB.co
    rw [tksCost_app, tksCost_rev, pc]
    omega
  · have e := h.eff gs mem hg hM
    rw [rev_snoc] at e
    rw [← e, List.reverse_append, List.reverse_reverse, tksF_app]
    show _ = tksF m (valsF m gs ns) T.reverse (tkF m (valsF m gs ns) (runF m gs S mem) k)
    congr 1
    rw [base_do hB]
    have hrun : Mem m 3 (runF m gs S mem) := runF_mem m1 hM fun s hs => (h.sok s hs).1
    refine parts_do m1 hrun hk.t3 hk.f3 (fun e => by rw [e] at p2; simp at p2) ?_
    rw [vals_at ok hB.nd]
    refine Cg.trans Cg.md ?_
    cases n with
    | con => cases hn
    | inp => cases hn
    | _ => exact Cg.rfl'
/-- what a compiled program is -/
structure CompOk (m : Nat) (ns : List SN) (i : Nat) (S : List Stp) : Prop where
  len : S.length = costF ns
  ok : ∀ s, s ∈ S → StpOk m 3 i s
  add : ∀ s, s ∈ S → isAdd s = true
  eff : ∀ gs mem, Mem m i gs → Mem m 3 mem → runF m gs S mem = mem.set 0 ((mem.getD 0 0 + valF m gs ns) % m)
theorem Cmp.done {m i : Nat} {ns : List SN} {S : List Stp} (h : Cmp m ns i S []) : CompOk m ns i S :=
  ⟨by have := h.len; have e : tksCost ns [] = 0 := rfl; omega, fun s hs => (h.sok s hs).1, fun s hs => (h.sok s hs).2, fun gs mem hg hM => h.eff gs mem hg hM⟩
/-- how long it still takes -/
def tksM (ns : List SN) (T : List Tk) : Nat := 2 * tksCost ns T - T.length
theorem tks_len {ns : List SN} (ok : SsOk ns) : ∀ {T : List Tk}, (∀ k, k ∈ T → TkOk ns.length k) → T.length ≤ tksCost ns T
  | [], _ => Nat.le_refl _
  | k :: T, h => by
    have h1 := tks_len ok (T := T) fun x hx => h x (List.mem_cons_of_mem _ hx)
    have h2 := cost_pos ok (h k List.mem_cons_self).lt
    show T.length + 1 ≤ (costsF ns).getD k.at_ 0 + tksCost ns T
    omega
theorem tksM_pop {m i : Nat} {ns : List SN} {S : List Stp} {T : List Tk} {k : Tk} (ok : SsOk ns) (h : Cmp m ns i S (T ++ [k])) : tksM ns T < tksM ns (T ++ [k]) := by
  have h1 := tks_len ok (T := T) fun x hx => h.tok x (List.mem_append_left _ hx)
  have h2 := cost_pos ok h.pop.1.lt
  unfold tksM
  rw [tksCost_app, List.length_append]
  have e : tksCost ns [k] = (costsF ns).getD k.at_ 0 := by show _ + 0 = _; rfl
  show _ < 2 * (tksCost ns T + tksCost ns [k]) - (T.length + 1)
  omega
theorem tksM_node {m i : Nat} {ns : List SN} {S : List Stp} {T : List Tk} {k : Tk} {b : Nat} {s : Int} {n : SN} (ok : SsOk ns) (h : Cmp m ns i S (T ++ [k])) (hB : BasAt m ns k.at_ b s n) (hn : isLeaf n = false) :
    tksM ns (T ++ (partsF k.t (k.c * s % m) k.f n).reverse) < tksM ns (T ++ [k]) := by
  have h1 := tks_len ok (T := T) fun x hx => h.tok x (List.mem_append_left _ hx)
  obtain ⟨pc, p2, p7⟩ := parts_cost (ns := ns) (t := k.t) (c := k.c * s % m) (f := k.f) hB.nsc hn
  have e : tksCost ns [k] = cost1 (costsF ns) n := by show _ + 0 = _; rw [Nat.add_zero]; exact hB.co
  have h2 := cost_pos ok h.pop.1.lt
  have h3 : tkCost ns k = cost1 (costsF ns) n := hB.co
  unfold tksM
  rw [tksCost_app, tksCost_app, tksCost_rev, pc, e, List.length_append, List.length_append, List.length_reverse]
  show 2 * _ - (T.length + _) < 2 * _ - (T.length + 1)
  unfold tkCost at h3
  omega
theorem Cmp.most {m i : Nat} {ns : List SN} {S : List Stp} {T : List Tk} (ok : SsOk ns) (h : Cmp m ns i S T) : S.length + T.length ≤ costF ns ∧ tksM ns T ≤ 2 * costF ns := by
  have h1 := tks_len ok h.tok
  have h2 := h.len
  unfold tksM
  omega
end Br

/-! ### not in, a tuple of data; tasks as tuples -/
namespace L2
open PySem PySem.Spec PyProof.Rows
section
variable {X : Cx}
def rNotInT (K : PySem.W.Frag) : R2 := fun x y H Q => ∃ d ds, Dp K H x d ∧ Dp K H y (.tuple ds) ∧ (d.canLay0 = true ∧ d.depth ≤ 60) ∧ PyData.canLayAll0 ds = true ∧ Q (.bl (!ds.any fun z => PyData.eqv z d)) H
theorem op_notInT (hu : X.A.units + 64 < cLine) : OpR X (compareOp .NotIn) (rNotInT X.K) := by
  intro pins s σ H x y v u Q I rx ry h
  obtain ⟨d, ds, hd, he, ⟨sd, sd2⟩, se, q⟩ := h
  obtain ⟨as, r1⟩ := Dp.reads I d x v hd rx
  obtain ⟨bs, r2⟩ := Dp.reads I (.tuple ds) y u he ry
  exact SeqAt.notIn_tuple_reads r2 r1 se sd (by omega) ⟨.bl _, H, I, rfl, q⟩
end
end L2
namespace Br
open PySem PySem.Spec PyProof.Rows L2 Br.F
def FcAt (H : Hp) (a : Addr) : Option Nat → Prop
  | none => H a = some (.tup [])
  | some g => ∃ b, H a = some (.tup [.ref b]) ∧ H b = some (.tup [.str "cell", .int (g : Int)])
theorem FcAt.tups {H H' : Hp} {a : Addr} {f : Option Nat} (h : FcAt H a f) (s : Tups H H') : FcAt H' a f := by
  cases f with
  | none => exact s _ _ h
  | some g =>
    obtain ⟨b, h1, h2⟩ := h
    exact ⟨b, s _ _ h1, s _ _ h2⟩
def fcD : Option Nat → List PyData
  | none => []
  | some g => [.tuple [.str "cell", .int (g : Int)]]
theorem cellD_sh {m : Nat} {i : Int} : ShN (m + 1) (.tuple [.str "cell", .int i]) := ShN.tup (sh_cons (ShN.str (by decide +kernel)) (sh_cons .int sh_nil))
theorem fcD_sh {f : Option Nat} {m : Nat} : ShN (m + 2) (.tuple (fcD f)) := by
  cases f with
  | none => exact ShN.tup sh_nil
  | some g => exact ShN.tup (sh_cons cellD_sh sh_nil)
theorem FcAt.dat {d : Addr} {H : Hp} {a : Addr} {f : Option Nat} (h : FcAt H a f) : DAt d H (.ref a) (.tuple (fcD f)) := by
  cases f with
  | none => exact .tup h .nil
  | some g =>
    obtain ⟨b, h1, h2⟩ := h
    exact .tup h1 (.cons (.tup h2 (.cons (.str _) (.cons (.int _) .nil))) .nil)
theorem fcD_in {f : Option Nat} {i : Nat} : ((fcD f).any fun z => PyData.eqv z (.tuple [.str "cell", .int (i : Int)])) = decide (f = some i) := by
  cases f with
  | none => rfl
  | some g =>
    show (PyData.eqv (.tuple [.str "cell", .int (g : Int)]) (.tuple [.str "cell", .int (i : Int)]) || false) = _
    rw [Bool.or_false]
    by_cases e : g = i
    · subst e
      rw [decide_eq_true rfl]
      simp [PyData.eqv, PyData.eqvAll]
    · rw [decide_eq_false (fun h => e (Option.some.inj h))]
      simp [PyData.eqv, PyData.eqvAll]
      omega
def TkAt (H : Hp) (a : Addr) (k : Tk) : Prop := ∃ f, H a = some (.tup [.int (k.at_ : Int), .int (k.t : Int), .int k.c, .ref f]) ∧ FcAt H f k.f
theorem TkAt.tups {H H' : Hp} {a : Addr} {k : Tk} (h : TkAt H a k) (s : Tups H H') : TkAt H' a k := by
  obtain ⟨f, h1, h2⟩ := h
  exact ⟨f, s _ _ h1, h2.tups s⟩
def TksAt (H : Hp) (as : List Addr) (ts : List Tk) : Prop := as.length = ts.length ∧ ∀ (i : Nat) x b, ts[i]? = some x → as[i]? = some b → TkAt H b x
theorem TksAt.tups {H H' : Hp} {as : List Addr} {ts : List Tk} (h : TksAt H as ts) (s : Tups H H') : TksAt H' as ts := ⟨h.1, fun i x b e1 e2 => (h.2 i x b e1 e2).tups s⟩
theorem TksAt.nil {H : Hp} : TksAt H [] [] := ⟨rfl, fun i x b h _ => by simp at h⟩
theorem TksAt.cons {H : Hp} {as : List Addr} {ts : List Tk} {b : Addr} {x : Tk} (hx : TkAt H b x) (h : TksAt H as ts) : TksAt H (b :: as) (x :: ts) := by
  refine ⟨congrArg (· + 1) h.1, fun i y c e1 e2 => ?_⟩
  cases i with
  | zero => cases e1; cases e2; exact hx
  | succ i => exact h.2 i y c (by simpa using e1) (by simpa using e2)
theorem TksAt.app {H : Hp} : ∀ {as bs : List Addr} {ts us : List Tk}, TksAt H as ts → TksAt H bs us → TksAt H (as ++ bs) (ts ++ us)
  | [], _, [], _, _, h => h
  | [], _, t :: ts, _, h, _ => by have := h.1; simp at this
  | a :: as, _, [], _, h, _ => by have := h.1; simp at this
  | a :: as, _, t :: ts, _, h, h2 => by
    refine TksAt.cons (h.2 0 t a rfl rfl) (TksAt.app ⟨by have := h.1; simpa using this, fun i x b e1 e2 => h.2 (i + 1) x b (by simpa using e1) (by simpa using e2)⟩ h2)
theorem TksAt.rev {H : Hp} : ∀ {as : List Addr} {ts : List Tk}, TksAt H as ts → TksAt H as.reverse ts.reverse
  | [], [], h => h
  | [], t :: ts, h => by have := h.1; simp at this
  | a :: as, [], h => by have := h.1; simp at this
  | a :: as, t :: ts, h => by
    rw [List.reverse_cons, List.reverse_cons]
    exact TksAt.app (TksAt.rev ⟨by have := h.1; simpa using this, fun i x b e1 e2 => h.2 (i + 1) x b (by simpa using e1) (by simpa using e2)⟩) (TksAt.cons (h.2 0 t a rfl rfl) TksAt.nil)
/-- the last one -/
theorem TksAt.last {H : Hp} {as : List Addr} {ts : List Tk} (h : TksAt H as ts) (hn : as ≠ []) : ∃ bs us b k, as = bs ++ [b] ∧ ts = us ++ [k] ∧ TksAt H bs us ∧ TkAt H b k := by
  have hl := h.1
  have ht : ts ≠ [] := fun e => by rw [e] at hl; exact hn (List.eq_nil_of_length_eq_zero hl)
  refine ⟨as.dropLast, ts.dropLast, as.getLast hn, ts.getLast ht, (List.dropLast_concat_getLast hn).symm, (List.dropLast_concat_getLast ht).symm, ⟨by rw [List.length_dropLast, List.length_dropLast, hl], fun i x b e1 e2 => ?_⟩, ?_⟩
  · have h1 := (List.getElem?_eq_some_iff.mp e1).1
    have h2 := (List.getElem?_eq_some_iff.mp e2).1
    rw [List.length_dropLast] at h1 h2
    rw [List.getElem?_dropLast] at e1 e2
    rw [if_pos (by omega)] at e1 e2
    exact h.2 i x b e1 e2
  · refine h.2 (as.length - 1) _ _ ?_ ?_
    · rw [hl, List.getLast_eq_getElem]
      exact List.getElem?_eq_getElem _
    · rw [List.getLast_eq_getElem]
      exact List.getElem?_eq_getElem _
theorem tk_put {H0 H : Hp} {as : List Addr} {ts : List Tk} {p f : Addr} {i t : Nat} {c : Int} {g : Option Nat} (s : Same H0 H) (hT : TksAt H as ts) (hp : H p = none) (hf : FcAt H f g) :
    Same H0 (upd H p (.tup [.int (i : Int), .int (t : Int), .int c, .ref f])) ∧ TksAt (upd H p (.tup [.int (i : Int), .int (t : Int), .int c, .ref f])) (as ++ [p]) (ts ++ [⟨i, t, c, g⟩]) := by
  have s1 := same_upd (o := .tup [.int (i : Int), .int (t : Int), .int c, .ref f]) hp
  exact ⟨s.trans s1, (hT.tups (Tups.same s1)).app (TksAt.cons ⟨f, upd_same, hf.tups (Tups.same s1)⟩ TksAt.nil)⟩
def BasL (H : Hp) (as : List Addr) (bs : List (Nat × Int)) : Prop := as.length = bs.length ∧ ∀ (i : Nat) x b, bs[i]? = some x → as[i]? = some b → H b = some (.tup [.int (x.1 : Int), .int x.2])
theorem BasL.tups {H H' : Hp} {as : List Addr} {bs : List (Nat × Int)} (h : BasL H as bs) (s : Tups H H') : BasL H' as bs := ⟨h.1, fun i x b e1 e2 => s _ _ (h.2 i x b e1 e2)⟩
theorem BasL.nil {H : Hp} : BasL H [] [] := ⟨rfl, fun i x b h _ => by simp at h⟩
theorem BasL.snoc {H : Hp} {as : List Addr} {bs : List (Nat × Int)} {b : Addr} {x : Nat × Int} (h : BasL H as bs) (hx : H b = some (.tup [.int (x.1 : Int), .int x.2])) : BasL H (as ++ [b]) (bs ++ [x]) := by
  refine ⟨by rw [List.length_append, List.length_append, h.1]; rfl, fun i y c e1 e2 => ?_⟩
  rcases snoc_at rfl e1 with ⟨h1, e1⟩ | ⟨h1, rfl⟩
  · rcases snoc_at rfl e2 with ⟨h2, e2⟩ | ⟨h2, rfl⟩
    · exact h.2 i y c e1 e2
    · have := h.1; omega
  · rcases snoc_at rfl e2 with ⟨h2, e2⟩ | ⟨h2, rfl⟩
    · have := h.1; omega
    · exact hx
theorem BasL.get {H : Hp} {as : List Addr} {bs : List (Nat × Int)} (h : BasL H as bs) {i : Nat} (hi : i < bs.length) : ∃ b, as[i]? = some b ∧ H b = some (.tup [.int (((bs.getD i (0, 0)).1 : Nat) : Int), .int (bs.getD i (0, 0)).2]) := by
  have ha : i < as.length := by rw [h.1]; exact hi
  refine ⟨as[i], List.getElem?_eq_getElem ha, ?_⟩
  rw [List.getD_eq_getElem?_getD, List.getElem?_eq_getElem hi]
  exact h.2 i _ _ (List.getElem?_eq_getElem hi) (List.getElem?_eq_getElem ha)
theorem x_gTup4 {K : PySem.W.Frag} {σ : L2.St} {H : Hp} {p : Addr} {x y z u : V} {i j k l : Nat} {R : L2.St → Hp → Prop} (hp : SqT K H p [x, y, z, u]) (h : R ((((σ.set i (some x)).set j (some y)).set k (some z)).set l (some u)) H) : gTup K 4 (gCons (gName i) (gCons (gName j) (gCons (gName k) (gCons (gName l) gNil)))) (.ref p) σ H R :=
  ⟨p, [x, y, z, u], rfl, hp, rfl, x, [y, z, u], rfl, y, [z, u], rfl, z, [u], rfl, u, [], rfl, rfl, h⟩
def FacsAt (H : Hp) (as : List Addr) (fs : List Fac) : Prop := as.length = fs.length ∧ ∀ (i : Nat) x b, fs[i]? = some x → as[i]? = some b → FacAt H b x
theorem FacsAt.tups {H H' : Hp} {as : List Addr} {fs : List Fac} (h : FacsAt H as fs) (s : Tups H H') : FacsAt H' as fs := ⟨h.1, fun i x b e1 e2 => (h.2 i x b e1 e2).tups s⟩
theorem FacsAt.snoc {H : Hp} {as : List Addr} {bs : List Fac} {b : Addr} {x : Fac} (h : FacsAt H as bs) (hx : FacAt H b x) : FacsAt H (as ++ [b]) (bs ++ [x]) := by
  refine ⟨by rw [List.length_append, List.length_append, h.1]; rfl, fun i y c e1 e2 => ?_⟩
  rcases snoc_at rfl e1 with ⟨h1, e1⟩ | ⟨h1, rfl⟩
  · rcases snoc_at rfl e2 with ⟨h2, e2⟩ | ⟨h2, rfl⟩
    · exact h.2 i y c e1 e2
    · have := h.1; omega
  · rcases snoc_at rfl e2 with ⟨h2, e2⟩ | ⟨h2, rfl⟩
    · have := h.1; omega
    · exact hx
theorem FcAt.facs {H : Hp} {a : Addr} {f : Option Nat} (h : FcAt H a f) : ∃ as : List Addr, H a = some (.tup (as.map V.ref)) ∧ FacsAt H as (facsF f) ∧ as.length ≤ 1 := by
  cases f with
  | none => exact ⟨[], h, ⟨rfl, fun i x b e _ => by simp [facsF] at e⟩, by decide⟩
  | some g =>
    obtain ⟨b, h1, h2⟩ := h
    exact ⟨[b], h1, FacsAt.snoc (as := []) (bs := []) ⟨rfl, fun i x b e _ => by simp at e⟩ h2, Nat.le_refl 1⟩
theorem FacsAt.stp {H : Hp} {a f : Addr} {as : List Addr} {fs : List Fac} {t : Nat} {c : Int} (h : FacsAt H as fs) (hf : H f = some (.tup (as.map V.ref))) (ha : H a = some (.tup [.str "add", .int (t : Int), .int c, .ref f])) : StpAt H a (.add t c fs) := ⟨f, as, ha, hf, h.1, h.2⟩
/-- the lists of the loop: nodes behind scaling, steps, tasks -/
structure LoopAt (H H' : Hp) (pb ps pt : Addr) (bas sas tas : List Addr) (B : List (Nat × Int)) (S : List Stp) (T : List Tk) : Prop where
  same : Same H H'
  hb : H' pb = some (.lst (bas.map V.ref))
  B : BasL H' bas B
  e : H' ps = some (.lst (sas.map V.ref))
  st : StpsAt H' sas S
  t : H' pt = some (.lst (tas.map V.ref))
  tk : TksAt H' tas T
theorem LoopAt.next {H H1 H2 : Hp} {pb ps pt : Addr} {bas sas tas : List Addr} {B : List (Nat × Int)} {S : List Stp} {T : List Tk} (h : LoopAt H H1 pb ps pt bas sas tas B S T) (s : Same H1 H2) : LoopAt H H2 pb ps pt bas sas tas B S T :=
  ⟨h.same.trans s, s _ _ h.hb, h.B.tups (Tups.same s), s _ _ h.e, h.st.tups (Tups.same s), s _ _ h.t, h.tk.tups (Tups.same s)⟩
theorem LoopAt.step {H H1 : Hp} {pb ps pt : Addr} {bas sas tas : List Addr} {B : List (Nat × Int)} {S : List Stp} {T : List Tk} (h : LoopAt H H1 pb ps pt bas sas tas B S T) (h0 : H ps = none) (n1 : pb ≠ ps) (n2 : ps ≠ pt) {r : Addr} {x : Stp} (hx : StpAt H1 r x) :
    LoopAt H (upd H1 ps (.lst (sas.map V.ref ++ [.ref r]))) pb ps pt bas (sas ++ [r]) tas B (S ++ [x]) T := by
  have u : Tups H1 (upd H1 ps (.lst (sas.map V.ref ++ [.ref r]))) := (Tups.refl _).put (no_tupL h.e)
  exact ⟨Same.put h.same h0, by rw [upd_ne n1]; exact h.hb, h.B.tups u, by rw [upd_same, List.map_append]; rfl, (h.st.tups u).snoc (hx.tups u), by rw [upd_ne n2.symm]; exact h.t, h.tk.tups u⟩
theorem LoopAt.push {H H1 : Hp} {pb ps pt : Addr} {bas sas tas : List Addr} {B : List (Nat × Int)} {S : List Stp} {T : List Tk} (h : LoopAt H H1 pb ps pt bas sas tas B S T) (h0 : H pt = none) (n1 : pb ≠ pt) (n2 : ps ≠ pt) {bs : List Addr} {us : List Tk} (hx : TksAt H1 bs us) :
    LoopAt H (upd H1 pt (.lst (tas.map V.ref ++ bs.map V.ref))) pb ps pt bas sas (tas ++ bs) B S (T ++ us) := by
  have u : Tups H1 (upd H1 pt (.lst (tas.map V.ref ++ bs.map V.ref))) := (Tups.refl _).put (no_tupL h.t)
  exact ⟨Same.put h.same h0, by rw [upd_ne n1]; exact h.hb, h.B.tups u, by rw [upd_ne n2]; exact h.e, h.st.tups u, by rw [upd_same, List.map_append], (h.tk.tups u).app (hx.tups u)⟩
theorem LoopAt.pop {H H1 : Hp} {pb ps pt : Addr} {bas sas tas : List Addr} {B : List (Nat × Int)} {S : List Stp} {T : List Tk} {b : Addr} {k : Tk} (h : LoopAt H H1 pb ps pt bas sas (tas ++ [b]) B S (T ++ [k])) (h0 : H pt = none) (n1 : pb ≠ pt) (n2 : ps ≠ pt) (hl : tas.length = T.length) :
    LoopAt H (upd H1 pt (.lst ((tas ++ [b]).map V.ref).dropLast)) pb ps pt bas sas tas B S T ∧ TkAt (upd H1 pt (.lst ((tas ++ [b]).map V.ref).dropLast)) b k := by
  have u : Tups H1 (upd H1 pt (.lst ((tas ++ [b]).map V.ref).dropLast)) := (Tups.refl _).put (no_tupL h.t)
  have hk : TkAt H1 b k := h.tk.2 T.length k b (by rw [List.getElem?_append_right (Nat.le_refl _), Nat.sub_self]; rfl) (by rw [← hl, List.getElem?_append_right (Nat.le_refl _), Nat.sub_self]; rfl)
  have ht : TksAt H1 tas T := ⟨hl, fun i x c e1 e2 => h.tk.2 i x c (by rw [List.getElem?_append_left (List.getElem?_eq_some_iff.mp e1).1]; exact e1) (by rw [List.getElem?_append_left (List.getElem?_eq_some_iff.mp e2).1]; exact e2)⟩
  exact ⟨⟨Same.put h.same h0, by rw [upd_ne n1]; exact h.hb, h.B.tups u, by rw [upd_ne n2]; exact h.e, h.st.tups u, by rw [upd_same, List.map_append]; simp, ht.tups u⟩, hk.tups u⟩
theorem x_revL2 {K : PySem.W.Frag} {te : TE} {σ : L2.St} {H : Hp} {Q : VK} (h : te σ H fun x H1 => ∃ a xs, x = .ref a ∧ SqL K H1 a xs ∧ ∀ p, H1 p = none → Q (.ref p) (upd H1 p (.lst xs.reverse))) : tRevL K te σ H Q := h
end Br













namespace Br
open PySem PySem.Spec PyProof.Rows L2
def topS (i : Nat) : Stmt := PySem.Challenge.pw_brimful_k18_answers_out_of_full_memory.main.body.getD i (.Pass ⟨0, 0, 0, 0⟩)
abbrev s_is_below : Stmt := topS 10
abbrev N_is_below : List Str := ["value", "bound"]
theorem sc_is_below : FnScope N_is_below ["value", "bound"] (defScope s_is_below) := ⟨rfl, rfl, rfl, by decide +kernel, rfl, by decide +kernel, by decide +kernel⟩
abbrev s_is_modulus : Stmt := topS 11
abbrev N_is_modulus : List Str := ["value"]
theorem sc_is_modulus : FnScope N_is_modulus ["value"] (defScope s_is_modulus) := ⟨rfl, rfl, rfl, by decide +kernel, rfl, by decide +kernel, by decide +kernel⟩
abbrev s_are_numbers : Stmt := topS 12
abbrev N_are_numbers : List Str := ["values", "many", "modulus", "value"]
theorem sc_are_numbers : FnScope N_are_numbers ["values", "many", "modulus"] (defScope s_are_numbers) := ⟨rfl, rfl, rfl, by decide +kernel, rfl, by decide +kernel, by decide +kernel⟩
abbrev s_is_prime : Stmt := topS 13
abbrev N_is_prime : List Str := ["n", "divisor"]
theorem sc_is_prime : FnScope N_is_prime ["n"] (defScope s_is_prime) := ⟨rfl, rfl, rfl, by decide +kernel, rfl, by decide +kernel, by decide +kernel⟩
abbrev s_inverse_of : Stmt := topS 14
abbrev N_inverse_of : List Str := ["n", "modulus", "last", "rest", "last_factor", "rest_factor", "times"]
theorem sc_inverse_of : FnScope N_inverse_of ["n", "modulus"] (defScope s_inverse_of) := ⟨rfl, rfl, rfl, by decide +kernel, rfl, by decide +kernel, by decide +kernel⟩
abbrev s_interpolate : Stmt := topS 15
abbrev N_interpolate : List Str := ["table", "prime", "x", "y", "row_shares", "column_shares", "total", "row_share", "row"]
theorem sc_interpolate : FnScope N_interpolate ["table", "prime", "x", "y"] (defScope s_interpolate) := ⟨rfl, rfl, rfl, by decide +kernel, rfl, by decide +kernel, by decide +kernel⟩
abbrev s_weighted : Stmt := topS 16
abbrev N_weighted : List Str := ["row", "shares", "share", "value"]
theorem sc_weighted : FnScope N_weighted ["row", "shares"] (defScope s_weighted) := ⟨rfl, rfl, rfl, by decide +kernel, rfl, by decide +kernel, by decide +kernel⟩
abbrev s_shares : Stmt := topS 17
abbrev N_shares : List Str := ["size", "prime", "x", "at", "top", "shares", "bottom"]
theorem sc_shares : FnScope N_shares ["size", "prime", "x"] (defScope s_shares) := ⟨rfl, rfl, rfl, by decide +kernel, rfl, by decide +kernel, by decide +kernel⟩
abbrev s_products_of_differences : Stmt := topS 18
abbrev N_products_of_differences : List Str := ["size", "prime", "factorials", "n", "bottoms", "at", "above", "sign"]
theorem sc_products_of_differences : FnScope N_products_of_differences ["size", "prime"] (defScope s_products_of_differences) := ⟨rfl, rfl, rfl, by decide +kernel, rfl, by decide +kernel, by decide +kernel⟩
abbrev s_is_step : Stmt := topS 21
abbrev N_is_step : List Str := ["step", "modulus", "cells", "inputs", "target", "coefficient", "factors", "unit", "a", "b", "sign", "table"]
theorem sc_is_step : FnScope N_is_step ["step", "modulus", "cells", "inputs"] (defScope s_is_step) := ⟨rfl, rfl, rfl, by decide +kernel, rfl, by decide +kernel, by decide +kernel⟩
abbrev s_are_factors : Stmt := topS 22
abbrev N_are_factors : List Str := ["factors", "target", "cells", "inputs", "factor"]
theorem sc_are_factors : FnScope N_are_factors ["factors", "target", "cells", "inputs"] (defScope s_are_factors) := ⟨rfl, rfl, rfl, by decide +kernel, rfl, by decide +kernel, by decide +kernel⟩
abbrev s_is_factor : Stmt := topS 23
abbrev N_is_factor : List Str := ["factor", "target", "cells", "inputs", "at"]
theorem sc_is_factor : FnScope N_is_factor ["factor", "target", "cells", "inputs"] (defScope s_is_factor) := ⟨rfl, rfl, rfl, by decide +kernel, rfl, by decide +kernel, by decide +kernel⟩
abbrev s_are_three_cells : Stmt := topS 24
abbrev N_are_three_cells : List Str := ["target", "a", "b", "cells", "cell"]
theorem sc_are_three_cells : FnScope N_are_three_cells ["target", "a", "b", "cells"] (defScope s_are_three_cells) := ⟨rfl, rfl, rfl, by decide +kernel, rfl, by decide +kernel, by decide +kernel⟩
abbrev s_is_sign : Stmt := topS 25
abbrev N_is_sign : List Str := ["sign", "modulus"]
theorem sc_is_sign : FnScope N_is_sign ["sign", "modulus"] (defScope s_is_sign) := ⟨rfl, rfl, rfl, by decide +kernel, rfl, by decide +kernel, by decide +kernel⟩
abbrev s_is_table : Stmt := topS 26
abbrev N_is_table : List Str := ["table", "modulus", "row"]
theorem sc_is_table : FnScope N_is_table ["table", "modulus"] (defScope s_is_table) := ⟨rfl, rfl, rfl, by decide +kernel, rfl, by decide +kernel, by decide +kernel⟩
abbrev s_is_row : Stmt := topS 27
abbrev N_is_row : List Str := ["row", "size", "modulus", "value"]
theorem sc_is_row : FnScope N_is_row ["row", "size", "modulus"] (defScope s_is_row) := ⟨rfl, rfl, rfl, by decide +kernel, rfl, by decide +kernel, by decide +kernel⟩
abbrev s_changes : Stmt := topS 28
abbrev N_changes : List Str := ["step", "memory", "given", "modulus", "target", "coefficient", "factors", "amount", "unit", "a", "b", "sign", "table"]
theorem sc_changes : FnScope N_changes ["step", "memory", "given", "modulus"] (defScope s_changes) := ⟨rfl, rfl, rfl, by decide +kernel, rfl, by decide +kernel, by decide +kernel⟩
abbrev s_performed : Stmt := topS 29
abbrev N_performed : List Str := ["steps", "memory", "given", "modulus", "behind", "step", "changed", "cell", "content"]
theorem sc_performed : FnScope N_performed ["steps", "memory", "given", "modulus"] (defScope s_performed) := ⟨rfl, rfl, rfl, by decide +kernel, rfl, by decide +kernel, by decide +kernel⟩
abbrev s_product_of : Stmt := topS 30
abbrev N_product_of : List Str := ["factors", "memory", "given", "modulus", "result", "place", "at", "number"]
theorem sc_product_of : FnScope N_product_of ["factors", "memory", "given", "modulus"] (defScope s_product_of) := ⟨rfl, rfl, rfl, by decide +kernel, rfl, by decide +kernel, by decide +kernel⟩
abbrev s_inverse_step : Stmt := topS 31
abbrev N_inverse_step : List Str := ["step", "modulus", "target", "coefficient", "factors", "unit", "sign", "table", "a", "b"]
theorem sc_inverse_step : FnScope N_inverse_step ["step", "modulus"] (defScope s_inverse_step) := ⟨rfl, rfl, rfl, by decide +kernel, rfl, by decide +kernel, by decide +kernel⟩
abbrev s_check_sizes : Stmt := topS 37
abbrev N_check_sizes : List Str := ["modulus", "cells", "inputs"]
theorem sc_check_sizes : FnScope N_check_sizes ["modulus", "cells", "inputs"] (defScope s_check_sizes) := ⟨rfl, rfl, rfl, by decide +kernel, rfl, by decide +kernel, by decide +kernel⟩
abbrev s_check_steps : Stmt := topS 38
abbrev N_check_steps : List Str := ["steps", "modulus", "cells", "inputs", "at", "step"]
theorem sc_check_steps : FnScope N_check_steps ["steps", "modulus", "cells", "inputs"] (defScope s_check_steps) := ⟨rfl, rfl, rfl, by decide +kernel, rfl, by decide +kernel, by decide +kernel⟩
abbrev s_are_nodes : Stmt := topS 42
abbrev N_are_nodes : List Str := ["source", "node"]
theorem sc_are_nodes : FnScope N_are_nodes ["source"] (defScope s_are_nodes) := ⟨rfl, rfl, rfl, by decide +kernel, rfl, by decide +kernel, by decide +kernel⟩
abbrev s_is_input : Stmt := topS 43
abbrev N_is_input : List Str := ["k"]
theorem sc_is_input : FnScope N_is_input ["k"] (defScope s_is_input) := ⟨rfl, rfl, rfl, by decide +kernel, rfl, by decide +kernel, by decide +kernel⟩
abbrev s_are_before : Stmt := topS 44
abbrev N_are_before : List Str := ["at", "references", "reference"]
theorem sc_are_before : FnScope N_are_before ["at", "references"] (defScope s_are_before) := ⟨rfl, rfl, rfl, by decide +kernel, rfl, by decide +kernel, by decide +kernel⟩
abbrev s_inputs_needed : Stmt := topS 45
abbrev N_inputs_needed : List Str := ["source", "node"]
theorem sc_inputs_needed : FnScope N_inputs_needed ["source"] (defScope s_inputs_needed) := ⟨rfl, rfl, rfl, by decide +kernel, rfl, by decide +kernel, by decide +kernel⟩
abbrev s_check_source : Stmt := topS 48
abbrev N_check_source : List Str := ["source"]
theorem sc_check_source : FnScope N_check_source ["source"] (defScope s_check_source) := ⟨rfl, rfl, rfl, by decide +kernel, rfl, by decide +kernel, by decide +kernel⟩
abbrev s_is_source : Stmt := topS 49
abbrev N_is_source : List Str := ["source", "at", "node"]
theorem sc_is_source : FnScope N_is_source ["source"] (defScope s_is_source) := ⟨rfl, rfl, rfl, by decide +kernel, rfl, by decide +kernel, by decide +kernel⟩
abbrev s_is_node : Stmt := topS 50
abbrev N_is_node : List Str := ["node", "at", "c", "k", "i", "j", "other"]
theorem sc_is_node : FnScope N_is_node ["node", "at"] (defScope s_is_node) := ⟨rfl, rfl, rfl, by decide +kernel, rfl, by decide +kernel, by decide +kernel⟩
abbrev s_needs : Stmt := topS 51
abbrev N_needs : List Str := ["source"]
theorem sc_needs : FnScope N_needs ["source"] (defScope s_needs) := ⟨rfl, rfl, rfl, by decide +kernel, rfl, by decide +kernel, by decide +kernel⟩
abbrev s_cost : Stmt := topS 52
abbrev N_cost : List Str := ["source", "costs", "node"]
theorem sc_cost : FnScope N_cost ["source"] (defScope s_cost) := ⟨rfl, rfl, rfl, by decide +kernel, rfl, by decide +kernel, by decide +kernel⟩
abbrev s_cost_of : Stmt := topS 53
abbrev N_cost_of : List Str := ["node", "costs", "i", "j", "other"]
theorem sc_cost_of : FnScope N_cost_of ["node", "costs"] (defScope s_cost_of) := ⟨rfl, rfl, rfl, by decide +kernel, rfl, by decide +kernel, by decide +kernel⟩
abbrev s_compile_source : Stmt := topS 56
abbrev N_compile_source : List Str := ["source", "modulus"]
theorem sc_compile_source : FnScope N_compile_source ["source", "modulus"] (defScope s_compile_source) := ⟨rfl, rfl, rfl, by decide +kernel, rfl, by decide +kernel, by decide +kernel⟩
abbrev s_answer : Stmt := topS 57
abbrev N_answer : List Str := ["program", "memory", "given", "middle", "amount", "back"]
theorem sc_answer : FnScope N_answer ["program", "memory", "given"] (defScope s_answer) := ⟨rfl, rfl, rfl, by decide +kernel, rfl, by decide +kernel, by decide +kernel⟩
abbrev s_steps_of : Stmt := topS 58
abbrev N_steps_of : List Str := ["source", "modulus", "bases", "steps", "tasks", "at", "target", "coefficient", "factors", "base", "scale", "c", "k", "node"]
theorem sc_steps_of : FnScope N_steps_of ["source", "modulus"] (defScope s_steps_of) := ⟨rfl, rfl, rfl, by decide +kernel, rfl, by decide +kernel, by decide +kernel⟩
abbrev s_without_scaling : Stmt := topS 59
abbrev N_without_scaling : List Str := ["source", "modulus", "bases", "at", "node", "c", "i", "base", "scale"]
theorem sc_without_scaling : FnScope N_without_scaling ["source", "modulus"] (defScope s_without_scaling) := ⟨rfl, rfl, rfl, by decide +kernel, rfl, by decide +kernel, by decide +kernel⟩
abbrev s_parts_of : Stmt := topS 60
abbrev N_parts_of : List Str := ["node", "target", "coefficient", "factors", "borrowed", "by", "i", "j", "other"]
theorem sc_parts_of : FnScope N_parts_of ["node", "target", "coefficient", "factors"] (defScope s_parts_of) := ⟨rfl, rfl, rfl, by decide +kernel, rfl, by decide +kernel, by decide +kernel⟩
abbrev s_borrowed_cell : Stmt := topS 61
abbrev N_borrowed_cell : List Str := ["target", "factors", "cell"]
theorem sc_borrowed_cell : FnScope N_borrowed_cell ["target", "factors"] (defScope s_borrowed_cell) := ⟨rfl, rfl, rfl, by decide +kernel, rfl, by decide +kernel, by decide +kernel⟩
abbrev s_law_mixed : Stmt := topS 63
abbrev N_law_mixed : List Str := ["number", "k", "step"]
theorem sc_law_mixed : FnScope N_law_mixed ["number", "k"] (defScope s_law_mixed) := ⟨rfl, rfl, rfl, by decide +kernel, rfl, by decide +kernel, by decide +kernel⟩
abbrev s_law_numbers : Stmt := topS 64
abbrev N_law_numbers : List Str := ["script", "numbers", "cell", "rest", "k"]
theorem sc_law_numbers : FnScope N_law_numbers ["script"] (defScope s_law_numbers) := ⟨rfl, rfl, rfl, by decide +kernel, rfl, by decide +kernel, by decide +kernel⟩
abbrev s_law_draw : Stmt := topS 65
abbrev N_law_draw : List Str := ["draws", "at", "first"]
theorem sc_law_draw : FnScope N_law_draw ["draws"] (defScope s_law_draw) := ⟨rfl, rfl, rfl, by decide +kernel, rfl, by decide +kernel, by decide +kernel⟩
abbrev s_law_equal : Stmt := topS 66
abbrev N_law_equal : List Str := ["actual", "due"]
theorem sc_law_equal : FnScope N_law_equal ["actual", "due"] (defScope s_law_equal) := ⟨rfl, rfl, rfl, by decide +kernel, rfl, by decide +kernel, by decide +kernel⟩
abbrev s_law_all_equal : Stmt := topS 67
abbrev N_law_all_equal : List Str := ["actual", "due", "k"]
theorem sc_law_all_equal : FnScope N_law_all_equal ["actual", "due"] (defScope s_law_all_equal) := ⟨rfl, rfl, rfl, by decide +kernel, rfl, by decide +kernel, by decide +kernel⟩
abbrev s_law_large : Stmt := topS 68
abbrev N_law_large : List Str := ["draws", "bound", "number"]
theorem sc_law_large : FnScope N_law_large ["draws", "bound"] (defScope s_law_large) := ⟨rfl, rfl, rfl, by decide +kernel, rfl, by decide +kernel, by decide +kernel⟩
abbrev s_law_modulus : Stmt := topS 69
abbrev N_law_modulus : List Str := ["draws", "pick"]
theorem sc_law_modulus : FnScope N_law_modulus ["draws"] (defScope s_law_modulus) := ⟨rfl, rfl, rfl, by decide +kernel, rfl, by decide +kernel, by decide +kernel⟩
abbrev s_law_number : Stmt := topS 70
abbrev N_law_number : List Str := ["draws", "modulus", "pick"]
theorem sc_law_number : FnScope N_law_number ["draws", "modulus"] (defScope s_law_number) := ⟨rfl, rfl, rfl, by decide +kernel, rfl, by decide +kernel, by decide +kernel⟩
abbrev s_law_gcd : Stmt := topS 71
abbrev N_law_gcd : List Str := ["one", "two", "k", "rest"]
theorem sc_law_gcd : FnScope N_law_gcd ["one", "two"] (defScope s_law_gcd) := ⟨rfl, rfl, rfl, by decide +kernel, rfl, by decide +kernel, by decide +kernel⟩
abbrev s_law_unit : Stmt := topS 72
abbrev N_law_unit : List Str := ["draws", "modulus", "k", "number"]
theorem sc_law_unit : FnScope N_law_unit ["draws", "modulus"] (defScope s_law_unit) := ⟨rfl, rfl, rfl, by decide +kernel, rfl, by decide +kernel, by decide +kernel⟩
abbrev s_law_prime : Stmt := topS 73
abbrev N_law_prime : List Str := ["draws"]
theorem sc_law_prime : FnScope N_law_prime ["draws"] (defScope s_law_prime) := ⟨rfl, rfl, rfl, by decide +kernel, rfl, by decide +kernel, by decide +kernel⟩
abbrev s_law_table : Stmt := topS 74
abbrev N_law_table : List Str := ["draws", "prime", "count", "i", "j"]
theorem sc_law_table : FnScope N_law_table ["draws", "prime"] (defScope s_law_table) := ⟨rfl, rfl, rfl, by decide +kernel, rfl, by decide +kernel, by decide +kernel⟩
abbrev s_law_factor : Stmt := topS 75
abbrev N_law_factor : List Str := ["draws", "target", "cells", "inputs"]
theorem sc_law_factor : FnScope N_law_factor ["draws", "target", "cells", "inputs"] (defScope s_law_factor) := ⟨rfl, rfl, rfl, by decide +kernel, rfl, by decide +kernel, by decide +kernel⟩
abbrev s_law_step : Stmt := topS 76
abbrev N_law_step : List Str := ["draws", "modulus", "cells", "inputs", "prime", "pick", "target", "other", "last", "places", "sign", "factors", "k"]
theorem sc_law_step : FnScope N_law_step ["draws", "modulus", "cells", "inputs", "prime"] (defScope s_law_step) := ⟨rfl, rfl, rfl, by decide +kernel, rfl, by decide +kernel, by decide +kernel⟩
abbrev s_law_program : Stmt := topS 77
abbrev N_law_program : List Str := ["draws", "most", "prime", "modulus", "cells", "inputs", "many", "steps", "k"]
theorem sc_law_program : FnScope N_law_program ["draws", "most"] (defScope s_law_program) := ⟨rfl, rfl, rfl, by decide +kernel, rfl, by decide +kernel, by decide +kernel⟩
abbrev s_law_made : Stmt := topS 78
abbrev N_law_made : List Str := ["model"]
theorem sc_law_made : FnScope N_law_made ["model"] (defScope s_law_made) := ⟨rfl, rfl, rfl, by decide +kernel, rfl, by decide +kernel, by decide +kernel⟩
abbrev s_law_memory : Stmt := topS 79
abbrev N_law_memory : List Str := ["draws", "model", "k"]
theorem sc_law_memory : FnScope N_law_memory ["draws", "model"] (defScope s_law_memory) := ⟨rfl, rfl, rfl, by decide +kernel, rfl, by decide +kernel, by decide +kernel⟩
abbrev s_law_given : Stmt := topS 80
abbrev N_law_given : List Str := ["draws", "model", "k"]
theorem sc_law_given : FnScope N_law_given ["draws", "model"] (defScope s_law_given) := ⟨rfl, rfl, rfl, by decide +kernel, rfl, by decide +kernel, by decide +kernel⟩
abbrev s_law_power : Stmt := topS 81
abbrev N_law_power : List Str := ["base", "exponent", "prime", "result", "k"]
theorem sc_law_power : FnScope N_law_power ["base", "exponent", "prime"] (defScope s_law_power) := ⟨rfl, rfl, rfl, by decide +kernel, rfl, by decide +kernel, by decide +kernel⟩
abbrev s_law_basis : Stmt := topS 82
abbrev N_law_basis : List Str := ["count", "at", "x", "prime", "above", "below", "other"]
theorem sc_law_basis : FnScope N_law_basis ["count", "at", "x", "prime"] (defScope s_law_basis) := ⟨rfl, rfl, rfl, by decide +kernel, rfl, by decide +kernel, by decide +kernel⟩
abbrev s_law_interpolated : Stmt := topS 83
abbrev N_law_interpolated : List Str := ["table", "prime", "x", "y", "total", "i", "j", "part"]
theorem sc_law_interpolated : FnScope N_law_interpolated ["table", "prime", "x", "y"] (defScope s_law_interpolated) := ⟨rfl, rfl, rfl, by decide +kernel, rfl, by decide +kernel, by decide +kernel⟩
abbrev s_law_product : Stmt := topS 84
abbrev N_law_product : List Str := ["step", "memory", "given", "modulus", "product", "factor"]
theorem sc_law_product : FnScope N_law_product ["step", "memory", "given", "modulus"] (defScope s_law_product) := ⟨rfl, rfl, rfl, by decide +kernel, rfl, by decide +kernel, by decide +kernel⟩
abbrev s_law_perform : Stmt := topS 85
abbrev N_law_perform : List Str := ["step", "memory", "given", "modulus", "target", "kept", "value"]
theorem sc_law_perform : FnScope N_law_perform ["step", "memory", "given", "modulus"] (defScope s_law_perform) := ⟨rfl, rfl, rfl, by decide +kernel, rfl, by decide +kernel, by decide +kernel⟩
abbrev s_law_ran : Stmt := topS 86
abbrev N_law_ran : List Str := ["model", "memory", "given", "after", "step"]
theorem sc_law_ran : FnScope N_law_ran ["model", "memory", "given"] (defScope s_law_ran) := ⟨rfl, rfl, rfl, by decide +kernel, rfl, by decide +kernel, by decide +kernel⟩
abbrev s_law_constant : Stmt := topS 87
abbrev N_law_constant : List Str := ["draws", "pick"]
theorem sc_law_constant : FnScope N_law_constant ["draws"] (defScope s_law_constant) := ⟨rfl, rfl, rfl, by decide +kernel, rfl, by decide +kernel, by decide +kernel⟩
abbrev s_law_leaf : Stmt := topS 88
abbrev N_law_leaf : List Str := ["draws", "number"]
theorem sc_law_leaf : FnScope N_law_leaf ["draws"] (defScope s_law_leaf) := ⟨rfl, rfl, rfl, by decide +kernel, rfl, by decide +kernel, by decide +kernel⟩
abbrev s_law_node : Stmt := topS 89
abbrev N_law_node : List Str := ["draws", "costs", "most", "many", "pick", "i", "j", "l", "node", "price"]
theorem sc_law_node : FnScope N_law_node ["draws", "costs", "most"] (defScope s_law_node) := ⟨rfl, rfl, rfl, by decide +kernel, rfl, by decide +kernel, by decide +kernel⟩
abbrev s_law_source : Stmt := topS 90
abbrev N_law_source : List Str := ["draws", "most", "nodes", "costs", "many", "k", "pair"]
theorem sc_law_source : FnScope N_law_source ["draws", "most"] (defScope s_law_source) := ⟨rfl, rfl, rfl, by decide +kernel, rfl, by decide +kernel, by decide +kernel⟩
abbrev s_law_needs : Stmt := topS 91
abbrev N_law_needs : List Str := ["source", "most", "node"]
theorem sc_law_needs : FnScope N_law_needs ["source"] (defScope s_law_needs) := ⟨rfl, rfl, rfl, by decide +kernel, rfl, by decide +kernel, by decide +kernel⟩
abbrev s_law_values : Stmt := topS 92
abbrev N_law_values : List Str := ["source", "modulus", "given", "values", "node", "value"]
theorem sc_law_values : FnScope N_law_values ["source", "modulus", "given"] (defScope s_law_values) := ⟨rfl, rfl, rfl, by decide +kernel, rfl, by decide +kernel, by decide +kernel⟩
abbrev s_law_meaning : Stmt := topS 93
abbrev N_law_meaning : List Str := ["source", "modulus", "given"]
theorem sc_law_meaning : FnScope N_law_meaning ["source", "modulus", "given"] (defScope s_law_meaning) := ⟨rfl, rfl, rfl, by decide +kernel, rfl, by decide +kernel, by decide +kernel⟩
abbrev s_law_asked : Stmt := topS 94
abbrev N_law_asked : List Str := ["program", "memory", "given", "due", "handed", "inputs", "actual"]
theorem sc_law_asked : FnScope N_law_asked ["program", "memory", "given", "due"] (defScope s_law_asked) := ⟨rfl, rfl, rfl, by decide +kernel, rfl, by decide +kernel, by decide +kernel⟩
abbrev s_law_refused : Stmt := topS 95
abbrev N_law_refused : List Str := ["program", "memory", "given", "e"]
theorem sc_law_refused : FnScope N_law_refused ["program", "memory", "given"] (defScope s_law_refused) := ⟨rfl, rfl, rfl, by decide +kernel, rfl, by decide +kernel, by decide +kernel⟩
abbrev s_law : Stmt := topS 96
abbrev N_law : List Str := ["script", "draws", "source", "modulus", "given", "memory", "program", "model", "after", "wrong", "k"]
theorem sc_law : FnScope N_law ["script"] (defScope s_law) := ⟨rfl, rfl, rfl, by decide +kernel, rfl, by decide +kernel, by decide +kernel⟩
abbrev s_Program___init : Stmt := inClass (topS 36) 0
abbrev N_Program___init : List Str := ["self", "modulus", "cells", "inputs", "steps"]
theorem sc_Program___init : FnScope N_Program___init ["self", "modulus", "cells", "inputs", "steps"] (defScope s_Program___init) := ⟨rfl, rfl, rfl, by decide +kernel, rfl, by decide +kernel, by decide +kernel⟩
abbrev s_Program___neg : Stmt := inClass (topS 36) 3
abbrev N_Program___neg : List Str := ["self", "back", "step"]
theorem sc_Program___neg : FnScope N_Program___neg ["self"] (defScope s_Program___neg) := ⟨rfl, rfl, rfl, by decide +kernel, rfl, by decide +kernel, by decide +kernel⟩
abbrev s_Program_run : Stmt := inClass (topS 36) 4
abbrev N_Program_run : List Str := ["self", "memory", "given"]
theorem sc_Program_run : FnScope N_Program_run ["self", "memory", "given"] (defScope s_Program_run) := ⟨rfl, rfl, rfl, by decide +kernel, rfl, by decide +kernel, by decide +kernel⟩
structure Txt (K : PySem.W.Frag) (mg : Str → Option Value) where
  a_is_below : Addr
  fd_is_below : FuncData
  F_is_below : Fun K "is_below" "is_below" s_is_below a_is_below fd_is_below
  b_is_below : Binds K fd_is_below ["value", "bound"] []
  g_is_below : mg "is_below" = some (.ref a_is_below)
  a_is_modulus : Addr
  fd_is_modulus : FuncData
  F_is_modulus : Fun K "is_modulus" "is_modulus" s_is_modulus a_is_modulus fd_is_modulus
  b_is_modulus : Binds K fd_is_modulus ["value"] []
  g_is_modulus : mg "is_modulus" = some (.ref a_is_modulus)
  a_are_numbers : Addr
  fd_are_numbers : FuncData
  F_are_numbers : Fun K "are_numbers" "are_numbers" s_are_numbers a_are_numbers fd_are_numbers
  b_are_numbers : Binds K fd_are_numbers ["values", "many", "modulus"] []
  g_are_numbers : mg "are_numbers" = some (.ref a_are_numbers)
  a_is_prime : Addr
  fd_is_prime : FuncData
  F_is_prime : Fun K "is_prime" "is_prime" s_is_prime a_is_prime fd_is_prime
  b_is_prime : Binds K fd_is_prime ["n"] []
  g_is_prime : mg "is_prime" = some (.ref a_is_prime)
  a_inverse_of : Addr
  fd_inverse_of : FuncData
  F_inverse_of : Fun K "inverse_of" "inverse_of" s_inverse_of a_inverse_of fd_inverse_of
  b_inverse_of : Binds K fd_inverse_of ["n", "modulus"] []
  g_inverse_of : mg "inverse_of" = some (.ref a_inverse_of)
  a_interpolate : Addr
  fd_interpolate : FuncData
  F_interpolate : Fun K "interpolate" "interpolate" s_interpolate a_interpolate fd_interpolate
  b_interpolate : Binds K fd_interpolate ["table", "prime", "x", "y"] []
  g_interpolate : mg "interpolate" = some (.ref a_interpolate)
  a_weighted : Addr
  fd_weighted : FuncData
  F_weighted : Fun K "_weighted" "_weighted" s_weighted a_weighted fd_weighted
  b_weighted : Binds K fd_weighted ["row", "shares"] []
  g_weighted : mg "_weighted" = some (.ref a_weighted)
  a_shares : Addr
  fd_shares : FuncData
  F_shares : Fun K "_shares" "_shares" s_shares a_shares fd_shares
  b_shares : Binds K fd_shares ["size", "prime", "x"] []
  g_shares : mg "_shares" = some (.ref a_shares)
  a_products_of_differences : Addr
  fd_products_of_differences : FuncData
  F_products_of_differences : Fun K "products_of_differences" "products_of_differences" s_products_of_differences a_products_of_differences fd_products_of_differences
  b_products_of_differences : Binds K fd_products_of_differences ["size", "prime"] []
  g_products_of_differences : mg "products_of_differences" = some (.ref a_products_of_differences)
  a_is_step : Addr
  fd_is_step : FuncData
  F_is_step : Fun K "is_step" "is_step" s_is_step a_is_step fd_is_step
  b_is_step : Binds K fd_is_step ["step", "modulus", "cells", "inputs"] []
  g_is_step : mg "is_step" = some (.ref a_is_step)
  a_are_factors : Addr
  fd_are_factors : FuncData
  F_are_factors : Fun K "_are_factors" "_are_factors" s_are_factors a_are_factors fd_are_factors
  b_are_factors : Binds K fd_are_factors ["factors", "target", "cells", "inputs"] []
  g_are_factors : mg "_are_factors" = some (.ref a_are_factors)
  a_is_factor : Addr
  fd_is_factor : FuncData
  F_is_factor : Fun K "_is_factor" "_is_factor" s_is_factor a_is_factor fd_is_factor
  b_is_factor : Binds K fd_is_factor ["factor", "target", "cells", "inputs"] []
  g_is_factor : mg "_is_factor" = some (.ref a_is_factor)
  a_are_three_cells : Addr
  fd_are_three_cells : FuncData
  F_are_three_cells : Fun K "_are_three_cells" "_are_three_cells" s_are_three_cells a_are_three_cells fd_are_three_cells
  b_are_three_cells : Binds K fd_are_three_cells ["target", "a", "b", "cells"] []
  g_are_three_cells : mg "_are_three_cells" = some (.ref a_are_three_cells)
  a_is_sign : Addr
  fd_is_sign : FuncData
  F_is_sign : Fun K "_is_sign" "_is_sign" s_is_sign a_is_sign fd_is_sign
  b_is_sign : Binds K fd_is_sign ["sign", "modulus"] []
  g_is_sign : mg "_is_sign" = some (.ref a_is_sign)
  a_is_table : Addr
  fd_is_table : FuncData
  F_is_table : Fun K "is_table" "is_table" s_is_table a_is_table fd_is_table
  b_is_table : Binds K fd_is_table ["table", "modulus"] []
  g_is_table : mg "is_table" = some (.ref a_is_table)
  a_is_row : Addr
  fd_is_row : FuncData
  F_is_row : Fun K "_is_row" "_is_row" s_is_row a_is_row fd_is_row
  b_is_row : Binds K fd_is_row ["row", "size", "modulus"] []
  g_is_row : mg "_is_row" = some (.ref a_is_row)
  a_changes : Addr
  fd_changes : FuncData
  F_changes : Fun K "changes" "changes" s_changes a_changes fd_changes
  b_changes : Binds K fd_changes ["step", "memory", "given", "modulus"] []
  g_changes : mg "changes" = some (.ref a_changes)
  a_performed : Addr
  fd_performed : FuncData
  F_performed : Fun K "performed" "performed" s_performed a_performed fd_performed
  b_performed : Binds K fd_performed ["steps", "memory", "given", "modulus"] []
  g_performed : mg "performed" = some (.ref a_performed)
  a_product_of : Addr
  fd_product_of : FuncData
  F_product_of : Fun K "_product_of" "_product_of" s_product_of a_product_of fd_product_of
  b_product_of : Binds K fd_product_of ["factors", "memory", "given", "modulus"] []
  g_product_of : mg "_product_of" = some (.ref a_product_of)
  a_inverse_step : Addr
  fd_inverse_step : FuncData
  F_inverse_step : Fun K "inverse_step" "inverse_step" s_inverse_step a_inverse_step fd_inverse_step
  b_inverse_step : Binds K fd_inverse_step ["step", "modulus"] []
  g_inverse_step : mg "inverse_step" = some (.ref a_inverse_step)
  a_check_sizes : Addr
  fd_check_sizes : FuncData
  F_check_sizes : Fun K "_check_sizes" "_check_sizes" s_check_sizes a_check_sizes fd_check_sizes
  b_check_sizes : Binds K fd_check_sizes ["modulus", "cells", "inputs"] []
  g_check_sizes : mg "_check_sizes" = some (.ref a_check_sizes)
  a_check_steps : Addr
  fd_check_steps : FuncData
  F_check_steps : Fun K "_check_steps" "_check_steps" s_check_steps a_check_steps fd_check_steps
  b_check_steps : Binds K fd_check_steps ["steps", "modulus", "cells", "inputs"] []
  g_check_steps : mg "_check_steps" = some (.ref a_check_steps)
  a_are_nodes : Addr
  fd_are_nodes : FuncData
  F_are_nodes : Fun K "are_nodes" "are_nodes" s_are_nodes a_are_nodes fd_are_nodes
  b_are_nodes : Binds K fd_are_nodes ["source"] []
  g_are_nodes : mg "are_nodes" = some (.ref a_are_nodes)
  a_is_input : Addr
  fd_is_input : FuncData
  F_is_input : Fun K "is_input" "is_input" s_is_input a_is_input fd_is_input
  b_is_input : Binds K fd_is_input ["k"] []
  g_is_input : mg "is_input" = some (.ref a_is_input)
  a_are_before : Addr
  fd_are_before : FuncData
  F_are_before : Fun K "are_before" "are_before" s_are_before a_are_before fd_are_before
  b_are_before : StarB fd_are_before ["at"] "references"
  g_are_before : mg "are_before" = some (.ref a_are_before)
  a_inputs_needed : Addr
  fd_inputs_needed : FuncData
  F_inputs_needed : Fun K "inputs_needed" "inputs_needed" s_inputs_needed a_inputs_needed fd_inputs_needed
  b_inputs_needed : Binds K fd_inputs_needed ["source"] []
  g_inputs_needed : mg "inputs_needed" = some (.ref a_inputs_needed)
  a_check_source : Addr
  fd_check_source : FuncData
  F_check_source : Fun K "check_source" "check_source" s_check_source a_check_source fd_check_source
  b_check_source : Binds K fd_check_source ["source"] []
  g_check_source : mg "check_source" = some (.ref a_check_source)
  a_is_source : Addr
  fd_is_source : FuncData
  F_is_source : Fun K "_is_source" "_is_source" s_is_source a_is_source fd_is_source
  b_is_source : Binds K fd_is_source ["source"] []
  g_is_source : mg "_is_source" = some (.ref a_is_source)
  a_is_node : Addr
  fd_is_node : FuncData
  F_is_node : Fun K "_is_node" "_is_node" s_is_node a_is_node fd_is_node
  b_is_node : Binds K fd_is_node ["node", "at"] []
  g_is_node : mg "_is_node" = some (.ref a_is_node)
  a_needs : Addr
  fd_needs : FuncData
  F_needs : Fun K "needs" "needs" s_needs a_needs fd_needs
  b_needs : Binds K fd_needs ["source"] []
  g_needs : mg "needs" = some (.ref a_needs)
  a_cost : Addr
  fd_cost : FuncData
  F_cost : Fun K "cost" "cost" s_cost a_cost fd_cost
  b_cost : Binds K fd_cost ["source"] []
  g_cost : mg "cost" = some (.ref a_cost)
  a_cost_of : Addr
  fd_cost_of : FuncData
  F_cost_of : Fun K "_cost_of" "_cost_of" s_cost_of a_cost_of fd_cost_of
  b_cost_of : Binds K fd_cost_of ["node", "costs"] []
  g_cost_of : mg "_cost_of" = some (.ref a_cost_of)
  a_compile_source : Addr
  fd_compile_source : FuncData
  F_compile_source : Fun K "compile_source" "compile_source" s_compile_source a_compile_source fd_compile_source
  b_compile_source : Binds K fd_compile_source ["source", "modulus"] []
  g_compile_source : mg "compile_source" = some (.ref a_compile_source)
  a_answer : Addr
  fd_answer : FuncData
  F_answer : Fun K "answer" "answer" s_answer a_answer fd_answer
  b_answer : Binds K fd_answer ["program", "memory", "given"] []
  g_answer : mg "answer" = some (.ref a_answer)
  a_steps_of : Addr
  fd_steps_of : FuncData
  F_steps_of : Fun K "_steps_of" "_steps_of" s_steps_of a_steps_of fd_steps_of
  b_steps_of : Binds K fd_steps_of ["source", "modulus"] []
  g_steps_of : mg "_steps_of" = some (.ref a_steps_of)
  a_without_scaling : Addr
  fd_without_scaling : FuncData
  F_without_scaling : Fun K "_without_scaling" "_without_scaling" s_without_scaling a_without_scaling fd_without_scaling
  b_without_scaling : Binds K fd_without_scaling ["source", "modulus"] []
  g_without_scaling : mg "_without_scaling" = some (.ref a_without_scaling)
  a_parts_of : Addr
  fd_parts_of : FuncData
  F_parts_of : Fun K "_parts_of" "_parts_of" s_parts_of a_parts_of fd_parts_of
  b_parts_of : Binds K fd_parts_of ["node", "target", "coefficient", "factors"] []
  g_parts_of : mg "_parts_of" = some (.ref a_parts_of)
  a_borrowed_cell : Addr
  fd_borrowed_cell : FuncData
  F_borrowed_cell : Fun K "_borrowed_cell" "_borrowed_cell" s_borrowed_cell a_borrowed_cell fd_borrowed_cell
  b_borrowed_cell : Binds K fd_borrowed_cell ["target", "factors"] []
  g_borrowed_cell : mg "_borrowed_cell" = some (.ref a_borrowed_cell)
  a_law_mixed : Addr
  fd_law_mixed : FuncData
  F_law_mixed : Fun K "_law_mixed" "_law_mixed" s_law_mixed a_law_mixed fd_law_mixed
  b_law_mixed : Binds K fd_law_mixed ["number", "k"] []
  g_law_mixed : mg "_law_mixed" = some (.ref a_law_mixed)
  a_law_numbers : Addr
  fd_law_numbers : FuncData
  F_law_numbers : Fun K "_law_numbers" "_law_numbers" s_law_numbers a_law_numbers fd_law_numbers
  b_law_numbers : Binds K fd_law_numbers ["script"] []
  g_law_numbers : mg "_law_numbers" = some (.ref a_law_numbers)
  a_law_draw : Addr
  fd_law_draw : FuncData
  F_law_draw : Fun K "_law_draw" "_law_draw" s_law_draw a_law_draw fd_law_draw
  b_law_draw : Binds K fd_law_draw ["draws"] []
  g_law_draw : mg "_law_draw" = some (.ref a_law_draw)
  a_law_equal : Addr
  fd_law_equal : FuncData
  F_law_equal : Fun K "_law_equal" "_law_equal" s_law_equal a_law_equal fd_law_equal
  b_law_equal : Binds K fd_law_equal ["actual", "due"] []
  g_law_equal : mg "_law_equal" = some (.ref a_law_equal)
  a_law_all_equal : Addr
  fd_law_all_equal : FuncData
  F_law_all_equal : Fun K "_law_all_equal" "_law_all_equal" s_law_all_equal a_law_all_equal fd_law_all_equal
  b_law_all_equal : Binds K fd_law_all_equal ["actual", "due"] []
  g_law_all_equal : mg "_law_all_equal" = some (.ref a_law_all_equal)
  a_law_large : Addr
  fd_law_large : FuncData
  F_law_large : Fun K "_law_large" "_law_large" s_law_large a_law_large fd_law_large
  b_law_large : Binds K fd_law_large ["draws", "bound"] []
  g_law_large : mg "_law_large" = some (.ref a_law_large)
  a_law_modulus : Addr
  fd_law_modulus : FuncData
  F_law_modulus : Fun K "_law_modulus" "_law_modulus" s_law_modulus a_law_modulus fd_law_modulus
  b_law_modulus : Binds K fd_law_modulus ["draws"] []
  g_law_modulus : mg "_law_modulus" = some (.ref a_law_modulus)
  a_law_number : Addr
  fd_law_number : FuncData
  F_law_number : Fun K "_law_number" "_law_number" s_law_number a_law_number fd_law_number
  b_law_number : Binds K fd_law_number ["draws", "modulus"] []
  g_law_number : mg "_law_number" = some (.ref a_law_number)
  a_law_gcd : Addr
  fd_law_gcd : FuncData
  F_law_gcd : Fun K "_law_gcd" "_law_gcd" s_law_gcd a_law_gcd fd_law_gcd
  b_law_gcd : Binds K fd_law_gcd ["one", "two"] []
  g_law_gcd : mg "_law_gcd" = some (.ref a_law_gcd)
  a_law_unit : Addr
  fd_law_unit : FuncData
  F_law_unit : Fun K "_law_unit" "_law_unit" s_law_unit a_law_unit fd_law_unit
  b_law_unit : Binds K fd_law_unit ["draws", "modulus"] []
  g_law_unit : mg "_law_unit" = some (.ref a_law_unit)
  a_law_prime : Addr
  fd_law_prime : FuncData
  F_law_prime : Fun K "_law_prime" "_law_prime" s_law_prime a_law_prime fd_law_prime
  b_law_prime : Binds K fd_law_prime ["draws"] []
  g_law_prime : mg "_law_prime" = some (.ref a_law_prime)
  a_law_table : Addr
  fd_law_table : FuncData
  F_law_table : Fun K "_law_table" "_law_table" s_law_table a_law_table fd_law_table
  b_law_table : Binds K fd_law_table ["draws", "prime"] []
  g_law_table : mg "_law_table" = some (.ref a_law_table)
  a_law_factor : Addr
  fd_law_factor : FuncData
  F_law_factor : Fun K "_law_factor" "_law_factor" s_law_factor a_law_factor fd_law_factor
  b_law_factor : Binds K fd_law_factor ["draws", "target", "cells", "inputs"] []
  g_law_factor : mg "_law_factor" = some (.ref a_law_factor)
  a_law_step : Addr
  fd_law_step : FuncData
  F_law_step : Fun K "_law_step" "_law_step" s_law_step a_law_step fd_law_step
  b_law_step : Binds K fd_law_step ["draws", "modulus", "cells", "inputs", "prime"] []
  g_law_step : mg "_law_step" = some (.ref a_law_step)
  a_law_program : Addr
  fd_law_program : FuncData
  F_law_program : Fun K "_law_program" "_law_program" s_law_program a_law_program fd_law_program
  b_law_program : Binds K fd_law_program ["draws", "most"] []
  g_law_program : mg "_law_program" = some (.ref a_law_program)
  a_law_made : Addr
  fd_law_made : FuncData
  F_law_made : Fun K "_law_made" "_law_made" s_law_made a_law_made fd_law_made
  b_law_made : Binds K fd_law_made ["model"] []
  g_law_made : mg "_law_made" = some (.ref a_law_made)
  a_law_memory : Addr
  fd_law_memory : FuncData
  F_law_memory : Fun K "_law_memory" "_law_memory" s_law_memory a_law_memory fd_law_memory
  b_law_memory : Binds K fd_law_memory ["draws", "model"] []
  g_law_memory : mg "_law_memory" = some (.ref a_law_memory)
  a_law_given : Addr
  fd_law_given : FuncData
  F_law_given : Fun K "_law_given" "_law_given" s_law_given a_law_given fd_law_given
  b_law_given : Binds K fd_law_given ["draws", "model"] []
  g_law_given : mg "_law_given" = some (.ref a_law_given)
  a_law_power : Addr
  fd_law_power : FuncData
  F_law_power : Fun K "_law_power" "_law_power" s_law_power a_law_power fd_law_power
  b_law_power : Binds K fd_law_power ["base", "exponent", "prime"] []
  g_law_power : mg "_law_power" = some (.ref a_law_power)
  a_law_basis : Addr
  fd_law_basis : FuncData
  F_law_basis : Fun K "_law_basis" "_law_basis" s_law_basis a_law_basis fd_law_basis
  b_law_basis : Binds K fd_law_basis ["count", "at", "x", "prime"] []
  g_law_basis : mg "_law_basis" = some (.ref a_law_basis)
  a_law_interpolated : Addr
  fd_law_interpolated : FuncData
  F_law_interpolated : Fun K "_law_interpolated" "_law_interpolated" s_law_interpolated a_law_interpolated fd_law_interpolated
  b_law_interpolated : Binds K fd_law_interpolated ["table", "prime", "x", "y"] []
  g_law_interpolated : mg "_law_interpolated" = some (.ref a_law_interpolated)
  a_law_product : Addr
  fd_law_product : FuncData
  F_law_product : Fun K "_law_product" "_law_product" s_law_product a_law_product fd_law_product
  b_law_product : Binds K fd_law_product ["step", "memory", "given", "modulus"] []
  g_law_product : mg "_law_product" = some (.ref a_law_product)
  a_law_perform : Addr
  fd_law_perform : FuncData
  F_law_perform : Fun K "_law_perform" "_law_perform" s_law_perform a_law_perform fd_law_perform
  b_law_perform : Binds K fd_law_perform ["step", "memory", "given", "modulus"] []
  g_law_perform : mg "_law_perform" = some (.ref a_law_perform)
  a_law_ran : Addr
  fd_law_ran : FuncData
  F_law_ran : Fun K "_law_ran" "_law_ran" s_law_ran a_law_ran fd_law_ran
  b_law_ran : Binds K fd_law_ran ["model", "memory", "given"] []
  g_law_ran : mg "_law_ran" = some (.ref a_law_ran)
  a_law_constant : Addr
  fd_law_constant : FuncData
  F_law_constant : Fun K "_law_constant" "_law_constant" s_law_constant a_law_constant fd_law_constant
  b_law_constant : Binds K fd_law_constant ["draws"] []
  g_law_constant : mg "_law_constant" = some (.ref a_law_constant)
  a_law_leaf : Addr
  fd_law_leaf : FuncData
  F_law_leaf : Fun K "_law_leaf" "_law_leaf" s_law_leaf a_law_leaf fd_law_leaf
  b_law_leaf : Binds K fd_law_leaf ["draws"] []
  g_law_leaf : mg "_law_leaf" = some (.ref a_law_leaf)
  a_law_node : Addr
  fd_law_node : FuncData
  F_law_node : Fun K "_law_node" "_law_node" s_law_node a_law_node fd_law_node
  b_law_node : Binds K fd_law_node ["draws", "costs", "most"] []
  g_law_node : mg "_law_node" = some (.ref a_law_node)
  a_law_source : Addr
  fd_law_source : FuncData
  F_law_source : Fun K "_law_source" "_law_source" s_law_source a_law_source fd_law_source
  b_law_source : Binds K fd_law_source ["draws", "most"] []
  g_law_source : mg "_law_source" = some (.ref a_law_source)
  a_law_needs : Addr
  fd_law_needs : FuncData
  F_law_needs : Fun K "_law_needs" "_law_needs" s_law_needs a_law_needs fd_law_needs
  b_law_needs : Binds K fd_law_needs ["source"] []
  g_law_needs : mg "_law_needs" = some (.ref a_law_needs)
  a_law_values : Addr
  fd_law_values : FuncData
  F_law_values : Fun K "_law_values" "_law_values" s_law_values a_law_values fd_law_values
  b_law_values : Binds K fd_law_values ["source", "modulus", "given"] []
  g_law_values : mg "_law_values" = some (.ref a_law_values)
  a_law_meaning : Addr
  fd_law_meaning : FuncData
  F_law_meaning : Fun K "_law_meaning" "_law_meaning" s_law_meaning a_law_meaning fd_law_meaning
  b_law_meaning : Binds K fd_law_meaning ["source", "modulus", "given"] []
  g_law_meaning : mg "_law_meaning" = some (.ref a_law_meaning)
  a_law_asked : Addr
  fd_law_asked : FuncData
  F_law_asked : Fun K "_law_asked" "_law_asked" s_law_asked a_law_asked fd_law_asked
  b_law_asked : Binds K fd_law_asked ["program", "memory", "given", "due"] []
  g_law_asked : mg "_law_asked" = some (.ref a_law_asked)
  a_law_refused : Addr
  fd_law_refused : FuncData
  F_law_refused : Fun K "_law_refused" "_law_refused" s_law_refused a_law_refused fd_law_refused
  b_law_refused : Binds K fd_law_refused ["program", "memory", "given"] []
  g_law_refused : mg "_law_refused" = some (.ref a_law_refused)
  a_law : Addr
  fd_law : FuncData
  F_law : Fun K "law" "law" s_law a_law fd_law
  b_law : Binds K fd_law ["script"] []
  g_law : mg "law" = some (.ref a_law)
  a_Program___init : Addr
  fd_Program___init : FuncData
  F_Program___init : Fun K "__init__" "Program.__init__" s_Program___init a_Program___init fd_Program___init
  b_Program___init : Binds K fd_Program___init ["self", "modulus", "cells", "inputs", "steps"] []
  a_Program___neg : Addr
  fd_Program___neg : FuncData
  F_Program___neg : Fun K "__neg__" "Program.__neg__" s_Program___neg a_Program___neg fd_Program___neg
  b_Program___neg : Binds K fd_Program___neg ["self"] []
  a_Program_run : Addr
  fd_Program_run : FuncData
  F_Program_run : Fun K "run" "Program.run" s_Program_run a_Program_run fd_Program_run
  b_Program_run : Binds K fd_Program_run ["self", "memory", "given"] []
  C_Program : Addr
  cl_Program : Cls K C_Program
  gc_Program : mg "Program" = some (.ref C_Program)
  na_Program_modulus : NoAttr K C_Program "modulus"
  na_Program_cells : NoAttr K C_Program "cells"
  na_Program_inputs : NoAttr K C_Program "inputs"
  na_Program_steps : NoAttr K C_Program "steps"
  mk_Program : Mk K C_Program a_Program___init
  me_Program___neg : Meth K C_Program "__neg__" a_Program___neg
  me_Program_run : Meth K C_Program "run" a_Program_run
  E_BrimfulError : Addr
  gE_BrimfulError : mg "BrimfulError" = some (.ref E_BrimfulError)
  xE_BrimfulError : PySem.W.excIn K E_BrimfulError [.type "ValueError", .type "Exception", .type "BaseException", .type "object"] "ValueError.__new__" = true
  kE_BrimfulError : PySem.W.keepIn K (.ref E_BrimfulError) = true
  bE_BrimfulError : PySem.W.subIn K (.ref E_BrimfulError) (.type "BaseException") = some true
  tE_BrimfulError : PySem.W.typeIn K (.ref E_BrimfulError) = some (.type "type")
  dE_BrimfulError : PySem.W.hasDictIn K E_BrimfulError = true
  cE_BrimfulError : L2.ExcC K E_BrimfulError
  E_BadSource : Addr
  gE_BadSource : mg "BadSource" = some (.ref E_BadSource)
  xE_BadSource : PySem.W.excIn K E_BadSource [.type "ValueError", .type "Exception", .type "BaseException", .type "object"] "ValueError.__new__" = true
  kE_BadSource : PySem.W.keepIn K (.ref E_BadSource) = true
  bE_BadSource : PySem.W.subIn K (.ref E_BadSource) (.type "BaseException") = some true
  tE_BadSource : PySem.W.typeIn K (.ref E_BadSource) = some (.type "type")
  dE_BadSource : PySem.W.hasDictIn K E_BadSource = true
  cE_BadSource : L2.ExcC K E_BadSource
  E_BadStep : Addr
  gE_BadStep : mg "BadStep" = some (.ref E_BadStep)
  xE_BadStep : PySem.W.excIn K E_BadStep [.type "ValueError", .type "Exception", .type "BaseException", .type "object"] "ValueError.__new__" = true
  kE_BadStep : PySem.W.keepIn K (.ref E_BadStep) = true
  bE_BadStep : PySem.W.subIn K (.ref E_BadStep) (.type "BaseException") = some true
  tE_BadStep : PySem.W.typeIn K (.ref E_BadStep) = some (.type "type")
  dE_BadStep : PySem.W.hasDictIn K E_BadStep = true
  cE_BadStep : L2.ExcC K E_BadStep
  E_TooLong : Addr
  gE_TooLong : mg "TooLong" = some (.ref E_TooLong)
  xE_TooLong : PySem.W.excIn K E_TooLong [.type "ValueError", .type "Exception", .type "BaseException", .type "object"] "ValueError.__new__" = true
  kE_TooLong : PySem.W.keepIn K (.ref E_TooLong) = true
  bE_TooLong : PySem.W.subIn K (.ref E_TooLong) (.type "BaseException") = some true
  tE_TooLong : PySem.W.typeIn K (.ref E_TooLong) = some (.type "type")
  dE_TooLong : PySem.W.hasDictIn K E_TooLong = true
  cE_TooLong : L2.ExcC K E_TooLong
  E_BadMemory : Addr
  gE_BadMemory : mg "BadMemory" = some (.ref E_BadMemory)
  xE_BadMemory : PySem.W.excIn K E_BadMemory [.type "ValueError", .type "Exception", .type "BaseException", .type "object"] "ValueError.__new__" = true
  kE_BadMemory : PySem.W.keepIn K (.ref E_BadMemory) = true
  bE_BadMemory : PySem.W.subIn K (.ref E_BadMemory) (.type "BaseException") = some true
  tE_BadMemory : PySem.W.typeIn K (.ref E_BadMemory) = some (.type "type")
  dE_BadMemory : PySem.W.hasDictIn K E_BadMemory = true
  cE_BadMemory : L2.ExcC K E_BadMemory
  sE_BrimfulError_BrimfulError : PySem.W.subIn K (.ref E_BrimfulError) (.ref E_BrimfulError) = some true
  sE_BrimfulError_BadSource : PySem.W.subIn K (.ref E_BrimfulError) (.ref E_BadSource) = some false
  sE_BrimfulError_BadStep : PySem.W.subIn K (.ref E_BrimfulError) (.ref E_BadStep) = some false
  sE_BrimfulError_TooLong : PySem.W.subIn K (.ref E_BrimfulError) (.ref E_TooLong) = some false
  sE_BrimfulError_BadMemory : PySem.W.subIn K (.ref E_BrimfulError) (.ref E_BadMemory) = some false
  sE_BadSource_BrimfulError : PySem.W.subIn K (.ref E_BadSource) (.ref E_BrimfulError) = some true
  sE_BadSource_BadSource : PySem.W.subIn K (.ref E_BadSource) (.ref E_BadSource) = some true
  sE_BadSource_BadStep : PySem.W.subIn K (.ref E_BadSource) (.ref E_BadStep) = some false
  sE_BadSource_TooLong : PySem.W.subIn K (.ref E_BadSource) (.ref E_TooLong) = some false
  sE_BadSource_BadMemory : PySem.W.subIn K (.ref E_BadSource) (.ref E_BadMemory) = some false
  sE_BadStep_BrimfulError : PySem.W.subIn K (.ref E_BadStep) (.ref E_BrimfulError) = some true
  sE_BadStep_BadSource : PySem.W.subIn K (.ref E_BadStep) (.ref E_BadSource) = some false
  sE_BadStep_BadStep : PySem.W.subIn K (.ref E_BadStep) (.ref E_BadStep) = some true
  sE_BadStep_TooLong : PySem.W.subIn K (.ref E_BadStep) (.ref E_TooLong) = some false
  sE_BadStep_BadMemory : PySem.W.subIn K (.ref E_BadStep) (.ref E_BadMemory) = some false
  sE_TooLong_BrimfulError : PySem.W.subIn K (.ref E_TooLong) (.ref E_BrimfulError) = some true
  sE_TooLong_BadSource : PySem.W.subIn K (.ref E_TooLong) (.ref E_BadSource) = some false
  sE_TooLong_BadStep : PySem.W.subIn K (.ref E_TooLong) (.ref E_BadStep) = some false
  sE_TooLong_TooLong : PySem.W.subIn K (.ref E_TooLong) (.ref E_TooLong) = some true
  sE_TooLong_BadMemory : PySem.W.subIn K (.ref E_TooLong) (.ref E_BadMemory) = some false
  sE_BadMemory_BrimfulError : PySem.W.subIn K (.ref E_BadMemory) (.ref E_BrimfulError) = some true
  sE_BadMemory_BadSource : PySem.W.subIn K (.ref E_BadMemory) (.ref E_BadSource) = some false
  sE_BadMemory_BadStep : PySem.W.subIn K (.ref E_BadMemory) (.ref E_BadStep) = some false
  sE_BadMemory_TooLong : PySem.W.subIn K (.ref E_BadMemory) (.ref E_TooLong) = some false
  sE_BadMemory_BadMemory : PySem.W.subIn K (.ref E_BadMemory) (.ref E_BadMemory) = some true
  m_all : mg "all" = none
  m_any : mg "any" = none
  m_bool : mg "bool" = none
  m_enumerate : mg "enumerate" = none
  m_int : mg "int" = none
  m_isinstance : mg "isinstance" = none
  m_len : mg "len" = none
  m_list : mg "list" = none
  m_max : mg "max" = none
  m_min : mg "min" = none
  m_range : mg "range" = none
  m_str : mg "str" = none
  m_sum : mg "sum" = none
  m_tuple : mg "tuple" = none
  m_zip : mg "zip" = none
  m_gcd : mg "gcd" = some (.builtin "math.gcd")
  m_isqrt : mg "isqrt" = some (.builtin "math.isqrt")
  t_CELLS : Tok
  c_CELLS : mg "CELLS" = some (.int 3 t_CELLS)
  t_CONSTANTS_END : Tok
  c_CONSTANTS_END : mg "CONSTANTS_END" = some (.int 1000000000 t_CONSTANTS_END)
  t_GREATEST_MODULUS : Tok
  c_GREATEST_MODULUS : mg "GREATEST_MODULUS" = some (.int 1000000000 t_GREATEST_MODULUS)
  t_MOST_CELLS : Tok
  c_MOST_CELLS : mg "MOST_CELLS" = some (.int 60 t_MOST_CELLS)
  t_MOST_FACTORS : Tok
  c_MOST_FACTORS : mg "MOST_FACTORS" = some (.int 3 t_MOST_FACTORS)
  t_MOST_INPUTS_nodes : Tok
  c_MOST_INPUTS_nodes : mg "MOST_INPUTS_nodes" = some (.int 60 t_MOST_INPUTS_nodes)
  t_MOST_INPUTS_programs : Tok
  c_MOST_INPUTS_programs : mg "MOST_INPUTS_programs" = some (.int 60 t_MOST_INPUTS_programs)
  t_MOST_NODES : Tok
  c_MOST_NODES : mg "MOST_NODES" = some (.int 200 t_MOST_NODES)
  t_MOST_STEPS : Tok
  c_MOST_STEPS : mg "MOST_STEPS" = some (.int 20000 t_MOST_STEPS)
end Br
namespace Br
open PySem PySem.Spec PyProof.Rows L2
local macro_rules | `(tactic| walk_at "x1") => `(tactic| (with_reducible first
  | refine Br.x_seq ?_ | refine Br.x_set ?_ | refine Br.x_asg ?_ | refine Br.x_next ?_ | refine Br.x_ret ?_ | refine Br.x_retN ?_ | refine Br.x_drop ?_ | refine Br.x_if ?_ | refine Br.x_brk ?_ | refine Br.x_cont ?_
  | refine Br.x_c ?_ | refine Br.x_op ?_ | refine Br.x_un ?_ | refine Br.x_I0 ?_ | refine Br.x_U ?_ | refine Br.x_EqI ?_ | refine Br.x_NeI ?_ | refine Br.x_EqB ?_ | refine Br.x_iN ?_ | refine Br.x_int1 ?_ | refine Br.x_min2 ?_ | refine Br.x_max2 ?_ | refine Br.x_nN ?_ | refine Br.x_ifE ?_
  | refine Br.x_test (b := ()) ?_ | refine Br.x_tB ?_ | refine Br.x_bl ?_ | refine Br.x_and ?_ | refine Br.x_or ?_ | refine Br.x_not ?_ | refine Br.x_andV ?_ | refine Br.x_orV ?_ | refine Br.x_notV ?_ | refine Br.x_blP ?_
  | refine Br.x_nil ?_ | refine Br.x_cons ?_ | refine Br.x_call ?_ | refine Br.x_CB ?_ | refine Br.x_BM ?_ | refine Br.x_tup ?_ | refine Br.x_lst ?_ | refine Br.x_chain ?_ | refine Br.x_par ?_ | refine Br.x_gSub ?_ | refine Br.x_gName ?_ | refine Br.x_fld ?_ | refine Br.x_fldS ?_ | refine Br.x_match ?_ | refine Br.x_else ?_ | refine Br.x_noCase ?_))
local macro_rules | `(tactic| walk_at "xv") => `(tactic| ((with_reducible refine' Br.x_var ?hvar ?_); (case hvar => rfl)))
local macro_rules | `(tactic| walk_at "xd") => `(tactic| (dsimp only [List.set_cons_zero, List.set_cons_succ, List.cons_append, List.nil_append, List.append_nil]))
local macro_rules | `(tactic| walk_at "xi") => `(tactic| ((with_reducible refine Br.x_I ?hside ?_); (case hside => first | exact Br.mul_r (by decide) (by decide) | exact Br.mul_l (by decide) (by decide) | exact Br.mul_l (by omega) (by omega) | exact Br.mul_r (by omega) (by omega) | (show (0 : Int) < _; first | decide | omega) | exact ⟨by decide, by decide⟩ | exact ⟨by omega, by omega⟩ | exact ⟨by decide, by decide, by decide⟩)))
local macro_rules | `(tactic| walk_at "x") => `(tactic| (repeat (first | walk_at "x1" | walk_at "xv" | walk_at "xi" | walk_at "xd")))
local macro_rules | `(tactic| walk_at "start") => `(tactic| (simp only [L2.start, List.map_cons, List.map_nil, List.length_cons, List.length_nil, Nat.reduceAdd, Nat.reduceSub, List.replicate, List.cons_append, List.nil_append, List.append_nil]))
local macro_rules | `(tactic| walk_at "isi") => `(tactic| first
  | refine Br.x_isi (b := true) (.base (.int _)) (by decide +kernel) ?_ | refine Br.x_isi (b := false) (.base (.int _)) (by decide +kernel) ?_
  | refine Br.x_isi (b := true) (.base (.bl _)) (by decide +kernel) ?_ | refine Br.x_isi (b := false) (.base (.bl _)) (by decide +kernel) ?_
  | refine Br.x_isi (b := false) (.base .non) (by decide +kernel) ?_
  | refine Br.x_isi (b := true) (.base (.str _)) (by decide +kernel) ?_ | refine Br.x_isi (b := false) (.base (.str _)) (by decide +kernel) ?_
  | refine Br.x_isi (b := true) (.base (.tup (by assumption))) (by decide +kernel) ?_ | refine Br.x_isi (b := false) (.base (.tup (by assumption))) (by decide +kernel) ?_
  | refine Br.x_isi (b := true) (.base (.lst (by assumption))) (by decide +kernel) ?_ | refine Br.x_isi (b := false) (.base (.lst (by assumption))) (by decide +kernel) ?_)
local macro_rules | `(tactic| walk_at "f") => `(tactic| (refine L2.iteF ?_; walk_at "x"))
local macro_rules | `(tactic| walk_at "t") => `(tactic| (refine L2.iteT ?_; walk_at "x"))
local macro_rules | `(tactic| walk_at "is") => `(tactic| (walk_at "isi"; walk_at "x"))
local macro_rules | `(tactic| walk_at "xb") => `(tactic| (simp only [Br.bindS, List.set_cons_zero, List.set_cons_succ]; walk_at "x"))

section
variable {P : Program} {w : World} {K : PySem.W.Frag} {mg : Str → Option Value} {base : Heap}

/-! ### the draws -/
/-- the draws at d: a list of a list of numbers (at n) and a place -/
def Dr (H : Hp) (d n : Addr) : Prop := ∃ (ns : List Int) (k : Int), H d = some (.lst [.ref n, .int k]) ∧ H n = some (.lst (ns.map V.int)) ∧ Rg 0 1000000 ns ∧ 0 ≤ k ∧ ns.length ≤ 3780
theorem Dr.ne {H : Hp} {d n : Addr} (h : Dr H d n) : H d ≠ none := by
  obtain ⟨_, _, h, _⟩ := h
  rw [h]
  exact fun z => nomatch z
theorem Dr.new {H : Hp} {d n p : Addr} (h : Dr H d n) (hp : H p = none) : p ≠ d := fun e => h.ne (e ▸ hp)
theorem Dr.newN {H : Hp} {d n p : Addr} (h : Dr H d n) (hp : H p = none) : p ≠ n := fun e => by
  obtain ⟨_, _, _, h2, _⟩ := h
  rw [← e, hp] at h2
  cases h2
theorem Dr.dn {H : Hp} {d n : Addr} (h : Dr H d n) : d ≠ n := by
  obtain ⟨ns, k, h1, h2, _⟩ := h
  exact ne_of h1 h2 (by
    intro e
    have e1 : [V.ref n, V.int k] = ns.map V.int := HO.lst.inj e
    cases ns with
    | nil => cases e1
    | cons x r => cases (List.cons.inj e1).1)
/-- changes elsewhere -/
theorem Dr.upd {H : Hp} {d n p : Addr} {o : HO} (h : Dr H d n) (hd : p ≠ d) (hn : p ≠ n) : Dr (upd H p o) d n := by
  obtain ⟨ns, k, h1, h2, h3⟩ := h
  exact ⟨ns, k, by rw [upd_ne hd.symm]; exact h1, by rw [upd_ne hn.symm]; exact h2, h3⟩
theorem Dr.upd0 {H : Hp} {d n p : Addr} {o : HO} (h : Dr H d n) (hp : H p = none) : Dr (L2.upd H p o) d n := h.upd (h.new hp) (h.newN hp)
theorem Dr.same {H H' : Hp} {d n : Addr} (h : Dr H d n) (s : Same H H') : Dr H' d n := by
  obtain ⟨ns, k, h1, h2, h3⟩ := h
  exact ⟨ns, k, s _ _ h1, s _ _ h2, h3⟩
/-- what is fresh behind was fresh ahead -/
theorem Keep.free {H H' : Hp} {d n p : Addr} (s : Keep d H H') (h : Dr H' d n) (hp : H' p = none) : H p = none := by
  cases e : H p with
  | none => rfl
  | some o =>
    by_cases hd : p = d
    · rw [hd] at hp
      exact absurd hp h.ne
    · rw [s p o e hd] at hp
      cases hp
theorem Dr.mk {H : Hp} {d n : Addr} {ns : List Int} (hn : H n = some (.lst (ns.map V.int))) (hr : Rg 0 1000000 ns) (hl : ns.length ≤ 3780) (hd : H d = none) : Dr (L2.upd H d (.lst [.ref n, .int 0])) d n :=
  ⟨ns, 0, upd_same, by rw [upd_ne (ne_of_none hn hd)]; exact hn, hr, Int.le_refl _, hl⟩
/-- what a def that draws gives: a value of which P, the draws moved on -/
abbrev RetD (d n : Addr) (P : V → Prop) (H : Hp) (Q : VK) : Prop := ∀ v H', P v → Dr H' d n → Keep d H H' → Q v H'
abbrev RetG (d n : Addr) (P : V → Hp → Prop) (H : Hp) (Q : VK) : Prop := ∀ v H', P v H' → Dr H' d n → Keep d H H' → Q v H'
abbrev IsI (lo hi : Int) : V → Prop := fun v => ∃ z : Int, v = .int z ∧ lo ≤ z ∧ z < hi

def sp_law_mixed (K : PySem.W.Frag) : Sp := fun vs H Q _ => ∃ i k : Int, vs = [.int i, .int k] ∧ ∀ r : Int, 0 ≤ r → r < 2147483647 → Q (.int r) H
theorem ok_law_mixed (T : Txt K mg) : FnOk P w K mg base CX0 1 T.a_law_mixed T.fd_law_mixed ["number", "k"] (sp_law_mixed K) := by
  refine T.F_law_mixed.ok sc_law_mixed (fun vs H Q E h => ?_) (fun cdv A outer s H vs Q E hr h => ?_)
  · obtain ⟨i, k, rfl, _⟩ := h
    rfl
  · obtain ⟨i, k, rfl, q⟩ := h
    refine ⟨_, (pss_cons (ps_set (i := 2) sc_law_mixed.nd rfl (.inl rfl) (pe_op op_mod (pe_op op_add (pe_op op_add (pe_op op_mul (pv 0) pe_int) (pe_op op_mul (pv 1) pe_int)) pe_int) pe_int))
      (pss_one (ps_ret (pe_op op_mod (pe_op op_add (pe_op op_mul (pv 2) (pe_op op_add (pe_op op_fdiv (pv 2) pe_int) pe_int)) (pv 1)) pe_int)))), ?_⟩
    walk_at "start"
    walk_at "x"
    exact q _ (Int.emod_nonneg _ (by decide)) (Int.emod_lt_of_pos _ (by decide))


def sp_law_numbers (K : PySem.W.Frag) : Sp := fun vs H Q _ => ∃ (a : Addr) (ns : List Int), vs = [.ref a] ∧ SqL K H a (ns.map V.int) ∧ ns.length ≤ 63 ∧
  ∀ (p : Addr) (ms : List Int) (H' : Hp), H p = none → Same H H' → H' p = some (.lst (ms.map V.int)) → Rg 0 1000000 ms → ms.length ≤ 3780 → Q (.ref p) H'
/-- the numbers so far -/
def NumI (H : Hp) (p : Addr) (n : Nat) (H' : Hp) : Prop := ∃ ms : List Int, Same H H' ∧ H' p = some (.lst (ms.map V.int)) ∧ Rg 0 1000000 ms ∧ ms.length ≤ n
theorem NumI.app {H H' : Hp} {p : Addr} {n : Nat} (h : NumI H p n H') (hp : H p = none) (hn : n ≤ 100000) {R : VK} {z : Int} (h1 : 0 ≤ z) (h2 : z < 1000000) (q : ∀ H2, NumI H p (n + 1) H2 → R .non H2) : rAppend (.ref p) [.int z] H' R := by
  obtain ⟨ms, s, e, r, l⟩ := h
  refine x_app e (by rw [List.length_map]; omega) (q _ ⟨ms ++ [z], sput s hp, ?_, r.snoc h1 h2, ?_⟩)
  · rw [upd_same, List.map_append]; rfl
  · rw [List.length_append]; exact Nat.add_le_add_right l 1
theorem NumI.ty {K : PySem.W.Frag} {H H' : Hp} {p : Addr} {n : Nat} (h : NumI H p n H') {R : Prop} (q : R) : tyV K "list" (.ref p) H' ∧ R := by
  obtain ⟨ms, s, e, r, l⟩ := h
  exact x_tyL e q
theorem NumI.mono {H H' : Hp} {p : Addr} {n m : Nat} (h : NumI H p n H') (l : n ≤ m) : NumI H p m H' := by
  obtain ⟨ms, s, e, r, k⟩ := h
  exact ⟨ms, s, e, r, Nat.le_trans k l⟩
theorem ok_law_numbers (T : Txt K mg) : FnOk P w K mg base CX0 2 T.a_law_numbers T.fd_law_numbers ["script"] (sp_law_numbers K) := by
  refine T.F_law_numbers.ok sc_law_numbers (fun vs H Q E h => ?_) (fun cdv A outer s H vs Q E hr h => ?_)
  · obtain ⟨a, ns, rfl, _⟩ := h
    rfl
  · obtain ⟨a, ns, rfl, hS, hl, q⟩ := h
    refine ⟨_, (pss_cons (ps_set (i := 1) sc_law_numbers.nd rfl (.inl rfl) (pe_lst pa_nil))
      (pss_cons (ps_for PassesOwn.never rfl (pi_list (pv 0)) (pg_name (i := 2) sc_law_numbers.nd rfl (Or.inl rfl))
      (pss_one (ps_if (pt_cmpR op_ge (pv 2) (pe_op op_pow pe_int pe_int) (nomark _))
      (pss_cons (ps_set (i := 3) sc_law_numbers.nd rfl (.inl rfl) (pv 2))
      (pss_one (ps_for PassesOwn.never rfl (pi_range1 (by rfl) T.m_range (pa_cons pe_int pa_nil)) (pg_name (i := 4) sc_law_numbers.nd rfl (Or.inl rfl))
      (pss_one (ps_if (pt_cmpR op_gt (pv 3) pe_int (nomark _))
      (pss_cons (ps_expr (pe_bm PySem.F.plainAttrs_list PySem.F.slot_list_append PySem.F.type_list_append mt_append (pv 1) (pa_cons (pe_op op_mod (pv 3) pe_int) pa_nil)))
      (pss_one (ps_set (i := 3) sc_law_numbers.nd rfl (.inl rfl) (pe_op op_fdiv (pv 3) pe_int))))
      pss_nil)))))
      (pss_cons (ps_expr (pe_bm PySem.F.plainAttrs_list PySem.F.slot_list_append PySem.F.type_list_append mt_append (pv 1) (pa_cons (pe_op op_mod (pv 2) pe_int) pa_nil)))
      (pss_one (ps_for PassesOwn.never rfl (pi_range1 (by rfl) T.m_range (pa_cons pe_int pa_nil)) (pg_name (i := 4) sc_law_numbers.nd rfl (Or.inl rfl))
      (pss_one (ps_expr (pe_bm PySem.F.plainAttrs_list PySem.F.slot_list_append PySem.F.type_list_append mt_append (pv 1) (pa_cons (pe_op op_mod (pe_call (ok_law_mixed T) hr (by rfl) T.g_law_mixed T.F_law_mixed.kp T.b_law_mixed .nil pass0 (pa_cons (pe_call (ok_law_mixed T) hr (by rfl) T.g_law_mixed T.F_law_mixed.kp T.b_law_mixed .nil pass0 (pa_cons (pe_op op_mod (pv 2) pe_int) (pa_cons (pv 4) pa_nil))) (pa_cons (pe_op op_add (pv 4) pe_int) pa_nil))) pe_int) pa_nil))))))))))
      (pss_one (ps_ret (pv 1))))), ?_⟩
    walk_at "start"
    walk_at "x"
    refine ⟨Nat.zero_le _, fun p hp => ?_⟩
    walk_at "x"
    refine x_forL (p := a) (ns.map V.int) (fun i σ' H' => ∃ v2 v3 v4, σ' = [some (.ref a), some (.ref p), v2, v3, v4] ∧ NumI H p (60 * i) H') (fun R r => ⟨_, rfl, r⟩) ((same_upd hp).seq hS) ?_ ?_ ?_ ?_
    · exact ⟨none, none, none, rfl, [], same_upd hp, upd_same, .nil, Nat.le_refl _⟩
    · rintro i σ' H' hi ⟨v2, v3, v4, rfl, ms, s, _⟩
      exact s.seq hS
    · rintro i x σ' H' hx ⟨v2, v3, v4, rfl, hN⟩
      obtain ⟨z, hz, rfl⟩ := map_get hx
      have hi : i < 63 := by
        have := (List.getElem?_eq_some_iff.mp hz).1
        omega
      walk_at "x"
      refine x_ite (fun hc => ?_) (fun hc => ?_)
      · walk_at "x"
        refine x_forR1 60 (fun j σ' H' => ∃ r v4, σ' = [some (.ref a), some (.ref p), some (.int z), some (.int r), v4] ∧ NumI H p (60 * i + j) H') (fun R r => r) (by decide) (by decide) ⟨z, v4, rfl, hN⟩ ?_ ?_
        · rintro j σ' H2 hj ⟨r, v4, rfl, hN⟩
          walk_at "x"
          refine x_ite (fun hc => ?_) (fun hc => ?_)
          · walk_at "x"
            refine hN.ty ?_
            walk_at "x"
            refine hN.app hp (by omega) (Int.emod_nonneg _ (by decide)) (Int.emod_lt_of_pos _ (by decide)) fun H3 hN3 => ?_
            walk_at "x"
            exact ⟨_, _, rfl, hN3⟩
          · walk_at "x"
            exact ⟨r, _, rfl, hN.mono (by omega)⟩
        · rintro σ' H2 ⟨r, v4, rfl, hN⟩
          exact ⟨_, _, _, rfl, hN.mono (by show 60 * i + (60 : Int).toNat ≤ 60 * (i + 1); omega)⟩
      · walk_at "x"
        refine hN.ty ?_
        walk_at "x"
        refine hN.app hp (by omega) (Int.emod_nonneg _ (by decide)) (Int.emod_lt_of_pos _ (by decide)) fun H3 hN3 => ?_
        walk_at "x"
        refine x_forR1 5 (fun j σ' H' => ∃ v4, σ' = [some (.ref a), some (.ref p), some (.int z), v3, v4] ∧ NumI H p (60 * i + 1 + j) H') (fun R r => r) (by decide) (by decide) ⟨v4, rfl, hN3⟩ ?_ ?_
        · rintro j σ' H2 hj ⟨v4, rfl, hN⟩
          walk_at "x"
          refine hN.ty ?_
          walk_at "x"
          refine ⟨_, _, rfl, fun r h0 h1 => ?_⟩
          walk_at "x"
          refine ⟨_, _, rfl, fun r h0 h1 => ?_⟩
          walk_at "x"
          refine hN.app hp (by omega) (Int.emod_nonneg _ (by decide)) (Int.emod_lt_of_pos _ (by decide)) fun H3 hN3 => ?_
          walk_at "x"
          exact ⟨_, rfl, hN3⟩
        · rintro σ' H2 ⟨v4, rfl, hN⟩
          exact ⟨_, _, _, rfl, hN.mono (by show 60 * i + 1 + (5 : Int).toNat ≤ 60 * (i + 1); omega)⟩
    · rintro σ' H' ⟨v2, v3, v4, rfl, ms, s, e, r, l⟩
      walk_at "x"
      exact q p ms H' hp s e r (by rw [List.length_map] at l; omega)


def sp_law_draw (K : PySem.W.Frag) : Sp := fun vs H Q _ => ∃ (d n : Addr), vs = [.ref d] ∧ Dr H d n ∧ RetD d n (IsI 0 1000000) H Q
theorem ok_law_draw (T : Txt K mg) : FnOk P w K mg base CX0 2 T.a_law_draw T.fd_law_draw ["draws"] (sp_law_draw K) := by
  refine T.F_law_draw.ok sc_law_draw (fun vs H Q E h => ?_) (fun cdv A outer s H vs Q E hr h => ?_)
  · obtain ⟨d, n, rfl, _⟩ := h
    rfl
  · obtain ⟨d, n, rfl, hD, q⟩ := h
    have hn := hD.dn
    obtain ⟨ns, k, h1, h2, h3, h4, h5⟩ := hD
    have hD : Dr (upd H d (.lst [.ref n, .int (k + 1)])) d n := ⟨ns, k + 1, upd_same, by rw [upd_ne hn.symm]; exact h2, h3, by omega, h5⟩
    refine ⟨_, (pss_cons (ps_set (i := 1) sc_law_draw.nd rfl (.inl rfl) (pe_ix (r := rIxL K) ix_list (pv 0) pe_int (fun _ _ => rfl)))
      (pss_cons (ps_asg (pe_op op_add (pv 1) pe_int) (pg_sub (pv 0) pe_int set_list))
      (pss_cons (ps_if (pt_cmpR op_lt (pv 1) (pe_callB (id := "len") (r := rLen K) cr_len (by rfl) T.m_len PySem.boot_len (pa_cons (pe_ix (r := rIxL K) ix_list (pv 0) pe_int (fun _ _ => rfl)) pa_nil)) (nomark _))
      (pss_one (ps_ret (pe_ix (r := rIxL K) ix_list (pe_ix (r := rIxL K) ix_list (pv 0) pe_int (fun _ _ => rfl)) (pv 1) (fun _ _ => rfl))))
      pss_nil)
      (pss_cons (ps_set (i := 2) sc_law_draw.nd rfl (.inl rfl) (pe_op op_add pe_int (pv 1)))
      (pss_cons (ps_if (pt_cmpR op_gt (pe_callB (id := "len") (r := rLen K) cr_len (by rfl) T.m_len PySem.boot_len (pa_cons (pe_ix (r := rIxL K) ix_list (pv 0) pe_int (fun _ _ => rfl)) pa_nil)) pe_int (nomark _))
      (pss_one (ps_set (i := 2) sc_law_draw.nd rfl (.inl rfl) (pe_op op_add (pv 2) (pe_op op_mul pe_int (pe_ix (r := rIxL K) ix_list (pe_ix (r := rIxL K) ix_list (pv 0) pe_int (fun _ _ => rfl)) pe_int (fun _ _ => rfl))))))
      pss_nil)
      (pss_one (ps_ret (pe_op op_mod (pe_call (ok_law_mixed T) hr (by rfl) T.g_law_mixed T.F_law_mixed.kp T.b_law_mixed .nil pass0 (pa_cons (pe_call (ok_law_mixed T) hr (by rfl) T.g_law_mixed T.F_law_mixed.kp T.b_law_mixed .nil pass0 (pa_cons (pv 2) (pa_cons (pv 1) pa_nil))) (pa_cons pe_int pa_nil))) pe_int)))))))), ?_⟩
    walk_at "start"
    walk_at "x"
    refine x_ixL (sq_of h1) (show _ = some (V.int k) from rfl) ?_
    walk_at "x"
    refine x_subL (k := 1) h1 rfl ?_
    walk_at "x"
    have hd : (upd H d (HO.lst [.ref n, .int (k + 1)])) d = some (.lst [.ref n, .int (k + 1)]) := upd_same
    have hnn : (upd H d (HO.lst [.ref n, .int (k + 1)])) n = some (.lst (ns.map V.int)) := by rw [upd_ne hn.symm]; exact h2
    refine x_ixL (sq_of hd) (show _ = some (V.ref n) from rfl) ?_
    walk_at "x"
    refine x_len (sq_of hnn) ?_
    walk_at "x"
    rw [List.length_map]
    refine x_ite (fun hc => ?_) (fun hc => ?_)
    · walk_at "x"
      refine x_ixL (sq_of hd) (show _ = some (V.ref n) from rfl) ?_
      walk_at "x"
      obtain ⟨j, rfl⟩ : ∃ j : Nat, k = (j : Int) := ⟨k.toNat, by omega⟩
      have hj : j < ns.length := by omega
      refine x_ixL (v := .int ns[j]) (sq_of hnn) (atI_nat (by rw [List.getElem?_map, List.getElem?_eq_getElem hj]; rfl)) ?_
      exact q _ _ ⟨_, rfl, h3 _ (List.getElem_mem hj)⟩ hD keep_upd
    · walk_at "x"
      refine x_ixL (sq_of hd) (show _ = some (V.ref n) from rfl) ?_
      walk_at "x"
      refine x_len (sq_of hnn) ?_
      walk_at "x"
      rw [List.length_map]
      refine x_ite (fun hc => ?_) (fun hc => ?_)
      · walk_at "x"
        refine x_ixL (sq_of hd) (show _ = some (V.ref n) from rfl) ?_
        walk_at "x"
        have hj : 0 < ns.length := by omega
        refine x_ixL (v := .int ns[0]) (sq_of hnn) (atI_nat (j := 0) (by rw [List.getElem?_map, List.getElem?_eq_getElem hj]; rfl)) ?_
        walk_at "x"
        refine ⟨_, _, rfl, fun r h0 h1 => ?_⟩
        walk_at "x"
        refine ⟨_, _, rfl, fun r h0 h1 => ?_⟩
        walk_at "x"
        exact q _ _ ⟨_, rfl, Int.emod_nonneg _ (by decide), Int.emod_lt_of_pos _ (by decide)⟩ hD keep_upd
      · walk_at "x"
        refine ⟨_, _, rfl, fun r h0 h1 => ?_⟩
        walk_at "x"
        refine ⟨_, _, rfl, fun r h0 h1 => ?_⟩
        walk_at "x"
        exact q _ _ ⟨_, rfl, Int.emod_nonneg _ (by decide), Int.emod_lt_of_pos _ (by decide)⟩ hD keep_upd


def sp_law_large (K : PySem.W.Frag) : Sp := fun vs H Q _ => ∃ (d n : Addr) (b : Int), vs = [.ref d, .int b] ∧ 0 < b ∧ Dr H d n ∧ RetD d n (IsI 0 b) H Q
theorem ok_law_large (T : Txt K mg) : FnOk P w K mg base CX0 3 T.a_law_large T.fd_law_large ["draws", "bound"] (sp_law_large K) := by
  refine T.F_law_large.ok sc_law_large (fun vs H Q E h => ?_) (fun cdv A outer s H vs Q E hr h => ?_)
  · obtain ⟨d, n, b, rfl, _⟩ := h
    rfl
  · obtain ⟨d, n, b, rfl, hb, hD, q⟩ := h
    refine ⟨_, (pss_cons (ps_set (i := 2) sc_law_large.nd rfl (.inl rfl) (pe_op op_add (pe_call (ok_law_draw T) hr (by rfl) T.g_law_draw T.F_law_draw.kp T.b_law_draw .nil pass0 (pa_cons (pv 0) pa_nil)) (pe_op op_mul (pe_op op_pow pe_int pe_int) (pe_op op_mod (pe_call (ok_law_draw T) hr (by rfl) T.g_law_draw T.F_law_draw.kp T.b_law_draw .nil pass0 (pa_cons (pv 0) pa_nil)) pe_int))))
      (pss_one (ps_ret (pe_op op_mod (pv 2) (pv 1))))), ?_⟩
    walk_at "start"
    walk_at "x"
    refine ⟨d, n, rfl, hD, ?_⟩
    rintro _ H1 ⟨z, rfl, hz0, hz1⟩ hD1 hk1
    walk_at "x"
    refine ⟨d, n, rfl, hD1, ?_⟩
    rintro _ H2 ⟨y, rfl, hy0, hy1⟩ hD2 hk2
    walk_at "x"
    exact q _ _ ⟨_, rfl, Int.emod_nonneg _ (by omega), Int.emod_lt_of_pos _ hb⟩ hD2 (hk1.trans hk2)


def sp_law_modulus (K : PySem.W.Frag) : Sp := fun vs H Q _ => ∃ (d n : Addr), vs = [.ref d] ∧ Dr H d n ∧ RetD d n (IsI 2 1000000001) H Q
theorem ok_law_modulus (T : Txt K mg) : FnOk P w K mg base CX0 4 T.a_law_modulus T.fd_law_modulus ["draws"] (sp_law_modulus K) := by
  refine T.F_law_modulus.ok sc_law_modulus (fun vs H Q E h => ?_) (fun cdv A outer s H vs Q E hr h => ?_)
  · obtain ⟨d, n, rfl, _⟩ := h
    rfl
  · obtain ⟨d, n, rfl, hD, q⟩ := h
    refine ⟨_, (pss_cons (ps_set (i := 1) sc_law_modulus.nd rfl (.inl rfl) (pe_op op_mod (pe_call (ok_law_draw T) (hr.mono (by decide)) (by rfl) T.g_law_draw T.F_law_draw.kp T.b_law_draw .nil pass0 (pa_cons (pv 0) pa_nil)) pe_int))
      (pss_cons (ps_if (pt_cmpR op_lt (pv 1) pe_int (nomark _))
      (pss_one (ps_ret (pe_ix (r := rIxL K) ix_list (pe_lst (pa_cons pe_int (pa_cons pe_int (pa_cons (pe_op op_pow pe_int pe_int) (pa_cons pe_int pa_nil))))) (pv 1) (fun _ _ => rfl))))
      pss_nil)
      (pss_cons (ps_if (pt_cmpR op_lt (pv 1) pe_int (nomark _))
      (pss_one (ps_ret (pe_op op_add pe_int (pe_op op_mod (pe_call (ok_law_draw T) (hr.mono (by decide)) (by rfl) T.g_law_draw T.F_law_draw.kp T.b_law_draw .nil pass0 (pa_cons (pv 0) pa_nil)) pe_int))))
      pss_nil)
      (pss_one (ps_ret (pe_op op_add pe_int (pe_call (ok_law_large T) hr (by rfl) T.g_law_large T.F_law_large.kp T.b_law_large .nil pass0 (pa_cons (pv 0) (pa_cons (pe_op op_sub (pe_op op_pow pe_int pe_int) pe_int) pa_nil))))))))), ?_⟩
    walk_at "start"
    walk_at "x"
    refine ⟨d, n, rfl, hD, ?_⟩
    rintro _ H1 ⟨z, rfl, hz0, hz1⟩ hD1 hk1
    walk_at "x"
    have z0 : 0 ≤ z % 8 := Int.emod_nonneg _ (by decide)
    refine x_ite (fun hc => ?_) (fun hc => ?_)
    · walk_at "x"
      refine ⟨by show 4 ≤ sizeLine; decide, fun p hp => ?_⟩
      walk_at "x"
      obtain ⟨v, hv, hm⟩ := at_lt (xs := [.int 2, .int 3, .int (10 ^ (9 : Int).toNat), .int 999999937]) z0 (show _ < (4 : Int) from hc)
      refine x_ixL (sq_of upd_same) hv ?_
      walk_at "x"
      have hm' : v = .int 2 ∨ v = .int 3 ∨ v = .int 1000000000 ∨ v = .int 999999937 := by simpa using hm
      refine q _ _ ?_ (hD1.upd0 hp) (hk1.trans (Same.keep (same_upd hp)))
      rcases hm' with rfl | rfl | rfl | rfl <;> exact ⟨_, rfl, by decide, by decide⟩
    · walk_at "x"
      refine x_ite (fun hc => ?_) (fun hc => ?_)
      · walk_at "x"
        refine ⟨d, n, rfl, hD1, ?_⟩
        rintro _ H2 ⟨y, rfl, hy0, hy1⟩ hD2 hk2
        walk_at "x"
        have y0 : 0 ≤ y % 60 := Int.emod_nonneg _ (by decide)
        have y1 : y % 60 < 60 := Int.emod_lt_of_pos _ (by decide)
        exact q _ _ ⟨_, rfl, by omega, by omega⟩ hD2 (hk1.trans hk2)
      · walk_at "x"
        refine ⟨d, n, _, rfl, by decide, hD1, ?_⟩
        rintro _ H2 ⟨y, rfl, hy0, hy1⟩ hD2 hk2
        walk_at "x"
        have e : (10 ^ (9 : Int).toNat - 1 : Int) = 999999999 := by decide
        rw [e] at hy1
        exact q _ _ ⟨_, rfl, by omega, by omega⟩ hD2 (hk1.trans hk2)


def sp_law_number (K : PySem.W.Frag) : Sp := fun vs H Q _ => ∃ (d n : Addr) (m : Int), vs = [.ref d, .int m] ∧ 2 ≤ m ∧ Dr H d n ∧ RetD d n (IsI 0 m) H Q
theorem ok_law_number (T : Txt K mg) : FnOk P w K mg base CX0 4 T.a_law_number T.fd_law_number ["draws", "modulus"] (sp_law_number K) := by
  refine T.F_law_number.ok sc_law_number (fun vs H Q E h => ?_) (fun cdv A outer s H vs Q E hr h => ?_)
  · obtain ⟨d, n, m, rfl, _⟩ := h
    rfl
  · obtain ⟨d, n, m, rfl, hm, hD, q⟩ := h
    refine ⟨_, (pss_cons (ps_set (i := 2) sc_law_number.nd rfl (.inl rfl) (pe_op op_mod (pe_call (ok_law_draw T) (hr.mono (by decide)) (by rfl) T.g_law_draw T.F_law_draw.kp T.b_law_draw .nil pass0 (pa_cons (pv 0) pa_nil)) pe_int))
      (pss_cons (ps_if (pt_cmpR op_lt (pv 2) pe_int (nomark _))
      (pss_one (ps_ret (pe_ix (r := rIxL K) ix_list (pe_lst (pa_cons pe_int (pa_cons pe_int (pa_cons (pe_op op_sub (pv 1) pe_int) pa_nil)))) (pv 2) (fun _ _ => rfl))))
      pss_nil)
      (pss_one (ps_ret (pe_call (ok_law_large T) hr (by rfl) T.g_law_large T.F_law_large.kp T.b_law_large .nil pass0 (pa_cons (pv 0) (pa_cons (pv 1) pa_nil))))))), ?_⟩
    walk_at "start"
    walk_at "x"
    refine ⟨d, n, rfl, hD, ?_⟩
    rintro _ H1 ⟨z, rfl, hz0, hz1⟩ hD1 hk1
    walk_at "x"
    have z0 : 0 ≤ z % 6 := Int.emod_nonneg _ (by decide)
    refine x_ite (fun hc => ?_) (fun hc => ?_)
    · walk_at "x"
      refine ⟨by show 3 ≤ sizeLine; decide, fun p hp => ?_⟩
      walk_at "x"
      obtain ⟨v, hv, hm⟩ := at_lt (xs := [.int 0, .int 1, .int (m - 1)]) z0 (show _ < (3 : Int) from hc)
      refine x_ixL (sq_of upd_same) hv ?_
      walk_at "x"
      have hm' : v = .int 0 ∨ v = .int 1 ∨ v = .int (m - 1) := by simpa using hm
      refine q _ _ ?_ (hD1.upd0 hp) (hk1.trans (Same.keep (same_upd hp)))
      rcases hm' with rfl | rfl | rfl <;> exact ⟨_, rfl, by omega, by omega⟩
    · walk_at "x"
      refine ⟨d, n, _, rfl, by omega, hD1, ?_⟩
      rintro _ H2 ⟨y, rfl, hy0, hy1⟩ hD2 hk2
      walk_at "x"
      exact q _ _ ⟨_, rfl, hy0, hy1⟩ hD2 (hk1.trans hk2)


def sp_law_gcd (K : PySem.W.Frag) : Sp := fun vs H Q _ => ∃ a b : Int, vs = [.int a, .int b] ∧ 0 ≤ a ∧ a < 2 ^ 31 ∧ 0 ≤ b ∧ b < 2 ^ 31 ∧ Q (.int (Int.gcd a b : Nat)) H
theorem ok_law_gcd (T : Txt K mg) : FnOk P w K mg base CX0 1 T.a_law_gcd T.fd_law_gcd ["one", "two"] (sp_law_gcd K) := by
  refine T.F_law_gcd.ok sc_law_gcd (fun vs H Q E h => ?_) (fun cdv A outer s H vs Q E hr h => ?_)
  · obtain ⟨a, b, rfl, _⟩ := h
    rfl
  · obtain ⟨a, b, rfl, ha0, ha1, hb0, hb1, q⟩ := h
    refine ⟨_, (pss_cons (ps_for PassesOwn.never rfl (pi_range1 (by rfl) T.m_range (pa_cons pe_int pa_nil)) (pg_name (i := 2) sc_law_gcd.nd rfl (Or.inl rfl))
      (pss_cons (ps_if (pt_cmpR op_eq (pv 1) pe_int (nomark _))
      (pss_one (ps_ret (pv 0)))
      pss_nil)
      (pss_cons (ps_set (i := 3) sc_law_gcd.nd rfl (.inl rfl) (pe_op op_mod (pe_callTy (T := "int") (r := rInt1) cr_int1 (by rfl) T.m_int (by decide +kernel) (pa_cons (pv 0) pa_nil)) (pv 1)))
      (pss_cons (ps_set (i := 0) sc_law_gcd.nd rfl (.inl rfl) (pv 1))
      (pss_one (ps_set (i := 1) sc_law_gcd.nd rfl (.inl rfl) (pv 3)))))))
      (pss_one (ps_ret (pv 0)))), ?_⟩
    walk_at "start"
    walk_at "x"
    refine x_forR1 200 (fun i σ' H' => i ≤ 100 ∧ H' = H ∧ ∃ x y v2 v3, σ' = [some (.int x), some (.int y), v2, v3] ∧ 0 ≤ x ∧ 0 ≤ y ∧ Int.gcd x y = Int.gcd a b ∧ ((i = 0 ∧ x < 2 ^ 31 ∧ y < 2 ^ 31) ∨ (y < x ∧ x * y * 2 ^ i ≤ 2 ^ 70))) (fun R r => r) (by decide) (by decide) ⟨by decide, rfl, a, b, _, _, rfl, ha0, hb0, rfl, .inl ⟨rfl, ha1, hb1⟩⟩ ?_ ?_
    · rintro i σ' H' hi ⟨hi2, rfl, x, y, v2, v3, rfl, hx, hy, hg, hI⟩
      walk_at "x"
      refine x_ite (fun hc => ?_) (fun hc => ?_)
      · walk_at "x"
        rw [hc, Int.gcd_zero_right] at hg
        have e : x = ((Int.gcd a b : Nat) : Int) := by omega
        rw [e]
        exact q
      · have hy1 : 0 < y := by omega
        walk_at "x"
        have r0 := Int.emod_nonneg x (show y ≠ 0 by omega)
        have r1 := Int.emod_lt_of_pos x hy1
        refine ⟨?_, rfl, _, _, _, _, rfl, hy, r0, by rw [gcd_step]; exact hg, .inr ⟨r1, ?_⟩⟩
        · rcases hI with ⟨e, _⟩ | ⟨h1, h2⟩
          · omega
          · by_cases hh : i < 70
            · omega
            · have h3 : (2 : Int) ^ 70 ≤ 2 ^ i := by
                have := Nat.pow_le_pow_right (show 0 < 2 by decide) (show 70 ≤ i by omega)
                exact_mod_cast this
              have h4 : 2 * 1 ≤ x * y := Int.mul_le_mul (by omega) (by omega) (by decide) (by omega)
              have h5 : x * y * 2 ^ 70 ≤ x * y * 2 ^ i := Int.mul_le_mul_of_nonneg_left h3 (by omega)
              omega
        · rcases hI with ⟨e, h1, h2⟩ | ⟨h1, h2⟩
          · subst e
            have h4 : y * (x % y) ≤ 2 ^ 31 * 2 ^ 31 := Int.mul_le_mul (by omega) (by omega) (by omega) (by decide)
            omega
          · have h3 := half_step hy1 h1
            have h4 : y * (x % y) * 2 * 2 ^ i ≤ x * y * 2 ^ i := Int.mul_le_mul_of_nonneg_right h3 (Int.pow_nonneg (by decide))
            have e : y * (x % y) * 2 ^ (i + 1) = y * (x % y) * 2 * 2 ^ i := by
              rw [Int.pow_succ, Int.mul_assoc (y * (x % y)) 2, Int.mul_comm 2 (2 ^ i)]
            omega
    · rintro σ' H' ⟨hi, _⟩
      exact absurd hi (by decide)



/-- what inverse_of gives -/
def InvV (n m : Int) (v : V) : Prop := (Int.gcd n m ≠ 1 → v = .non) ∧ (Int.gcd n m = 1 → ∃ x : Int, v = .int x ∧ 0 ≤ x ∧ x < m ∧ x * n % m = 1)
def sp_inverse_of (K : PySem.W.Frag) : Sp := fun vs H Q _ => ∃ n m : Int, vs = [.int n, .int m] ∧ 2 ≤ m ∧ m ≤ 1000000000 ∧ ∀ v H', InvV n m v → Same H H' → Q v H'
theorem ok_inverse_of (T : Txt K mg) : FnOk P w K mg base CX0 1 T.a_inverse_of T.fd_inverse_of ["n", "modulus"] (sp_inverse_of K) := by
  refine T.F_inverse_of.ok sc_inverse_of (fun vs H Q E h => ?_) (fun cdv A outer s H vs Q E hr h => ?_)
  · obtain ⟨n, m, rfl, _⟩ := h
    rfl
  · obtain ⟨n, m, rfl, hm2, hm9, q⟩ := h
    refine ⟨_, (pss_cons (ps_par (i := 2) (j := 3) rfl sc_inverse_of.nd rfl rfl (by decide) rfl rfl (pa_cons (pv 1) (pa_cons (pe_op op_mod (pv 0) (pv 1)) pa_nil)) (by rfl))
      (pss_cons (ps_asg (pe_tup (pa_cons pe_int (pa_cons pe_int pa_nil))) (pg_tup rfl (pgs_cons (pg_name (i := 4) sc_inverse_of.nd rfl (Or.inl rfl)) (pgs_cons (pg_name (i := 5) sc_inverse_of.nd rfl (Or.inl rfl)) pgs_nil))))
      (pss_cons (ps_while PassesOwn.never (pt_cmpR op_ne (pv 3) pe_int (nomark _))
      (pss_cons (ps_set (i := 6) sc_inverse_of.nd rfl (.inl rfl) (pe_op op_fdiv (pv 2) (pv 3)))
      (pss_cons (ps_par (i := 2) (j := 3) rfl sc_inverse_of.nd rfl rfl (by decide) rfl rfl (pa_cons (pv 3) (pa_cons (pe_op op_sub (pv 2) (pe_op op_mul (pv 6) (pv 3))) pa_nil)) (by rfl))
      (pss_one (ps_par (i := 4) (j := 5) rfl sc_inverse_of.nd rfl rfl (by decide) rfl rfl (pa_cons (pv 5) (pa_cons (pe_op op_sub (pv 4) (pe_op op_mul (pv 6) (pv 5))) pa_nil)) (by rfl))))))
      (pss_one (ps_ret (pe_ifExp (pt_cmpR op_eq (pv 2) pe_int (nomark _)) (pe_op op_mod (pv 4) (pv 1)) pe_non)))))), ?_⟩
    walk_at "start"
    walk_at "x"
    have r0 := Int.emod_nonneg n (show m ≠ 0 by omega)
    have r1 := Int.emod_lt_of_pos n (show 0 < m by omega)
    refine ⟨by show 2 ≤ sizeLine; decide, fun p hp => x_gTup2 (st_of upd_same) ?_⟩
    walk_at "x"
    refine x_while (fun k σ' H' => Same H H' ∧ ∃ l r lf rf v6, σ' = [some (.int n), some (.int m), some (.int l), some (.int r), some (.int lf), some (.int rf), v6] ∧ k = r.toNat ∧ 0 ≤ r ∧ r < l ∧ l ≤ 1000000000 ∧ Int.gcd l r = Int.gcd n m ∧ (m ∣ lf * n - l) ∧ (m ∣ rf * n - r)) (n % m).toNat ?_ ?_
    · refine ⟨same_upd hp, _, _, _, _, _, rfl, rfl, r0, r1, hm9, ?_, ?_, ?_⟩
      · rw [gcd_step]
      · exact ⟨-1, by omega⟩
      · refine ⟨n / m, ?_⟩
        have := Int.mul_ediv_add_emod n m
        omega
    · rintro k σ' H' ⟨hs, l, r, lf, rf, v6, rfl, rfl, hr0, hrl, hl, hg, hd1, hd2⟩
      refine ⟨!decide (r = 0), fun R z => by walk_at "x"; exact z, fun hb => ?_, fun hb => ?_⟩
      · have hr : r ≠ 0 := by simpa using hb
        have hd0 : 0 ≤ l / r := Int.ediv_nonneg (by omega) hr0
        have hd3 : l / r ≤ l := Int.ediv_le_self _ (by omega)
        have e : l - l / r * r = l % r := by rw [Int.emod_def, Int.mul_comm r]
        have s0 := Int.emod_nonneg l hr
        have s1 := Int.emod_lt_of_pos l (show 0 < r by omega)
        walk_at "x"
        refine ⟨(l % r).toNat, by omega, hs, r, l - l / r * r, rf, lf - l / r * rf, _, rfl, by rw [e], by omega, by omega, by omega, by rw [e, gcd_step]; exact hg, hd2, ?_⟩
        obtain ⟨u, hu⟩ := hd1
        obtain ⟨w', hw⟩ := hd2
        refine ⟨u - l / r * w', ?_⟩
        have e2 : (lf - l / r * rf) * n = lf * n - l / r * (rf * n) := by rw [Int.sub_mul, Int.mul_assoc]
        have e3 : rf * n = r + m * w' := by omega
        rw [e2, e3, Int.mul_add, Int.mul_sub]
        have e4 : l / r * (m * w') = m * (l / r * w') := by
          rw [← Int.mul_assoc, ← Int.mul_assoc, Int.mul_comm (l / r) m]
        omega
      · have hr : r = 0 := by simpa using hb
        subst hr
        rw [Int.gcd_zero_right] at hg
        walk_at "x"
        have hl0 : ((Int.gcd n m : Nat) : Int) = l := by omega
        refine x_ite (fun hc => ?_) (fun hc => ?_)
        · walk_at "x"
          refine q _ _ ⟨fun h => absurd (show Int.gcd n m = 1 by omega) h, fun _ => ⟨_, rfl, Int.emod_nonneg _ (by omega), Int.emod_lt_of_pos _ (by omega), ?_⟩⟩ hs
          rw [Int.mul_emod, Int.emod_emod, ← Int.mul_emod]
          obtain ⟨u, hu⟩ := hd1
          have e : lf * n = 1 + m * u := by omega
          rw [e, Int.add_mul_emod_self_left]
          exact Int.emod_eq_of_lt (by decide) (by omega)
        · walk_at "x"
          exact q _ _ ⟨fun _ => rfl, fun h => absurd (show l = 1 by omega) hc⟩ hs


end
end Br
namespace Br
open PySem PySem.Spec PyProof.Rows L2
local macro_rules | `(tactic| walk_at "x1") => `(tactic| (with_reducible first
  | refine Br.x_seq ?_ | refine Br.x_set ?_ | refine Br.x_asg ?_ | refine Br.x_next ?_ | refine Br.x_ret ?_ | refine Br.x_retN ?_ | refine Br.x_drop ?_ | refine Br.x_if ?_ | refine Br.x_brk ?_ | refine Br.x_cont ?_
  | refine Br.x_c ?_ | refine Br.x_op ?_ | refine Br.x_un ?_ | refine Br.x_I0 ?_ | refine Br.x_U ?_ | refine Br.x_EqI ?_ | refine Br.x_NeI ?_ | refine Br.x_EqB ?_ | refine Br.x_iN ?_ | refine Br.x_int1 ?_ | refine Br.x_min2 ?_ | refine Br.x_max2 ?_ | refine Br.x_nN ?_ | refine Br.x_ifE ?_
  | refine Br.x_test (b := ()) ?_ | refine Br.x_tB ?_ | refine Br.x_bl ?_ | refine Br.x_and ?_ | refine Br.x_or ?_ | refine Br.x_not ?_ | refine Br.x_andV ?_ | refine Br.x_orV ?_ | refine Br.x_notV ?_ | refine Br.x_blP ?_
  | refine Br.x_nil ?_ | refine Br.x_cons ?_ | refine Br.x_call ?_ | refine Br.x_CB ?_ | refine Br.x_BM ?_ | refine Br.x_tup ?_ | refine Br.x_lst ?_ | refine Br.x_chain ?_ | refine Br.x_par ?_ | refine Br.x_gSub ?_ | refine Br.x_gName ?_ | refine Br.x_fld ?_ | refine Br.x_fldS ?_ | refine Br.x_match ?_ | refine Br.x_else ?_ | refine Br.x_noCase ?_))
local macro_rules | `(tactic| walk_at "xv") => `(tactic| ((with_reducible refine' Br.x_var ?hvar ?_); (case hvar => rfl)))
local macro_rules | `(tactic| walk_at "xd") => `(tactic| (dsimp only [List.set_cons_zero, List.set_cons_succ, List.cons_append, List.nil_append, List.append_nil]))
local macro_rules | `(tactic| walk_at "xi") => `(tactic| ((with_reducible refine Br.x_I ?hside ?_); (case hside => first | exact Br.mul_r (by decide) (by decide) | exact Br.mul_l (by decide) (by decide) | exact Br.mul_l (by omega) (by omega) | exact Br.mul_r (by omega) (by omega) | (show (0 : Int) < _; first | decide | omega) | exact ⟨by decide, by decide⟩ | exact ⟨by omega, by omega⟩ | exact ⟨by decide, by decide, by decide⟩)))
local macro_rules | `(tactic| walk_at "x") => `(tactic| (repeat (first | walk_at "x1" | walk_at "xv" | walk_at "xi" | walk_at "xd")))
local macro_rules | `(tactic| walk_at "start") => `(tactic| (simp only [L2.start, List.map_cons, List.map_nil, List.length_cons, List.length_nil, Nat.reduceAdd, Nat.reduceSub, List.replicate, List.cons_append, List.nil_append, List.append_nil]))
local macro_rules | `(tactic| walk_at "isi") => `(tactic| first
  | refine Br.x_isi (b := true) (.base (.int _)) (by decide +kernel) ?_ | refine Br.x_isi (b := false) (.base (.int _)) (by decide +kernel) ?_
  | refine Br.x_isi (b := true) (.base (.bl _)) (by decide +kernel) ?_ | refine Br.x_isi (b := false) (.base (.bl _)) (by decide +kernel) ?_
  | refine Br.x_isi (b := false) (.base .non) (by decide +kernel) ?_
  | refine Br.x_isi (b := true) (.base (.str _)) (by decide +kernel) ?_ | refine Br.x_isi (b := false) (.base (.str _)) (by decide +kernel) ?_
  | refine Br.x_isi (b := true) (.base (.tup (by assumption))) (by decide +kernel) ?_ | refine Br.x_isi (b := false) (.base (.tup (by assumption))) (by decide +kernel) ?_
  | refine Br.x_isi (b := true) (.base (.lst (by assumption))) (by decide +kernel) ?_ | refine Br.x_isi (b := false) (.base (.lst (by assumption))) (by decide +kernel) ?_)
local macro_rules | `(tactic| walk_at "f") => `(tactic| (refine L2.iteF ?_; walk_at "x"))
local macro_rules | `(tactic| walk_at "t") => `(tactic| (refine L2.iteT ?_; walk_at "x"))
local macro_rules | `(tactic| walk_at "is") => `(tactic| (walk_at "isi"; walk_at "x"))
local macro_rules | `(tactic| walk_at "xb") => `(tactic| (simp only [Br.bindS, List.set_cons_zero, List.set_cons_succ]; walk_at "x"))

section
variable {P : Program} {w : World} {K : PySem.W.Frag} {mg : Str → Option Value} {base : Heap}

open Br.F

/-- the bottoms of the shares -/
def sp_products_of_differences (K : PySem.W.Frag) : Sp := fun vs H Q _ => ∃ n p : Nat, vs = [.int (n : Int), .int (p : Int)] ∧ 1 ≤ n ∧ n ≤ 1000 ∧ 2 ≤ p ∧ p ≤ 1000000000 ∧
  ∀ (a : Addr) (bs : List Int) (H' : Hp), H a = none → Same H H' → H' a = some (.lst (bs.map V.int)) → bs.length = n → (∀ (i : Nat) b, bs[i]? = some b → (p : Int) ∣ b - Ab (i : Int) i n) → Q (.ref a) H'
theorem fct_one : fct 1 = 1 := rfl
theorem getLast_at {fs : List Int} {j : Nat} (h : fs.length = j + 1) : ∃ z, fs[j]? = some z ∧ fs = fs.dropLast ++ [z] := by
  have hne : fs ≠ [] := fun e => by rw [e] at h; cases h
  refine ⟨fs.getLast hne, ?_, (List.dropLast_concat_getLast hne).symm⟩
  rw [List.getLast_eq_getElem, List.getElem?_eq_getElem (by omega)]
  congr 1
  have e : fs.length - 1 = j := by omega
  simp only [e]
theorem ok_products_of_differences (T : Txt K mg) : FnOk P w K mg base CX0 1 T.a_products_of_differences T.fd_products_of_differences ["size", "prime"] (sp_products_of_differences K) := by
  refine T.F_products_of_differences.ok sc_products_of_differences (fun vs H Q E h => ?_) (fun cdv A outer s H vs Q E hr h => ?_)
  · obtain ⟨n, p, rfl, _⟩ := h
    rfl
  · obtain ⟨n, p, rfl, hn1, hn2, hp1, hp2, q⟩ := h
    refine ⟨_, (pss_cons (ps_set (i := 2) sc_products_of_differences.nd rfl (.inl rfl) (pe_lst (pa_cons pe_int pa_nil)))
      (pss_cons (ps_for PassesOwn.never rfl (pi_range2 (by rfl) T.m_range (pa_cons pe_int (pa_cons (pv 0) pa_nil))) (pg_name (i := 3) sc_products_of_differences.nd rfl (Or.inl rfl))
      (pss_one (ps_expr (pe_bm PySem.F.plainAttrs_list PySem.F.slot_list_append PySem.F.type_list_append mt_append (pv 2) (pa_cons (pe_op op_mod (pe_op op_mul (pe_ix (r := rIxL K) ix_list (pv 2) (pe_un un_neg pe_int) (fun _ _ => rfl)) (pv 3)) (pv 1)) pa_nil)))))
      (pss_cons (ps_set (i := 4) sc_products_of_differences.nd rfl (.inl rfl) (pe_lst pa_nil))
      (pss_cons (ps_for PassesOwn.never rfl (pi_range1 (by rfl) T.m_range (pa_cons (pv 0) pa_nil)) (pg_name (i := 5) sc_products_of_differences.nd rfl (Or.inl rfl))
      (pss_cons (ps_set (i := 6) sc_products_of_differences.nd rfl (.inl rfl) (pe_op op_sub (pe_op op_sub (pv 0) pe_int) (pv 5)))
      (Evl.pss_cut (ps_set (i := 7) sc_products_of_differences.nd rfl (.inl rfl) (pe_ifExp (pt_cmpR op_eq (pe_op op_mod (pv 6) pe_int) pe_int (nomark _)) pe_int (pe_un un_neg pe_int)))
      (pss_one (ps_expr (pe_bm PySem.F.plainAttrs_list PySem.F.slot_list_append PySem.F.type_list_append mt_append (pv 4) (pa_cons (pe_op op_mul (pe_op op_mul (pv 7) (pe_ix (r := rIxL K) ix_list (pv 2) (pv 5) (fun _ _ => rfl))) (pe_ix (r := rIxL K) ix_list (pv 2) (pv 6) (fun _ _ => rfl))) pa_nil)))))))
      (pss_one (ps_ret (pv 4))))))), ?_⟩
    walk_at "start"
    walk_at "x"
    refine ⟨by show 1 ≤ sizeLine; decide, fun a ha => ?_⟩
    walk_at "x"
    -- the factorials
    refine x_forR2 1 (n : Int) (fun i σ' H' => ∃ v3, σ' = [some (.int (n : Int)), some (.int (p : Int)), some (.ref a), v3, none, none, none, none] ∧ Same H H' ∧ ∃ fs : List Int, H' a = some (.lst (fs.map V.int)) ∧ fs.length = i + 1 ∧ ∀ (j : Nat) z, fs[j]? = some z → 0 ≤ z ∧ z < p ∧ (p : Int) ∣ z - fct j)
      (fun R r => r) (fun R r => ⟨_, rfl, r⟩) (by decide) (by decide) (by omega) (by omega) ?_ ?_ ?_
    · refine ⟨none, rfl, same_upd ha, [1], upd_same, rfl, fun j z hz => ?_⟩
      match j, hz with
      | 0, hz =>
        have e : z = 1 := (Option.some.inj hz).symm
        rw [e]
        exact ⟨by decide, by omega, 0, rfl⟩
      | j + 1, hz => simp at hz
    · rintro i σ' H' hi ⟨v3, rfl, hs, fs, hf, hl, hz⟩
      obtain ⟨z, gz, ez⟩ := getLast_at hl
      obtain ⟨z0, z1, zd⟩ := hz i z gz
      walk_at "x"
      refine x_tyL hf ?_
      walk_at "x"
      refine x_ixL (v := .int z) (sq_of hf) (by rw [ez, List.map_append]; exact atI_last _ _) ?_
      walk_at "x"
      refine x_app hf (by rw [List.length_map]; omega) ?_
      walk_at "x"
      refine ⟨_, rfl, sput hs ha, fs ++ [z * (1 + (i : Int)) % (p : Int)], by rw [upd_same, List.map_append]; rfl, by rw [List.length_append, hl]; rfl, fun j y hy => ?_⟩
      by_cases hj : j < fs.length
      · rw [List.getElem?_append_left hj] at hy
        exact hz j y hy
      · rw [List.getElem?_append_right (by omega)] at hy
        have ej : j = i + 1 := by
          have := (List.getElem?_eq_some_iff.mp hy).1
          simp at this
          omega
        subst ej
        rw [hl, Nat.sub_self] at hy
        have e : y = z * (1 + (i : Int)) % (p : Int) := (Option.some.inj hy).symm
        rw [e]
        refine ⟨Int.emod_nonneg _ (by omega), Int.emod_lt_of_pos _ (by omega), ?_⟩
        obtain ⟨u, hu⟩ := zd
        have h4 := Int.mul_ediv_add_emod (z * (1 + (i : Int))) p
        refine ⟨u * ((i : Int) + 1) - z * (1 + (i : Int)) / (p : Int), ?_⟩
        show _ - fct i * ((i : Int) + 1) = _
        have ez : z = fct i + p * u := by omega
        grind
    rintro σ' H1 ⟨v3, rfl, hs, fs, hf, hl, hz⟩
    have hl : fs.length = n := by omega
    walk_at "x"
    refine ⟨Nat.zero_le _, fun b hb => ?_⟩
    have hba : a ≠ b := ne_of_none hf hb
    walk_at "x"
    refine x_forR1 (n : Int) (fun i σ' H' => ∃ v5 v6 v7, σ' = [some (.int (n : Int)), some (.int (p : Int)), some (.ref a), v3, some (.ref b), v5, v6, v7] ∧ Same H1 H' ∧ ∃ bs : List Int, H' b = some (.lst (bs.map V.int)) ∧ bs.length = i ∧ ∀ (j : Nat) z, bs[j]? = some z → (p : Int) ∣ z - Ab (j : Int) j n)
      (fun R r => ⟨_, rfl, r⟩) (by omega) (by omega) ⟨none, none, none, rfl, same_upd hb, [], upd_same, rfl, fun j z h => by simp at h⟩ ?_ ?_
    · rintro i σ' H' hi ⟨v5, v6, v7, rfl, hs', bs, hB, hbl, hbz⟩
      have hi : i < n := by omega
      have hf' : H' a = some (.lst (fs.map V.int)) := hs' _ _ hf
      obtain ⟨x, gx⟩ : ∃ x, fs[i]? = some x := ⟨_, List.getElem?_eq_getElem (by omega)⟩
      obtain ⟨y, gy⟩ : ∃ y, fs[n - 1 - i]? = some y := ⟨_, List.getElem?_eq_getElem (by omega)⟩
      obtain ⟨x0, x1, xd⟩ := hz i x gx
      obtain ⟨y0, y1, yd⟩ := hz _ y gy
      have key : (p : Int) ∣ sg (n - 1 - i) * x * y - Ab (i : Int) i n := by
        have e : n = i + 1 + (n - 1 - i) := by omega
        have e2 : Ab (i : Int) i n = fct i * (sg (n - 1 - i) * fct (n - 1 - i)) := by
          have := Ab_hi (at_ := i) (n - 1 - i)
          rw [← e] at this
          exact this
        rw [e2]
        obtain ⟨u, hu⟩ := xd
        obtain ⟨v, hv⟩ := yd
        have e3 : x = fct i + p * u := by omega
        have e4 : y = fct (n - 1 - i) + p * v := by omega
        rw [e3, e4]
        refine ⟨sg (n - 1 - i) * (u * (fct (n - 1 - i) + p * v) + fct i * v), ?_⟩
        grind
      have hsg : sg (n - 1 - i) = 1 ∨ sg (n - 1 - i) = -1 := by unfold sg; split <;> simp
      have ea : ((n : Int) - 1 - (i : Int)) = ((n - 1 - i : Nat) : Int) := by omega
      walk_at "x"
      rw [ea]
      refine x_cut (fun σ2 H2 => H2 = H' ∧ ∃ s : Int, σ2 = [some (.int (n : Int)), some (.int (p : Int)), some (.ref a), v3, some (.ref b), some (.int (i : Int)), some (.int ((n - 1 - i : Nat) : Int)), some (.int s)] ∧ s = sg (n - 1 - i)) ?_ ?_
      · walk_at "x"
        refine x_ite (fun hc => ?_) (fun hc => ?_)
        · walk_at "x"
          exact ⟨rfl, _, rfl, by unfold sg; rw [if_pos (by omega)]⟩
        · walk_at "x"
          exact ⟨rfl, _, rfl, by unfold sg; rw [if_neg (by omega)]⟩
      · rintro σ2 H2 ⟨rfl, s, rfl, es⟩
        have s1 : s = 1 ∨ s = -1 := by rw [es]; exact hsg
        walk_at "x"
        refine x_tyL hB ?_
        walk_at "x"
        refine x_ixL (v := .int x) (sq_of hf') (atI_nat (by rw [List.getElem?_map, gx]; rfl)) ?_
        walk_at "x"
        refine x_ixL (v := .int y) (sq_of hf') (atI_nat (by rw [List.getElem?_map, gy]; rfl)) ?_
        walk_at "x"
        refine x_app hB (by rw [List.length_map]; omega) ?_
        walk_at "x"
        refine ⟨_, _, _, rfl, sput hs' hb, bs ++ [s * x * y], by rw [upd_same, List.map_append]; rfl, by rw [List.length_append, hbl]; rfl, fun j w hw => ?_⟩
        by_cases hj : j < bs.length
        · rw [List.getElem?_append_left hj] at hw
          exact hbz j w hw
        · rw [List.getElem?_append_right (by omega)] at hw
          have ej : j = i := by
            have := (List.getElem?_eq_some_iff.mp hw).1
            simp at this
            omega
          subst ej
          rw [hbl, Nat.sub_self] at hw
          have e : w = s * x * y := (Option.some.inj hw).symm
          rw [e, es]
          exact key
    · rintro σ' H' ⟨v5, v6, v7, rfl, hs', bs, hB, hbl, hbz⟩
      walk_at "x"
      exact q b bs H' (sfree hs hb) (hs.trans hs') hB (by omega) hbz



def sp_shares (K : PySem.W.Frag) : Sp := fun vs H Q _ => ∃ (n p : Nat) (x : Int), vs = [.int (n : Int), .int (p : Int), .int x] ∧ 1 ≤ n ∧ n ≤ 1000 ∧ IsPrime p ∧ n ≤ p ∧ p ≤ 1000000000 ∧ 0 ≤ x ∧ x < p ∧
  ∀ (a : Addr) (rs : List Int) (H' : Hp), H a = none → Same H H' → H' a = some (.lst (rs.map V.int)) → rs.length = n → (∀ (i : Nat) r, rs[i]? = some r → Bas p n i x r) → Q (.ref a) H'
theorem ok_shares (T : Txt K mg) : FnOk P w K mg base CX0 2 T.a_shares T.fd_shares ["size", "prime", "x"] (sp_shares K) := by
  refine T.F_shares.ok sc_shares (fun vs H Q E h => ?_) (fun cdv A outer s H vs Q E hr h => ?_)
  · obtain ⟨n, p, x, rfl, _⟩ := h
    rfl
  · obtain ⟨n, p, x, rfl, hn1, hn2, hp, hnp, hp9, hx0, hx1, q⟩ := h
    have hp2 := hp.1
    refine ⟨_, (pss_cons (ps_if (pt_cmpR op_lt (pv 2) (pv 0) (nomark _))
      (pss_one (ps_ret (pe_lc (own := [("at", 3)]) (g := gName 3) (tt := tYes) rfl sc_shares.nd (pi_range1 (by rfl) T.m_range (pa_cons (pv 0) pa_nil)) (blkOk_by (N := N_shares) (sc := defScope s_shares) (by decide +kernel)) (fun _ _ _ _ _ => (pg_name (i := 3) sc_shares.nd rfl (Or.inl rfl))) (fun _ _ _ _ _ => pts_nil) (fun _ _ _ _ _ => (pe_ifExp (pt_cmpR op_eq (pv 3) (pv 2) (nomark _)) pe_int pe_int)))))
      pss_nil)
      (pss_cons (ps_set (i := 4) sc_shares.nd rfl (.inl rfl) pe_int)
      (pss_cons (ps_for PassesOwn.never rfl (pi_range1 (by rfl) T.m_range (pa_cons (pv 0) pa_nil)) (pg_name (i := 3) sc_shares.nd rfl (Or.inl rfl))
      (pss_one (ps_set (i := 4) sc_shares.nd rfl (.inl rfl) (pe_op op_mod (pe_op op_mul (pv 4) (pe_op op_sub (pv 2) (pv 3))) (pv 1)))))
      (pss_cons (ps_set (i := 5) sc_shares.nd rfl (.inl rfl) (pe_lst pa_nil))
      (pss_cons (ps_for PassesOwn.never rfl (pi_enum (by rfl) T.m_enumerate (pa_cons (pe_call (ok_products_of_differences T) hr (by rfl) T.g_products_of_differences T.F_products_of_differences.kp T.b_products_of_differences .nil pass0 (pa_cons (pv 0) (pa_cons (pv 1) pa_nil))) pa_nil)) (pg_tup rfl (pgs_cons (pg_name (i := 3) sc_shares.nd rfl (Or.inl rfl)) (pgs_cons (pg_name (i := 6) sc_shares.nd rfl (Or.inl rfl)) pgs_nil)))
      (pss_one (ps_expr (pe_bm PySem.F.plainAttrs_list PySem.F.slot_list_append PySem.F.type_list_append mt_append (pv 5) (pa_cons (pe_op op_mod (pe_op op_mul (pv 4) (pe_call (ok_inverse_of T) hr (by rfl) T.g_inverse_of T.F_inverse_of.kp T.b_inverse_of .nil pass0 (pa_cons (pe_op op_mul (pe_op op_sub (pv 2) (pv 3)) (pv 6)) (pa_cons (pv 1) pa_nil)))) (pv 1)) pa_nil)))))
      (pss_one (ps_ret (pv 5)))))))), ?_⟩
    walk_at "start"
    walk_at "x"
    refine x_ite (fun hc => ?_) (fun hc => ?_)
    · walk_at "x"
      obtain ⟨xn, rfl⟩ : ∃ xn : Nat, x = (xn : Int) := ⟨x.toNat, by omega⟩
      refine x_lcR1 (n : Int) (fun a i H' => Same H H' ∧ ∃ rs : List Int, H' a = some (.lst (rs.map V.int)) ∧ rs.length = i ∧ ∀ (j : Nat) r, rs[j]? = some r → Bas p n j (xn : Int) r) (fun R r => ⟨_, rfl, r⟩) (by omega) (by omega) (fun a ha => ⟨same_upd ha, [], upd_same, rfl, fun j r h => by simp at h⟩) (fun x => rfl) ?_ ?_
      · rintro a i H' ha hi ⟨hs, rs, hr, hl, hb⟩
        walk_at "x"
        have hB := Bas.ind (p := p) (n := n) (at_ := i) (x := xn) hp (by omega)
        refine x_ite (fun he => ?_) (fun he => ?_)
        · rw [if_pos (by omega)] at hB
          walk_at "x"
          refine ⟨_, hr, Nat.lt_of_lt_of_le (show _ < 100000 by rw [List.length_map]; omega) (by decide), sput hs ha, rs ++ [1], map_app, by rw [List.length_append, hl]; rfl, fun j r h => ?_⟩
          rcases snoc_at hl h with ⟨_, h⟩ | ⟨rfl, rfl⟩
          · exact hb j r h
          · exact hB
        · rw [if_neg (by omega)] at hB
          walk_at "x"
          refine ⟨_, hr, Nat.lt_of_lt_of_le (show _ < 100000 by rw [List.length_map]; omega) (by decide), sput hs ha, rs ++ [0], map_app, by rw [List.length_append, hl]; rfl, fun j r h => ?_⟩
          rcases snoc_at hl h with ⟨_, h⟩ | ⟨rfl, rfl⟩
          · exact hb j r h
          · exact hB
      · rintro a H' ha ⟨hs, rs, hr, hl, hb⟩
        exact q a rs H' ha hs hr (by omega) hb
    · walk_at "x"
      refine x_forR1 (n : Int) (fun i σ' H' => H = H' ∧ ∃ v3 t, σ' = [some (.int (n : Int)), some (.int (p : Int)), some (.int x), v3, some (.int t), none, none] ∧ 0 ≤ t ∧ t < p ∧ (p : Int) ∣ t - Tp x i) (fun R r => ⟨_, rfl, r⟩) (by omega) (by omega) ⟨rfl, none, 1, rfl, by decide, by omega, 0, rfl⟩ ?_ ?_
      · rintro i σ' H' hi ⟨rfl, v3, t, rfl, t0, t1, u, hu⟩
        walk_at "x"
        refine ⟨rfl, _, _, rfl, Int.emod_nonneg _ (by omega), Int.emod_lt_of_pos _ (by omega), ?_⟩
        have h4 := Int.mul_ediv_add_emod (t * (x - (i : Int))) p
        refine ⟨u * (x - (i : Int)) - t * (x - (i : Int)) / (p : Int), ?_⟩
        show _ - Tp x i * (x - (i : Int)) = _
        have et : t = Tp x i + p * u := by omega
        grind
      rintro σ' H' ⟨rfl, v3, t, rfl, t0, t1, ht⟩
      walk_at "x"
      refine ⟨Nat.zero_le _, fun a ha => ?_⟩
      walk_at "x"
      refine x_for ?_
      unfold iEnum
      walk_at "x"
      refine ⟨n, p, rfl, hn1, hn2, hp2, hp9, fun b bs H2 hb hs2 hB hbl hbz => ?_⟩
      walk_at "x"
      have hab : a ≠ b := ne_of_none upd_same hb
      have hs0 : Same H H2 := (same_upd ha).trans hs2
      refine ⟨b, bs.map V.int, rfl, sq_of hB, for_it (D := ⟨_, Q, fun _ _ => False, fun _ _ => False⟩) (walk_enum (K := K) (xs := bs.map V.int)) (fun i σ' H' => ∃ v3 v6, σ' = [some (.int (n : Int)), some (.int (p : Int)), some (.int x), v3, some (.int t), some (.ref a), v6] ∧ Same H H' ∧ H' b = some (.lst (bs.map V.int)) ∧ ∃ rs : List Int, H' a = some (.lst (rs.map V.int)) ∧ rs.length = i ∧ ∀ (j : Nat) r, rs[j]? = some r → Bas p n j x r) ⟨_, _, rfl, hs0, hB, [], hs2 _ _ upd_same, rfl, fun j r h => by simp at h⟩ (fun i σ' H' _ z => by
        obtain ⟨_, _, _, _, e, _⟩ := z
        exact sq_of e) ?_ ?_⟩
      · rintro i _ σ' H' H3 hi ⟨v3, v6, rfl, hs, hB, rs, hr, hrl, hrz⟩ ⟨c, u, v, rfl, hc, rfl, gu, gv⟩
        cases gu
        obtain ⟨y, gy, rfl⟩ := map_get gv
        have hi : i < n := by rw [List.length_map] at hi; omega
        refine x_gTup2 (st_of upd_same) ?_
        have hca : a ≠ c := ne_of_none hr hc
        have hcb : b ≠ c := ne_of_none hB hc
        have hr' : (upd H' c (.tup [.int (i : Int), .int y])) a = some (.lst (rs.map V.int)) := by rw [upd_ne hca]; exact hr
        have hB' : (upd H' c (.tup [.int (i : Int), .int y])) b = some (.lst (bs.map V.int)) := by rw [upd_ne hcb]; exact hB
        have hs' := sput (o := .tup [.int (i : Int), .int y]) hs (sfree hs hc)
        walk_at "x"
        refine x_tyL hr' ?_
        walk_at "x"
        refine ⟨(x - (i : Int)) * y, (p : Int), rfl, by omega, by omega, fun v H4 hv hs4 => ?_⟩
        have hy := hbz i y gy
        have hcop : Int.gcd ((x - (i : Int)) * y) (p : Int) = 1 := by
          have hnd : ¬ (p : Int) ∣ (x - (i : Int)) * y := fun hd => by
            rcases hp.mulI hd with h1 | h1
            · have := small_dvd h1 (by omega) (by omega)
              omega
            · exact Ab_own hp hi hnp (by
                have e : Ab (i : Int) i n = y - (y - Ab (i : Int) i n) := by omega
                rw [e]
                exact Int.dvd_sub h1 hy)
          have h1 : ¬ p ∣ ((x - (i : Int)) * y).natAbs := fun h => hnd (Int.ofNat_dvd_left.mpr h)
          have h2 := hp.coprime h1
          show Nat.gcd ((x - (i : Int)) * y).natAbs ((p : Int)).natAbs = 1
          rw [Int.natAbs_natCast, Nat.gcd_comm]
          exact h2
        obtain ⟨z, rfl, z0, z1, hz⟩ := hv.2 hcop
        walk_at "x"
        refine x_app (hs4 _ _ hr') (by rw [List.length_map]; omega) ?_
        walk_at "x"
        refine ⟨_, _, rfl, sput (hs'.trans hs4) ha, by rw [upd_ne hab.symm]; exact hs4 _ _ hB', rs ++ [t * z % (p : Int)], map_app, by rw [List.length_append, hrl]; rfl, fun j r h => ?_⟩
        rcases snoc_at hrl h with ⟨_, h⟩ | ⟨rfl, rfl⟩
        · exact hrz j r h
        · exact Bas.inv hi hp2 ht hy hz
      · rintro σ' H' ⟨v3, v6, rfl, hs, hB, rs, hr, hrl, hrz⟩
        exact ⟨_, rfl, q a rs H' ha hs hr (by rw [List.length_map] at hrl; omega) hrz⟩


/-! ### tables -/

def sp_weighted (K : PySem.W.Frag) : Sp := fun vs H Q _ => ∃ (a b : Addr) (r c : List Int), vs = [.ref a, .ref b] ∧ SqT K H a (r.map V.int) ∧ SqL K H b (c.map V.int) ∧ r.length = c.length ∧ r.length ≤ 1000 ∧ Rg 0 1000000000 r ∧
  ∀ H', Same H H' → Q (.int (S1 (fun j => c.getD j 0 * r.getD j 0) r.length)) H'
theorem ok_weighted (T : Txt K mg) : FnOk P w K mg base CX0 1 T.a_weighted T.fd_weighted ["row", "shares"] (sp_weighted K) := by
  refine T.F_weighted.ok sc_weighted (fun vs H Q E h => ?_) (fun cdv A outer s H vs Q E hr h => ?_)
  · obtain ⟨a, b, r, c, rfl, _⟩ := h
    rfl
  · obtain ⟨a, b, r, c, rfl, hr, hc, hl, hl2, hR, q⟩ := h
    refine ⟨_, (pss_one (ps_ret (pe_callB (id := "sum") (r := rSum K) (cr_sum rfl) (by rfl) T.m_sum (by decide +kernel) (pa_cons (pe_lc (own := [("share", 2), ("value", 3)]) (g := gTup K 2 (gCons (gName 2) (gCons (gName 3) gNil))) (tt := tYes) rfl sc_weighted.nd (pi_zipM (by rfl) T.m_zip (pa_cons (pv 1) (pa_cons (pv 0) pa_nil))) (blkOk_by (N := N_weighted) (sc := defScope s_weighted) (by decide +kernel)) (fun _ _ _ _ _ => (pg_tup rfl (pgs_cons (pg_name (i := 2) sc_weighted.nd rfl (Or.inl rfl)) (pgs_cons (pg_name (i := 3) sc_weighted.nd rfl (Or.inl rfl)) pgs_nil)))) (fun _ _ _ _ _ => pts_nil) (fun _ _ _ _ _ => (pe_op op_mul (pv 2) (pv 3)))) pa_nil)))), ?_⟩
    walk_at "start"
    walk_at "x"
    refine x_lcI (J := ItzM K b a) (n := r.length) (fun R k => by unfold iZipM; walk_at "x"; exact ⟨b, a, _, _, rfl, hc, hr, k⟩) (walk_mix (by rw [List.length_map, hl]) (by rw [List.length_map])) (fun o i H' => Same H H' ∧ ∃ w : List Int, H' o = some (.lst (w.map V.int)) ∧ w.sum = S1 (fun j => c.getD j 0 * r.getD j 0) i ∧ w.length = i) (fun o ho => ⟨same_upd ho, [], upd_same, rfl, rfl⟩) (fun o i H' _ _ z => ⟨z.1.seq hc, seqT z.1 hr⟩) ?_ ?_ ?_
    · rintro o i _ H' H2 hi ho ⟨hs, w, hw, hws, hwl⟩ ⟨p, u, v, rfl, hp, rfl, gu, gv⟩
      obtain ⟨y, gy, rfl⟩ := map_get gu
      obtain ⟨z, gz, rfl⟩ := map_get gv
      have bz := hR.get gz
      refine x_gTup2 (st_of upd_same) ⟨rfl, ?_⟩
      have hpo : o ≠ p := ne_of_none hw hp
      walk_at "x"
      refine ⟨_, by rw [upd_ne hpo]; exact hw, Nat.lt_of_lt_of_le (show _ < 100000 by rw [List.length_map]; omega) (by decide), sput (sput hs (sfree hs hp)) ho, w ++ [y * z], map_app, ?_, by rw [List.length_append, hwl]; rfl⟩
      rw [List.sum_append, hws]
      show _ = S1 _ i + c.getD i 0 * r.getD i 0
      rw [getD_of gy, getD_of gz]
      simp
    · intro x σ' H' R R' hRR hg
      obtain ⟨p, xs, e, h1, h2, v, r', e2, w, r2, e3, e4, h3⟩ := hg
      exact ⟨p, xs, e, h1, h2, v, r', e2, w, r2, e3, e4, hRR _ _ h3⟩
    · rintro o H' ho ⟨hs, w, hw, hws, hwl⟩
      walk_at "x"
      refine ⟨o, w, rfl, sq_of hw, ?_⟩
      rw [hws]
      exact q H' hs


def sp_interpolate (K : PySem.W.Frag) : Sp := fun vs H Q _ => ∃ (a : Addr) (p : Nat) (x y : Int) (t : List (List Int)), vs = [.ref a, .int (p : Int), .int x, .int y] ∧ TabAt K H a t ∧ IsTab p t ∧ t.length ≤ 1000 ∧ IsPrime p ∧ p ≤ 1000000000 ∧ 0 ≤ x ∧ x < p ∧ 0 ≤ y ∧ y < p ∧
  ∀ (v : Int) (H' : Hp), Itp p t x y v → 0 ≤ v → v < p → Same H H' → Q (.int v) H'
theorem Itp.of {p : Nat} {t : List (List Int)} {x y : Int} {rs cs : List Int} (hr : rs.length = t.length) (hc : cs.length = t.length) (h1 : ∀ (i : Nat) r, rs[i]? = some r → Bas p t.length i x r) (h2 : ∀ (i : Nat) r, cs[i]? = some r → Bas p t.length i y r) :
    Itp p t x y (S1 (fun i => rs.getD i 0 * S1 (fun j => cs.getD j 0 * (t.getD i []).getD j 0) t.length) t.length % p) :=
  ⟨fun i => rs.getD i 0, fun j => cs.getD j 0, fun i hi => h1 i _ (get_getD (by omega)), fun j hj => h2 j _ (get_getD (by omega)), rfl⟩
theorem ok_interpolate (T : Txt K mg) : FnOk P w K mg base CX0 3 T.a_interpolate T.fd_interpolate ["table", "prime", "x", "y"] (sp_interpolate K) := by
  refine T.F_interpolate.ok sc_interpolate (fun vs H Q E h => ?_) (fun cdv A outer s H vs Q E hr h => ?_)
  · obtain ⟨a, p, x, y, t, rfl, _⟩ := h
    rfl
  · obtain ⟨a, p, x, y, t, rfl, hT, hI, htl, hp, hp9, hx0, hx1, hy0, hy1, q⟩ := h
    have hp2 := hp.1
    obtain ⟨as, hA, hal, hrow⟩ := id hT
    refine ⟨_, (pss_cons (ps_set (i := 4) sc_interpolate.nd rfl (.inl rfl) (pe_call (ok_shares T) hr (by rfl) T.g_shares T.F_shares.kp T.b_shares .nil pass0 (pa_cons (pe_callB (id := "len") (r := rLen K) cr_len (by rfl) T.m_len PySem.boot_len (pa_cons (pv 0) pa_nil)) (pa_cons (pv 1) (pa_cons (pe_op op_mod (pv 2) (pv 1)) pa_nil)))))
      (pss_cons (ps_set (i := 5) sc_interpolate.nd rfl (.inl rfl) (pe_call (ok_shares T) hr (by rfl) T.g_shares T.F_shares.kp T.b_shares .nil pass0 (pa_cons (pe_callB (id := "len") (r := rLen K) cr_len (by rfl) T.m_len PySem.boot_len (pa_cons (pv 0) pa_nil)) (pa_cons (pv 1) (pa_cons (pe_op op_mod (pv 3) (pv 1)) pa_nil)))))
      (pss_cons (ps_set (i := 6) sc_interpolate.nd rfl (.inl rfl) pe_int)
      (pss_cons (ps_for PassesOwn.never rfl (pi_zipM (by rfl) T.m_zip (pa_cons (pv 4) (pa_cons (pv 0) pa_nil))) (pg_tup rfl (pgs_cons (pg_name (i := 7) sc_interpolate.nd rfl (Or.inl rfl)) (pgs_cons (pg_name (i := 8) sc_interpolate.nd rfl (Or.inl rfl)) pgs_nil)))
      (pss_one (ps_if (pt_cmpR op_ne (pv 7) pe_int (nomark _))
      (pss_one (ps_set (i := 6) sc_interpolate.nd rfl (.inl rfl) (pe_op op_add (pv 6) (pe_op op_mul (pv 7) (pe_call (ok_weighted T) (hr.mono (by decide)) (by rfl) T.g_weighted T.F_weighted.kp T.b_weighted .nil pass0 (pa_cons (pv 8) (pa_cons (pv 5) pa_nil)))))))
      pss_nil)))
      (pss_one (ps_ret (pe_op op_mod (pv 6) (pv 1)))))))), ?_⟩
    walk_at "start"
    walk_at "x"
    refine x_lenT hA ?_
    walk_at "x"
    rw [Int.emod_eq_of_lt hx0 hx1, List.length_map, hal]
    refine ⟨t.length, p, x, rfl, hI.pos, htl, hp, hI.le, hp9, hx0, hx1, fun ra rs H1 hra hs1 hrs hrl hrz => ?_⟩
    walk_at "x"
    refine x_lenT (seqT hs1 hA) ?_
    walk_at "x"
    rw [Int.emod_eq_of_lt hy0 hy1, List.length_map, hal]
    refine ⟨t.length, p, y, rfl, hI.pos, htl, hp, hI.le, hp9, hy0, hy1, fun ca cs H2 hca hs2 hcs hcl hcz => ?_⟩
    walk_at "x"
    have hs02 : Same H H2 := hs1.trans hs2
    refine x_forI (J := ItzM K ra a) (n := t.length) (fun R k => by unfold iZipM; walk_at "x"; exact ⟨ra, a, _, _, rfl, sq_of (hs2 _ _ hrs), seqT hs02 hA, k⟩) (walk_mix (xs := rs.map V.int) (ys := as.map V.ref) (by rw [List.length_map, hrl]) (by rw [List.length_map, hal]))
      (fun i σ' H' => ∃ v7 v8, σ' = [some (.ref a), some (.int (p : Int)), some (.int x), some (.int y), some (.ref ra), some (.ref ca), some (.int (S1 (fun i => rs.getD i 0 * S1 (fun j => cs.getD j 0 * (t.getD i []).getD j 0) t.length) i)), v7, v8] ∧ Same H2 H') ⟨none, none, rfl, Same.refl _⟩
      (fun i σ' H' _ z => by
        obtain ⟨_, _, _, s⟩ := z
        exact ⟨sq_of (s _ _ (hs2 _ _ hrs)), seqT (hs02.trans s) hA⟩) ?_ ?_
    · rintro i _ σ' H' H3 hi ⟨v7, v8, rfl, s⟩ ⟨c, u, v, rfl, hc, rfl, gu, gv⟩
      obtain ⟨r, gr, rfl⟩ := map_get gu
      obtain ⟨b, gb, rfl⟩ := map_getR gv
      obtain ⟨row, grow⟩ : ∃ row, t[i]? = some row := ⟨_, List.getElem?_eq_getElem hi⟩
      obtain ⟨rwl, rwR⟩ := hI.rows i row grow
      have hB := hrz i r gr
      have s3 : Same H (upd H' c (.tup [.int r, .ref b])) := sput (hs02.trans s) (sfree (hs02.trans s) hc)
      have s23 : Same H2 (upd H' c (.tup [.int r, .ref b])) := sput s (sfree s hc)
      refine x_gTup2 (st_of upd_same) ?_
      have step : S1 (fun i => rs.getD i 0 * S1 (fun j => cs.getD j 0 * (t.getD i []).getD j 0) t.length) (i + 1) = S1 (fun i => rs.getD i 0 * S1 (fun j => cs.getD j 0 * (t.getD i []).getD j 0) t.length) i + r * S1 (fun j => cs.getD j 0 * row.getD j 0) row.length := by
        show S1 _ i + rs.getD i 0 * S1 (fun j => cs.getD j 0 * (t.getD i []).getD j 0) t.length = _
        rw [getD_of gr, rwl, List.getD_eq_getElem?_getD (l := t), grow]
        rfl
      walk_at "x"
      refine x_iteN (fun hz => ?_) (fun hz => ?_)
      · walk_at "x"
        refine ⟨b, ca, row, cs, rfl, seqT s3 (hrow i row b grow gb), sq_of (s23 _ _ hcs), by omega, by omega, fun z hz => ⟨(rwR z hz).1, by have := (rwR z hz).2; omega⟩, fun H4 hs4 => ?_⟩
        have hB0 := hB.1
        have hB1 := hB.2.1
        walk_at "x"
        rw [← step]
        exact ⟨_, _, rfl, s23.trans hs4⟩
      · walk_at "x"
        refine ⟨some (.int r), some (.ref b), ?_, s23⟩
        rw [step, hz, Int.zero_mul, Int.add_zero]
    · rintro σ' H' ⟨v7, v8, rfl, s⟩
      walk_at "x"
      exact q _ H' (Itp.of hrl hcl hrz hcz) (Int.emod_nonneg _ (by omega)) (Int.emod_lt_of_pos _ (by omega)) (hs02.trans s)


def sp_law_power (K : PySem.W.Frag) : Sp := fun vs H Q _ => ∃ (b e p : Int), vs = [.int b, .int e, .int p] ∧ 2 ≤ p ∧ p ≤ 1000000000 ∧ 0 ≤ b ∧ b < p ∧ 0 ≤ e ∧ e < 1000000000 ∧ ∀ v : Int, 0 ≤ v → v < p → p ∣ v - b ^ e.toNat → Q (.int v) H
theorem ok_law_power (T : Txt K mg) : FnOk P w K mg base CX0 1 T.a_law_power T.fd_law_power ["base", "exponent", "prime"] (sp_law_power K) := by
  refine T.F_law_power.ok sc_law_power (fun vs H Q E h => ?_) (fun cdv A outer s H vs Q E hr h => ?_)
  · obtain ⟨b, e, p, rfl, _⟩ := h
    rfl
  · obtain ⟨b, e, p, rfl, hp2, hp9, hb0, hb1, he0, he1, q⟩ := h
    refine ⟨_, (pss_cons (ps_set (i := 3) sc_law_power.nd rfl (.inl rfl) pe_int)
      (pss_cons (ps_for PassesOwn.never rfl (pi_range1 (by rfl) T.m_range (pa_cons pe_int pa_nil)) (pg_name (i := 4) sc_law_power.nd rfl (Or.inl rfl))
      (pss_cons (ps_if (pt_cmpR op_eq (pe_op op_mod (pv 1) pe_int) pe_int (nomark _))
      (pss_one (ps_set (i := 3) sc_law_power.nd rfl (.inl rfl) (pe_op op_mod (pe_callTy (T := "int") (r := rInt1) cr_int1 (by rfl) T.m_int (by decide +kernel) (pa_cons (pe_op op_mul (pv 3) (pv 0)) pa_nil)) (pv 2))))
      pss_nil)
      (pss_cons (ps_set (i := 0) sc_law_power.nd rfl (.inl rfl) (pe_op op_mod (pe_callTy (T := "int") (r := rInt1) cr_int1 (by rfl) T.m_int (by decide +kernel) (pa_cons (pe_op op_mul (pv 0) (pv 0)) pa_nil)) (pv 2)))
      (pss_one (ps_set (i := 1) sc_law_power.nd rfl (.inl rfl) (pe_op op_fdiv (pv 1) pe_int))))))
      (pss_one (ps_ret (pv 3))))), ?_⟩
    walk_at "start"
    walk_at "x"
    refine x_forR1 40 (fun i σ' H' => H = H' ∧ ∃ c f r v4, σ' = [some (.int c), some (.int f), some (.int p), some (.int r), v4] ∧ 0 ≤ c ∧ c < p ∧ 0 ≤ f ∧ f * 2 ^ i < 1000000000 ∧ 0 ≤ r ∧ r < p ∧ p ∣ r * c ^ f.toNat - b ^ e.toNat) (fun R r => r) (by decide) (by decide)
      ⟨rfl, b, e, 1, none, rfl, hb0, hb1, he0, by rw [Int.pow_zero, Int.mul_one]; exact he1, by decide, by omega, by rw [Int.one_mul, Int.sub_self]; exact Int.dvd_zero _⟩ ?_ ?_
    · rintro i σ' H' hi ⟨rfl, c, f, r, v4, rfl, hc0, hc1, hf0, hf1, hr0, hr1, hd⟩
      have f2 : 0 ≤ f / 2 := Int.ediv_nonneg hf0 (by decide)
      have f3 : f / 2 * 2 ^ (i + 1) < 1000000000 := by
        have h1 : f / 2 * 2 ≤ f := Int.ediv_mul_le _ (by decide)
        have h2 : f / 2 * 2 * 2 ^ i ≤ f * 2 ^ i := Int.mul_le_mul_of_nonneg_right h1 (Int.pow_nonneg (by decide))
        have e1 : f / 2 * 2 ^ (i + 1) = f / 2 * 2 * 2 ^ i := by
          rw [Int.pow_succ, Int.mul_assoc, Int.mul_comm 2]
        omega
      have cc0 := Int.emod_nonneg (c * c) (show p ≠ 0 by omega)
      have cc1 := Int.emod_lt_of_pos (c * c) (show 0 < p by omega)
      have cd : p ∣ c * c - c * c % p := by
        have := Int.mul_ediv_add_emod (c * c) p
        exact ⟨c * c / p, by omega⟩
      obtain ⟨g, hg⟩ : ∃ g : Nat, f / 2 = (g : Int) := ⟨(f / 2).toNat, by omega⟩
      obtain ⟨w1, hw1⟩ := pow_dvd cd g
      obtain ⟨w2, hw2⟩ := hd
      walk_at "x"
      refine x_ite (fun ho => ?_) (fun ho => ?_)
      · walk_at "x"
        refine ⟨rfl, _, _, _, _, rfl, cc0, cc1, f2, f3, Int.emod_nonneg _ (by omega), Int.emod_lt_of_pos _ (by omega), ?_⟩
        have ef : f.toNat = g + g + 1 := by omega
        have eg : (f / 2).toNat = g := by omega
        rw [ef, Int.pow_succ, Int.pow_add, ← Int.mul_pow] at hw2
        rw [eg]
        have h4 := Int.mul_ediv_add_emod (r * c) p
        generalize (c * c % p) ^ g = X at *
        generalize (c * c) ^ g = Y at *
        refine ⟨w2 - r * c / p * X - r * c * w1, ?_⟩
        have e1 : r * c % p = r * c - p * (r * c / p) := by omega
        have e2 : Y = X + p * w1 := by omega
        rw [e1]
        rw [e2] at hw2
        grind
      · walk_at "x"
        refine ⟨rfl, _, _, _, _, rfl, cc0, cc1, f2, f3, hr0, hr1, ?_⟩
        have ef : f.toNat = g + g := by omega
        have eg : (f / 2).toNat = g := by omega
        rw [ef, Int.pow_add, ← Int.mul_pow] at hw2
        rw [eg]
        generalize (c * c % p) ^ g = X at *
        generalize (c * c) ^ g = Y at *
        refine ⟨w2 - r * w1, ?_⟩
        have e2 : Y = X + p * w1 := by omega
        rw [e2] at hw2
        grind
    · rintro σ' H' ⟨rfl, c, f, r, v4, rfl, hc0, hc1, hf0, hf1, hr0, hr1, hd⟩
      walk_at "x"
      have hf : f = 0 := by
        have h1 : f * 2 ^ 40 < 1000000000 := hf1
        omega
      subst hf
      refine q r hr0 hr1 ?_
      rw [show (0 : Int).toNat = 0 from rfl, Int.pow_zero, Int.mul_one] at hd
      exact hd


def sp_law_basis (K : PySem.W.Frag) : Sp := fun vs H Q _ => ∃ (n i p : Nat) (x : Int), vs = [.int (n : Int), .int (i : Int), .int x, .int (p : Int)] ∧ i < n ∧ n ≤ 1000 ∧ IsPrime p ∧ n ≤ p ∧ p ≤ 1000000000 ∧ 0 ≤ x ∧ x < p ∧ ∀ v : Int, Bas p n i x v → Q (.int v) H
theorem ok_law_basis (T : Txt K mg) : FnOk P w K mg base CX0 2 T.a_law_basis T.fd_law_basis ["count", "at", "x", "prime"] (sp_law_basis K) := by
  refine T.F_law_basis.ok sc_law_basis (fun vs H Q E h => ?_) (fun cdv A outer s H vs Q E hr h => ?_)
  · obtain ⟨n, i, p, x, rfl, _⟩ := h
    rfl
  · obtain ⟨n, i, p, x, rfl, hi, hn, hp, hnp, hp9, hx0, hx1, q⟩ := h
    have hp2 := hp.1
    refine ⟨_, (pss_cons (ps_set (i := 4) sc_law_basis.nd rfl (.inl rfl) pe_int)
      (pss_cons (ps_set (i := 5) sc_law_basis.nd rfl (.inl rfl) pe_int)
      (pss_cons (ps_for PassesOwn.never rfl (pi_range1 (by rfl) T.m_range (pa_cons (pv 0) pa_nil)) (pg_name (i := 6) sc_law_basis.nd rfl (Or.inl rfl))
      (pss_one (ps_if (pt_cmpR op_ne (pv 6) (pv 1) (nomark _))
      (pss_cons (ps_set (i := 4) sc_law_basis.nd rfl (.inl rfl) (pe_op op_mod (pe_callTy (T := "int") (r := rInt1) cr_int1 (by rfl) T.m_int (by decide +kernel) (pa_cons (pe_op op_mul (pv 4) (pe_op op_sub (pv 2) (pv 6))) pa_nil)) (pv 3)))
      (pss_one (ps_set (i := 5) sc_law_basis.nd rfl (.inl rfl) (pe_op op_mod (pe_callTy (T := "int") (r := rInt1) cr_int1 (by rfl) T.m_int (by decide +kernel) (pa_cons (pe_op op_mul (pv 5) (pe_op op_sub (pv 1) (pv 6))) pa_nil)) (pv 3)))))
      pss_nil)))
      (pss_one (ps_ret (pe_op op_mod (pe_callTy (T := "int") (r := rInt1) cr_int1 (by rfl) T.m_int (by decide +kernel) (pa_cons (pe_op op_mul (pv 4) (pe_call (ok_law_power T) hr (by rfl) T.g_law_power T.F_law_power.kp T.b_law_power .nil pass0 (pa_cons (pv 5) (pa_cons (pe_op op_sub (pv 3) pe_int) (pa_cons (pv 3) pa_nil))))) pa_nil)) (pv 3))))))), ?_⟩
    walk_at "start"
    walk_at "x"
    refine x_forR1 (n : Int) (fun k σ' H' => H = H' ∧ ∃ ab be v6, σ' = [some (.int (n : Int)), some (.int (i : Int)), some (.int x), some (.int (p : Int)), some (.int ab), some (.int be), v6] ∧ 0 ≤ ab ∧ ab < p ∧ 0 ≤ be ∧ be < p ∧ (p : Int) ∣ ab - Ab x i k ∧ (p : Int) ∣ be - Ab (i : Int) i k) (fun R r => ⟨_, rfl, r⟩) (by omega) (by omega)
      ⟨rfl, 1, 1, none, rfl, by decide, by omega, by decide, by omega, ⟨0, rfl⟩, ⟨0, rfl⟩⟩ ?_ ?_
    · rintro k σ' H' hk ⟨rfl, ab, be, v6, rfl, ha0, ha1, hb0, hb1, hd1, hd2⟩
      walk_at "x"
      refine x_iteN (fun hne => ?_) (fun hne => ?_)
      · walk_at "x"
        refine ⟨rfl, _, _, _, rfl, Int.emod_nonneg _ (by omega), Int.emod_lt_of_pos _ (by omega), Int.emod_nonneg _ (by omega), Int.emod_lt_of_pos _ (by omega), ?_, ?_⟩
        · rw [Ab_eq (by omega)]
          exact dvd_step hd1
        · rw [Ab_eq (by omega)]
          exact dvd_step hd2
      · walk_at "x"
        have e : k = i := by omega
        subst e
        exact ⟨rfl, _, _, _, rfl, ha0, ha1, hb0, hb1, by rw [Ab_at]; exact hd1, by rw [Ab_at]; exact hd2⟩
    · rintro σ' H' ⟨rfl, ab, be, v6, rfl, ha0, ha1, hb0, hb1, hd1, hd2⟩
      walk_at "x"
      refine ⟨be, (p : Int) - 2, (p : Int), rfl, by omega, by omega, hb0, hb1, by omega, by omega, fun v v0 v1 vd => ?_⟩
      walk_at "x"
      have e : ((p : Int) - 2).toNat = p - 2 := by omega
      rw [e] at vd
      exact q _ (Bas.pow hp hi hnp hb0 hd1 hd2 vd)


def sp_law_interpolated (K : PySem.W.Frag) : Sp := fun vs H Q _ => ∃ (a : Addr) (p : Nat) (x y : Int) (t : List (List Int)), vs = [.ref a, .int (p : Int), .int x, .int y] ∧ TabAt K H a t ∧ IsTab p t ∧ t.length ≤ 1000 ∧ IsPrime p ∧ p ≤ 1000000000 ∧ 0 ≤ x ∧ x < p ∧ 0 ≤ y ∧ y < p ∧
  ∀ (v : Int), Itp p t x y v → 0 ≤ v → v < p → Q (.int v) H
theorem ok_law_interpolated (T : Txt K mg) : FnOk P w K mg base CX0 3 T.a_law_interpolated T.fd_law_interpolated ["table", "prime", "x", "y"] (sp_law_interpolated K) := by
  refine T.F_law_interpolated.ok sc_law_interpolated (fun vs H Q E h => ?_) (fun cdv A outer s H vs Q E hr h => ?_)
  · obtain ⟨a, p, x, y, t, rfl, _⟩ := h
    rfl
  · obtain ⟨a, p, x, y, t, rfl, hT, hI, htl, hp, hp9, hx0, hx1, hy0, hy1, q⟩ := h
    have hp2 := hp.1
    obtain ⟨as, hA, hal, hrow⟩ := id hT
    have hle := hI.le
    refine ⟨_, (pss_cons (ps_set (i := 4) sc_law_interpolated.nd rfl (.inl rfl) pe_int)
      (pss_cons (ps_for PassesOwn.never rfl (pi_range1 (by rfl) T.m_range (pa_cons (pe_callB (id := "len") (r := rLen K) cr_len (by rfl) T.m_len PySem.boot_len (pa_cons (pv 0) pa_nil)) pa_nil)) (pg_name (i := 5) sc_law_interpolated.nd rfl (Or.inl rfl))
      (pss_one (ps_for PassesOwn.never rfl (pi_range1 (by rfl) T.m_range (pa_cons (pe_callB (id := "len") (r := rLen K) cr_len (by rfl) T.m_len PySem.boot_len (pa_cons (pv 0) pa_nil)) pa_nil)) (pg_name (i := 6) sc_law_interpolated.nd rfl (Or.inl rfl))
      (pss_cons (ps_set (i := 7) sc_law_interpolated.nd rfl (.inl rfl) (pe_op op_mul (pe_op op_mul (pe_ix (r := rIxT K) ix_tup (pe_ix (r := rIxT K) ix_tup (pv 0) (pv 5) (fun _ _ => rfl)) (pv 6) (fun _ _ => rfl)) (pe_call (ok_law_basis T) hr (by rfl) T.g_law_basis T.F_law_basis.kp T.b_law_basis .nil pass0 (pa_cons (pe_callB (id := "len") (r := rLen K) cr_len (by rfl) T.m_len PySem.boot_len (pa_cons (pv 0) pa_nil)) (pa_cons (pv 5) (pa_cons (pv 2) (pa_cons (pv 1) pa_nil)))))) (pe_call (ok_law_basis T) hr (by rfl) T.g_law_basis T.F_law_basis.kp T.b_law_basis .nil pass0 (pa_cons (pe_callB (id := "len") (r := rLen K) cr_len (by rfl) T.m_len PySem.boot_len (pa_cons (pv 0) pa_nil)) (pa_cons (pv 6) (pa_cons (pv 3) (pa_cons (pv 1) pa_nil)))))))
      (pss_one (ps_set (i := 4) sc_law_interpolated.nd rfl (.inl rfl) (pe_op op_mod (pe_callTy (T := "int") (r := rInt1) cr_int1 (by rfl) T.m_int (by decide +kernel) (pa_cons (pe_op op_add (pv 4) (pv 7)) pa_nil)) (pv 1))))))))
      (pss_one (ps_ret (pv 4))))), ?_⟩
    walk_at "start"
    walk_at "x"
    refine x_forR1 (t.length : Int) (fun i σ' H' => H = H' ∧ ∃ tot v5 v6 v7, σ' = [some (.ref a), some (.int (p : Int)), some (.int x), some (.int y), some (.int tot), v5, v6, v7] ∧ 0 ≤ tot ∧ tot < p ∧ (p : Int) ∣ tot - S1 (fun i => BsV p t.length i x * S1 (fun j => BsV p t.length j y * (t.getD i []).getD j 0) t.length) i)
      (fun R r => by walk_at "x"; exact x_lenT hA (by rw [List.length_map, hal]; exact r)) (by omega) (by omega) ⟨rfl, 0, none, none, none, rfl, by decide, by omega, ⟨0, rfl⟩⟩ ?_ ?_
    · rintro i σ' H' hi ⟨rfl, tot, v5, v6, v7, rfl, t0, t1, td⟩
      have hi : i < t.length := by omega
      obtain ⟨row, b, grow, gb, hb⟩ := TabAt.get (a := a) hal hrow hi
      obtain ⟨rwl, rwR⟩ := hI.rows i row grow
      have hBi := BsV.ok (x := x) hp hi hle
      walk_at "x"
      refine x_forR1 (t.length : Int) (fun j σ' H' => H = H' ∧ ∃ tot v6 v7, σ' = [some (.ref a), some (.int (p : Int)), some (.int x), some (.int y), some (.int tot), some (.int (i : Int)), v6, v7] ∧ 0 ≤ tot ∧ tot < p ∧ (p : Int) ∣ tot - (S1 (fun i => BsV p t.length i x * S1 (fun j => BsV p t.length j y * (t.getD i []).getD j 0) t.length) i + BsV p t.length i x * S1 (fun j => BsV p t.length j y * (t.getD i []).getD j 0) j))
        (fun R r => by walk_at "x"; exact x_lenT hA (by rw [List.length_map, hal]; exact r)) (by omega) (by omega) ⟨rfl, tot, _, _, rfl, t0, t1, by show (p : Int) ∣ tot - (_ + BsV p t.length i x * 0); rw [Int.mul_zero, Int.add_zero]; exact td⟩ ?_ ?_
      · rintro j σ' H' hj ⟨rfl, tot, v6, v7, rfl, t0, t1, td⟩
        have hj : j < t.length := by omega
        have hBj := BsV.ok (x := y) hp hj hle
        obtain ⟨z, gz⟩ : ∃ z, row[j]? = some z := ⟨_, List.getElem?_eq_getElem (by omega)⟩
        obtain ⟨z0, z1⟩ := rwR.get gz
        walk_at "x"
        refine x_ixT (v := .ref b) hA (atI_nat (by rw [List.getElem?_map, gb]; rfl)) ?_
        walk_at "x"
        refine x_ixT (v := .int z) hb (atI_nat (by rw [List.getElem?_map, gz]; rfl)) ?_
        walk_at "x"
        refine x_lenT hA ?_
        walk_at "x"
        rw [List.length_map, hal]
        refine ⟨t.length, i, p, x, rfl, hi, htl, hp, hle, hp9, hx0, hx1, fun u hu => ?_⟩
        rw [hu.uniq hp hi hle hBi]
        have b0 := hBi.1
        have b1 := hBi.2.1
        walk_at "x"
        refine x_lenT hA ?_
        walk_at "x"
        rw [List.length_map, hal]
        refine ⟨t.length, j, p, y, rfl, hj, htl, hp, hle, hp9, hy0, hy1, fun w hw => ?_⟩
        rw [hw.uniq hp hj hle hBj]
        have c0 := hBj.1
        have c1 := hBj.2.1
        walk_at "x"
        refine ⟨rfl, _, _, _, rfl, Int.emod_nonneg _ (by omega), Int.emod_lt_of_pos _ (by omega), ?_⟩
        have e1 : (t.getD i []).getD j 0 = z := by
          rw [List.getD_eq_getElem?_getD (l := t), grow]
          exact getD_of gz
        have e2 : S1 (fun j => BsV p t.length j y * (t.getD i []).getD j 0) (j + 1) = S1 (fun j => BsV p t.length j y * (t.getD i []).getD j 0) j + BsV p t.length j y * z := by
          show S1 _ j + BsV p t.length j y * (t.getD i []).getD j 0 = _
          rw [e1]
        rw [e2]
        generalize BsV p t.length i x = bi at *
        generalize BsV p t.length j y = bj at *
        generalize S1 _ j = sj at *
        generalize S1 _ i = si at *
        obtain ⟨k, hk⟩ := td
        have h4 := Int.mul_ediv_add_emod (tot + z * bi * bj) p
        refine ⟨k - (tot + z * bi * bj) / (p : Int), ?_⟩
        grind
      · rintro σ' H' ⟨rfl, tot, v6, v7, rfl, t0, t1, td⟩
        exact ⟨rfl, _, _, _, _, rfl, t0, t1, td⟩
    · rintro σ' H' ⟨rfl, tot, v5, v6, v7, rfl, t0, t1, td⟩
      walk_at "x"
      exact q tot (Itp.mk' hp hle t0 t1 td) t0 t1


end
end Br
namespace Br
open PySem PySem.Spec PyProof.Rows L2
local macro_rules | `(tactic| walk_at "x1") => `(tactic| (with_reducible first
  | refine Br.x_seq ?_ | refine Br.x_set ?_ | refine Br.x_asg ?_ | refine Br.x_next ?_ | refine Br.x_ret ?_ | refine Br.x_retN ?_ | refine Br.x_drop ?_ | refine Br.x_if ?_ | refine Br.x_brk ?_ | refine Br.x_cont ?_
  | refine Br.x_c ?_ | refine Br.x_op ?_ | refine Br.x_un ?_ | refine Br.x_I0 ?_ | refine Br.x_U ?_ | refine Br.x_EqI ?_ | refine Br.x_NeI ?_ | refine Br.x_EqB ?_ | refine Br.x_iN ?_ | refine Br.x_int1 ?_ | refine Br.x_min2 ?_ | refine Br.x_max2 ?_ | refine Br.x_nN ?_ | refine Br.x_ifE ?_
  | refine Br.x_test (b := ()) ?_ | refine Br.x_tB ?_ | refine Br.x_bl ?_ | refine Br.x_and ?_ | refine Br.x_or ?_ | refine Br.x_not ?_ | refine Br.x_andV ?_ | refine Br.x_orV ?_ | refine Br.x_notV ?_ | refine Br.x_blP ?_
  | refine Br.x_nil ?_ | refine Br.x_cons ?_ | refine Br.x_call ?_ | refine Br.x_CB ?_ | refine Br.x_BM ?_ | refine Br.x_tup ?_ | refine Br.x_lst ?_ | refine Br.x_chain ?_ | refine Br.x_par ?_ | refine Br.x_gSub ?_ | refine Br.x_gName ?_ | refine Br.x_fld ?_ | refine Br.x_fldS ?_ | refine Br.x_match ?_ | refine Br.x_else ?_ | refine Br.x_noCase ?_))
local macro_rules | `(tactic| walk_at "xv") => `(tactic| ((with_reducible refine' Br.x_var ?hvar ?_); (case hvar => rfl)))
local macro_rules | `(tactic| walk_at "xd") => `(tactic| (dsimp only [List.set_cons_zero, List.set_cons_succ, List.cons_append, List.nil_append, List.append_nil]))
local macro_rules | `(tactic| walk_at "xi") => `(tactic| ((with_reducible refine Br.x_I ?hside ?_); (case hside => first | exact Br.mul_r (by decide) (by decide) | exact Br.mul_l (by decide) (by decide) | exact Br.mul_l (by omega) (by omega) | exact Br.mul_r (by omega) (by omega) | (show (0 : Int) < _; first | decide | omega) | exact ⟨by decide, by decide⟩ | exact ⟨by omega, by omega⟩ | exact ⟨by decide, by decide, by decide⟩)))
local macro_rules | `(tactic| walk_at "x") => `(tactic| (repeat (first | walk_at "x1" | walk_at "xv" | walk_at "xi" | walk_at "xd")))
local macro_rules | `(tactic| walk_at "start") => `(tactic| (simp only [L2.start, List.map_cons, List.map_nil, List.length_cons, List.length_nil, Nat.reduceAdd, Nat.reduceSub, List.replicate, List.cons_append, List.nil_append, List.append_nil]))
local macro_rules | `(tactic| walk_at "isi") => `(tactic| first
  | refine Br.x_isi (b := true) (.base (.int _)) (by decide +kernel) ?_ | refine Br.x_isi (b := false) (.base (.int _)) (by decide +kernel) ?_
  | refine Br.x_isi (b := true) (.base (.bl _)) (by decide +kernel) ?_ | refine Br.x_isi (b := false) (.base (.bl _)) (by decide +kernel) ?_
  | refine Br.x_isi (b := false) (.base .non) (by decide +kernel) ?_
  | refine Br.x_isi (b := true) (.base (.str _)) (by decide +kernel) ?_ | refine Br.x_isi (b := false) (.base (.str _)) (by decide +kernel) ?_
  | refine Br.x_isi (b := true) (.base (.tup (by assumption))) (by decide +kernel) ?_ | refine Br.x_isi (b := false) (.base (.tup (by assumption))) (by decide +kernel) ?_
  | refine Br.x_isi (b := true) (.base (.lst (by assumption))) (by decide +kernel) ?_ | refine Br.x_isi (b := false) (.base (.lst (by assumption))) (by decide +kernel) ?_)
local macro_rules | `(tactic| walk_at "f") => `(tactic| (refine L2.iteF ?_; walk_at "x"))
local macro_rules | `(tactic| walk_at "t") => `(tactic| (refine L2.iteT ?_; walk_at "x"))
local macro_rules | `(tactic| walk_at "is") => `(tactic| (walk_at "isi"; walk_at "x"))
local macro_rules | `(tactic| walk_at "xb") => `(tactic| (simp only [Br.bindS, List.set_cons_zero, List.set_cons_succ]; walk_at "x"))

section
variable {P : Program} {w : World} {K : PySem.W.Frag} {mg : Str → Option Value} {base : Heap}

/-! ### primes -/
def PrimeI (n : Int) : Prop := 2 ≤ n ∧ ∀ d : Int, 2 ≤ d → d * d ≤ n → n % d ≠ 0
theorem sq_lt {a b : Int} (ha : 0 ≤ a) (h : a < b) : a * a < b * b := by
  have h1 : a * a ≤ a * b := Int.mul_le_mul_of_nonneg_left (Int.le_of_lt h) ha
  have h2 : a * b < b * b := Int.mul_lt_mul_of_pos_right h (by omega)
  omega
theorem le_of_sq {a b : Int} (hb : 0 ≤ b) (h : a * a ≤ b * b) : a ≤ b := by
  by_cases h1 : a ≤ b
  · exact h1
  · have := sq_lt hb (show b < a by omega)
    omega
theorem even_dvd {n d : Int} (hd : d % 2 = 0) (h : n % d = 0) : n % 2 = 0 := by
  obtain ⟨q, hq⟩ := Int.dvd_of_emod_eq_zero h
  obtain ⟨r, hr⟩ := Int.dvd_of_emod_eq_zero hd
  rw [hq, hr, Int.mul_assoc]
  exact Int.mul_emod_right 2 _

def sp_is_prime (K : PySem.W.Frag) : Sp := fun vs H Q _ => ∃ n : Int, vs = [.int n] ∧ 0 ≤ n ∧ n < 2000000000 ∧ ∀ b : Bool, (b = true ↔ PrimeI n) → Q (.bl b) H
theorem ok_is_prime (T : Txt K mg) : FnOk P w K mg base CX0 1 T.a_is_prime T.fd_is_prime ["n"] (sp_is_prime K) := by
  refine T.F_is_prime.ok sc_is_prime (fun vs H Q E h => ?_) (fun cdv A outer s H vs Q E hr h => ?_)
  · obtain ⟨n, rfl, _⟩ := h
    rfl
  · obtain ⟨n, rfl, h0, h1, q⟩ := h
    refine ⟨_, (pss_cons (ps_if (pt_cmpR op_lt (pv 0) pe_int (nomark _))
      (pss_one (ps_ret (pe_cmpR op_gt (pv 0) pe_int (nomark _))))
      pss_nil)
      (pss_cons (ps_if (pt_cmpR op_eq (pe_op op_mod (pv 0) pe_int) pe_int (nomark _))
      (pss_one (ps_ret pe_bl))
      pss_nil)
      (pss_cons (ps_for PassesOwn.never rfl (pi_range3 (by rfl) T.m_range (pa_cons pe_int (pa_cons (pe_op op_add (pe_callBfun cr_isqrt (by rfl) T.m_isqrt (pa_cons (pv 0) pa_nil)) pe_int) (pa_cons pe_int pa_nil)))) (pg_name (i := 1) sc_is_prime.nd rfl (Or.inl rfl))
      (pss_one (ps_if (pt_cmpR op_eq (pe_op op_mod (pv 0) (pv 1)) pe_int (nomark _))
      (pss_one (ps_ret pe_bl))
      pss_nil)))
      (pss_one (ps_ret pe_bl))))), ?_⟩
    walk_at "start"
    walk_at "x"
    refine x_ite (fun hc => ?_) (fun hc => ?_)
    · walk_at "x"
      refine q _ ⟨fun e => ⟨by have := of_decide_eq_true e; omega, fun d h2 hd => ?_⟩, fun e => decide_eq_true (by have := e.1; omega)⟩
      have : 2 * 2 ≤ d * d := Int.mul_le_mul h2 h2 (by decide) (by omega)
      omega
    · walk_at "x"
      refine x_ite (fun hc2 => ?_) (fun hc2 => ?_)
      · walk_at "x"
        exact q _ ⟨fun e => (by cases e), fun e => absurd hc2 (e.2 2 (by decide) (by omega))⟩
      · walk_at "x"
        have hn2 : ∀ d : Int, d % 2 = 0 → n % d ≠ 0 := fun d hd e => hc2 (even_dvd hd e)
        obtain ⟨r, er, hr0, hr1, hr2⟩ := isq_spec h0
        have hr3 : r < 44722 := by
          by_cases hh : r < 44722
          · exact hh
          · have : (44722 : Int) * 44722 ≤ r * r := Int.mul_le_mul (by omega) (by omega) (by decide) (by omega)
            omega
        refine x_forR3 3 (r + 1) 2 (fun i σ' H' => ∃ v, σ' = [some (.int n), v] ∧ H' = H ∧ ∀ d : Int, 2 ≤ d → d < 3 + (i : Int) * 2 → n % d ≠ 0) (fun R k => k) (fun R k => by walk_at "x"; exact x_isqrt0 h0 (by omega) er (by walk_at "x"; exact k)) (fun R k => k) (by decide) (by decide) (by decide) (by decide) (by omega) (by omega) ?_ ?_ ?_
        · exact ⟨none, rfl, rfl, fun d h2 h3 => by
            have e : d = 2 := by omega
            rw [e]; exact hc2⟩
        · rintro i σ' H' hi ⟨v, rfl, rfl, hI⟩
          walk_at "x"
          refine x_ite (fun hd => ?_) (fun hd => ?_)
          · walk_at "x"
            refine q _ ⟨fun e => (by cases e), fun e => absurd hd (e.2 _ (by omega) ?_)⟩
            have : (3 + (i : Int) * 2) * (3 + (i : Int) * 2) ≤ r * r := Int.mul_le_mul (by omega) (by omega) (by omega) (by omega)
            omega
          · walk_at "x"
            refine ⟨_, rfl, rfl, fun d h2 h3 => ?_⟩
            by_cases h4 : d < 3 + (i : Int) * 2
            · exact hI d h2 h4
            · by_cases h5 : d = 3 + (i : Int) * 2
              · rw [h5]; exact hd
              · exact hn2 d (by omega)
        · rintro i σ' H' hi ⟨v, rfl, rfl, hI⟩
          walk_at "x"
          refine q _ ⟨fun _ => ⟨by omega, fun d h2 h3 => hI d h2 ?_⟩, fun _ => rfl⟩
          have : d < r + 1 := by
            by_cases hh : d < r + 1
            · exact hh
            · have : (r + 1) * (r + 1) ≤ d * d := Int.mul_le_mul (by omega) (by omega) (by omega) (by omega)
              omega
          omega




open Br.F
/-- a value of any kind that the laws put in -/
inductive Odd (H : Hp) : V → Prop
  | int (i : Int) : Odd H (.int i)
  | bl (b : Bool) : Odd H (.bl b)
  | non : Odd H .non
  | str (x : Str) : Odd H (.str x)
  | tup (a : Addr) (xs : List V) (h : H a = some (.tup xs)) : Odd H (.ref a)
  | lst (a : Addr) (xs : List V) (h : H a = some (.lst xs)) : Odd H (.ref a)
theorem Odd.same {H H' : Hp} {v : V} (h : Odd H v) (s : Same H H') : Odd H' v := by
  cases h with
  | int i => exact .int i
  | bl b => exact .bl b
  | non => exact .non
  | str x => exact .str x
  | tup a xs h => exact .tup a xs (s _ _ h)
  | lst a xs h => exact .lst a xs (s _ _ h)
def isB (v : V) (b : Int) : Bool := match v with
  | .int i => decide (0 ≤ i) && decide (i < b)
  | _ => false
theorem isB_int {i b : Int} (h0 : 0 ≤ i) (h1 : i < b) : isB (.int i) b = true := by
  show (decide (0 ≤ i) && decide (i < b)) = true
  rw [decide_eq_true h0, decide_eq_true h1]; rfl

def sp_is_below (K : PySem.W.Frag) : Sp := fun vs H Q _ => ∃ (v : V) (b : Int), vs = [v, .int b] ∧ Odd H v ∧ Q (.bl (isB v b)) H
theorem ok_is_below (T : Txt K mg) : FnOk P w K mg base CX0 1 T.a_is_below T.fd_is_below ["value", "bound"] (sp_is_below K) := by
  refine T.F_is_below.ok sc_is_below (fun vs H Q E h => ?_) (fun cdv A outer s H vs Q E hr h => ?_)
  · obtain ⟨v, b, rfl, _⟩ := h
    rfl
  · obtain ⟨v, b, rfl, hv, q⟩ := h
    refine ⟨_, (pss_one (ps_ret (pe_and (pe_callB (id := "isinstance") (r := rIsi K) call_isi (by rfl) T.m_isinstance (by decide +kernel) (pa_cons (pv 0) (pa_cons (pe_bltn (v := .ty "int") (by rfl) T.m_int (by decide +kernel) rfl) pa_nil))) (pe_and (pe_not (pe_callB (id := "isinstance") (r := rIsi K) call_isi (by rfl) T.m_isinstance (by decide +kernel) (pa_cons (pv 0) (pa_cons (pe_bltn (v := .ty "bool") (by rfl) T.m_bool (by decide +kernel) rfl) pa_nil)))) (pe_one (pe_chain op_le op_lt pe_int (pv 0) (pv 1))))))), ?_⟩
    walk_at "start"
    cases hv with
    | int i =>
      walk_at "x"
      walk_at "is"
      walk_at "t"
      walk_at "is"
      walk_at "t"
      refine x_ite (fun h0 => ?_) (fun h0 => ?_)
      · walk_at "x"
        have e : isB (.int i) b = decide (i < b) := by show (decide (0 ≤ i) && decide (i < b)) = _; rw [decide_eq_true h0]; rfl
        rw [← e]; exact q
      · have e : isB (.int i) b = false := by show (decide (0 ≤ i) && decide (i < b)) = _; rw [decide_eq_false h0]; rfl
        rw [← e]; exact q
    | bl x =>
      walk_at "x"
      walk_at "is"
      walk_at "t"
      walk_at "is"
      walk_at "f"
      exact q
    | non =>
      walk_at "x"
      walk_at "is"
      walk_at "f"
      exact q
    | str x =>
      walk_at "x"
      walk_at "is"
      walk_at "f"
      exact q
    | tup a xs h =>
      walk_at "x"
      walk_at "is"
      walk_at "f"
      exact q
    | lst a xs h =>
      walk_at "x"
      walk_at "is"
      walk_at "f"
      exact q



def sp_is_modulus (K : PySem.W.Frag) : Sp := fun vs H Q _ => ∃ (v : V), vs = [v] ∧ Odd H v ∧ Q (.bl (isB v 1000000001 && !isB v 2)) H
theorem ok_is_modulus (T : Txt K mg) : FnOk P w K mg base CX0 2 T.a_is_modulus T.fd_is_modulus ["value"] (sp_is_modulus K) := by
  refine T.F_is_modulus.ok sc_is_modulus (fun vs H Q E h => ?_) (fun cdv A outer s H vs Q E hr h => ?_)
  · obtain ⟨v, rfl, _⟩ := h
    rfl
  · obtain ⟨v, rfl, hv, q⟩ := h
    refine ⟨_, (pss_one (ps_ret (pe_and (pe_call (ok_is_below T) hr (by rfl) T.g_is_below T.F_is_below.kp T.b_is_below .nil pass0 (pa_cons (pv 0) (pa_cons (pe_op op_add (pe_glob (v := .int 1000000000) (by rfl) T.c_GREATEST_MODULUS ⟨_, rfl⟩) pe_int) pa_nil))) (pe_one (pe_cmpR op_ge (pv 0) pe_int (nomark _)))))), ?_⟩
    walk_at "start"
    walk_at "x"
    refine ⟨v, _, rfl, hv, ?_⟩
    walk_at "x"
    refine x_iteB (fun hb => ?_) (fun hb => ?_)
    · cases hv with
      | int i =>
        have h0 : 0 ≤ i := by
          by_cases h0 : 0 ≤ i
          · exact h0
          · exfalso
            have e : (decide (0 ≤ i) && decide (i < 1000000000 + 1)) = true := hb
            rw [decide_eq_false h0] at e
            cases e
        walk_at "x"
        have e : (isB (.int i) 1000000001 && !isB (.int i) 2) = decide (2 ≤ i) := by
          rw [show isB (.int i) 1000000001 = true from hb]
          show (true && !(decide (0 ≤ i) && decide (i < 2))) = _
          rw [decide_eq_true h0]
          by_cases h2 : 2 ≤ i
          · rw [decide_eq_true h2, decide_eq_false (show ¬ i < 2 by omega)]; rfl
          · rw [decide_eq_false h2, decide_eq_true (show i < 2 by omega)]; rfl
        rw [← e]
        exact q
      | _ => cases hb
    · rw [show isB v 1000000001 = false from hb] at q
      exact q


def sp_are_numbers (K : PySem.W.Frag) : Sp := fun vs H Q _ => ∃ (v : V) (n m : Int), vs = [v, .int n, .int m] ∧
  ((∃ (a : Addr) (xs : List V), v = .ref a ∧ H a = some (.lst xs) ∧ xs.length ≤ 100000 ∧ (∀ x, x ∈ xs → Odd H x) ∧ ∀ H', Same H H' → Q (.bl (decide ((xs.length : Int) = n) && xs.all fun x => isB x m)) H') ∨
   (Odd H v ∧ (∀ (a : Addr) (xs : List V), v = .ref a → H a ≠ some (.lst xs)) ∧ Q (.bl false) H))
theorem getDV {xs : List V} {i : Nat} {x : V} (h : xs[i]? = some x) : xs.getD i .non = x := by rw [List.getD_eq_getElem?_getD, h]; rfl
theorem range_all {xs : List V} {f : V → Bool} : ((List.range xs.length).map fun i => f (xs.getD i .non)).all id = xs.all f := by
  have e : (List.range xs.length).map (fun i => f (xs.getD i .non)) = xs.map f := by
    apply List.ext_getElem?
    intro i
    rw [List.getElem?_map, List.getElem?_map]
    by_cases h : i < xs.length
    · rw [List.getElem?_range h, List.getElem?_eq_getElem h]
      show some (f (xs.getD i .non)) = some (f xs[i])
      rw [getDV (List.getElem?_eq_getElem h)]
    · rw [List.getElem?_eq_none (by simpa using h), List.getElem?_eq_none (by simpa using h)]
      rfl
  rw [e, List.all_map]
  rfl
theorem ok_are_numbers (T : Txt K mg) : FnOk P w K mg base CX0 2 T.a_are_numbers T.fd_are_numbers ["values", "many", "modulus"] (sp_are_numbers K) := by
  refine T.F_are_numbers.ok sc_are_numbers (fun vs H Q E h => ?_) (fun cdv A outer s H vs Q E hr h => ?_)
  · obtain ⟨v, n, m, rfl, _⟩ := h
    rfl
  · obtain ⟨v, n, m, rfl, h⟩ := h
    refine ⟨_, (pss_cons (ps_if (PW.pt (pw_or (pt_not (pt_val (pe_callB (id := "isinstance") (r := rIsi K) call_isi (by rfl) T.m_isinstance (by decide +kernel) (pa_cons (pv 0) (pa_cons (pe_bltn (v := .ty "list") (by rfl) T.m_list (by decide +kernel) rfl) pa_nil))))) (pw_or1 (pt_cmpR op_ne (pe_callB (id := "len") (r := rLen K) cr_len (by rfl) T.m_len PySem.boot_len (pa_cons (pv 0) pa_nil)) (pv 1) (nomark _)))))
      (pss_one (ps_ret pe_bl))
      pss_nil)
      (pss_one (ps_ret (pe_callB (id := "all") (r := rAll K) (cr_all rfl) (by rfl) T.m_all (by decide +kernel) (pa_cons (pe_lc (own := [("value", 3)]) (g := gName 3) (tt := tYes) rfl sc_are_numbers.nd (pi_list (pv 0)) (blkOk_by (N := N_are_numbers) (sc := defScope s_are_numbers) (by decide +kernel)) (fun _ _ _ _ _ => (pg_name (i := 3) sc_are_numbers.nd rfl (Or.inl rfl))) (fun _ _ _ _ _ => pts_nil) (fun _ _ _ _ _ => (pe_call (ok_is_below T) hr (by rfl) T.g_is_below T.F_is_below.kp T.b_is_below .nil pass0 (pa_cons (pv 3) (pa_cons (pv 2) pa_nil))))) pa_nil))))), ?_⟩
    walk_at "start"
    rcases h with ⟨a, xs, rfl, ha, hl, ho, q⟩ | ⟨hv, hno, q⟩
    · walk_at "x"
      walk_at "is"
      walk_at "f"
      refine x_len (sq_of ha) ?_
      walk_at "x"
      refine x_iteN (fun hc => ?_) (fun hc => ?_)
      · walk_at "x"
        have e : (decide ((xs.length : Int) = n) && xs.all fun x => isB x m) = false := by rw [decide_eq_false hc]; rfl
        rw [← e]
        exact q H (Same.refl _)
      · walk_at "x"
        refine x_lcB (xs := xs) (fun i => isB (xs.getD i .non) m) (J := Itl K a) (G := fun H => SqL K H a xs) (fun R r => ⟨_, rfl, a, rfl, ⟨xs, sq_of ha⟩, r⟩) walk_list hl (fun H' s => sq_of (s _ _ ha)) (fun x => rfl) ?_ ?_
        · intro i x H' hs hx R hR
          walk_at "x"
          refine ⟨x, m, rfl, (ho x (List.mem_of_getElem? hx)).same hs, ?_⟩
          rw [← getDV hx]
          exact hR H' (Same.refl _)
        · intro p H' hp hs hP
          walk_at "x"
          refine x_all hP ?_
          rw [range_all (f := fun x => isB x m)]
          have e : (decide ((xs.length : Int) = n) && xs.all fun x => isB x m) = xs.all fun x => isB x m := by rw [decide_eq_true hc]; rfl
          rw [← e]
          exact q H' hs
    · cases hv with
      | int i =>
        walk_at "x"
        walk_at "is"
        walk_at "t"
        exact q
      | bl x =>
        walk_at "x"
        walk_at "is"
        walk_at "t"
        exact q
      | non =>
        walk_at "x"
        walk_at "is"
        walk_at "t"
        exact q
      | str x =>
        walk_at "x"
        walk_at "is"
        walk_at "t"
        exact q
      | tup a xs h =>
        walk_at "x"
        walk_at "is"
        walk_at "t"
        exact q
      | lst a xs h => exact absurd h (hno a xs rfl)



def sp_is_factor (K : PySem.W.Frag) : Sp := fun vs H Q _ => ∃ (a : Addr) (f : Fac) (t c i : Nat), vs = [.ref a, .int (t : Int), .int (c : Int), .int (i : Int)] ∧ FacAt H a f ∧ FacOk c i t f ∧ Q (.bl true) H
theorem ok_is_factor (T : Txt K mg) : FnOk P w K mg base CX0 2 T.a_is_factor T.fd_is_factor ["factor", "target", "cells", "inputs"] (sp_is_factor K) := by
  refine T.F_is_factor.ok sc_is_factor (fun vs H Q E h => ?_) (fun cdv A outer s H vs Q E hr h => ?_)
  · obtain ⟨a, f, t, c, i, rfl, _⟩ := h
    rfl
  · obtain ⟨a, f, t, c, i, rfl, hf, ok, q⟩ := h
    refine ⟨_, (pss_cons (ps_if (pt_not (pt_val (pe_callB (id := "isinstance") (r := rIsi K) call_isi (by rfl) T.m_isinstance (by decide +kernel) (pa_cons (pv 0) (pa_cons (pe_bltn (v := .ty "tuple") (by rfl) T.m_tuple (by decide +kernel) rfl) pa_nil)))))
      (pss_one (ps_ret pe_bl))
      pss_nil)
      (pss_one (ps_match (pv 0) (pcs_seq rfl op_eq (pcap_name 4 sc_is_factor.nd rfl (.inl rfl) pcap_nil)
      (pss_one (ps_ret (pe_and (pe_call (ok_is_below T) hr (by rfl) T.g_is_below T.F_is_below.kp T.b_is_below .nil pass0 (pa_cons (pv 4) (pa_cons (pv 2) pa_nil))) (pe_one (pe_cmpR op_ne (pv 4) (pv 1) (nomark _))))))
      (pcs_seq rfl op_eq (pcap_name 4 sc_is_factor.nd rfl (.inl rfl) pcap_nil)
      (pss_one (ps_ret (pe_call (ok_is_below T) hr (by rfl) T.g_is_below T.F_is_below.kp T.b_is_below .nil pass0 (pa_cons (pv 4) (pa_cons (pv 3) pa_nil)))))
      (pcs_else (rest := _) (pss_one (ps_ret pe_bl)))))))), ?_⟩
    walk_at "start"
    cases f with
    | cell k =>
      have hf : H a = some (.tup [.str "cell", .int (k : Int)]) := hf
      walk_at "x"
      walk_at "is"
      walk_at "f"
      refine x_caseY (st_of hf) rfl ?_
      walk_at "xb"
      refine ⟨_, _, rfl, .int _, ?_⟩
      walk_at "x"
      rw [isB_int (by omega) (by have := ok.1; omega)]
      walk_at "t"
      rw [decide_eq_false (show ¬ (k : Int) = (t : Int) by have := ok.2; omega)]
      exact q
    | inp k =>
      have hf : H a = some (.tup [.str "input", .int (k : Int)]) := hf
      walk_at "x"
      walk_at "is"
      walk_at "f"
      refine x_caseW (st_of hf) rfl (by decide) ?_
      refine x_caseY (st_of hf) rfl ?_
      walk_at "xb"
      refine ⟨_, _, rfl, .int _, ?_⟩
      rw [isB_int (by omega) (by have h : k < i := ok; omega)]
      exact q


def sp_are_factors (K : PySem.W.Frag) : Sp := fun vs H Q _ => ∃ (a : Addr) (as : List Addr) (fs : List Fac) (t c i : Nat), vs = [.ref a, .int (t : Int), .int (c : Int), .int (i : Int)] ∧ H a = some (.tup (as.map V.ref)) ∧ as.length = fs.length ∧ (∀ (k : Nat) x b, fs[k]? = some x → as[k]? = some b → FacAt H b x) ∧
  fs.length ≤ 3 ∧ (∀ f, f ∈ fs → FacOk c i t f) ∧ ∀ H', Same H H' → Q (.bl true) H'
theorem ok_are_factors (T : Txt K mg) : FnOk P w K mg base CX0 3 T.a_are_factors T.fd_are_factors ["factors", "target", "cells", "inputs"] (sp_are_factors K) := by
  refine T.F_are_factors.ok sc_are_factors (fun vs H Q E h => ?_) (fun cdv A outer s H vs Q E hr h => ?_)
  · obtain ⟨a, as, fs, t, c, i, rfl, _⟩ := h
    rfl
  · obtain ⟨a, as, fs, t, c, i, rfl, ha, hl, hf, h3, ok, q⟩ := h
    refine ⟨_, (pss_cons (ps_if (PW.pt (pw_or (pt_not (pt_val (pe_callB (id := "isinstance") (r := rIsi K) call_isi (by rfl) T.m_isinstance (by decide +kernel) (pa_cons (pv 0) (pa_cons (pe_bltn (v := .ty "tuple") (by rfl) T.m_tuple (by decide +kernel) rfl) pa_nil))))) (pw_or1 (pt_cmpR op_gt (pe_callB (id := "len") (r := rLen K) cr_len (by rfl) T.m_len PySem.boot_len (pa_cons (pv 0) pa_nil)) (pe_glob (v := .int 3) (by rfl) T.c_MOST_FACTORS ⟨_, rfl⟩) (nomark _)))))
      (pss_one (ps_ret pe_bl))
      pss_nil)
      (pss_one (ps_ret (pe_callB (id := "all") (r := rAll K) (cr_all rfl) (by rfl) T.m_all (by decide +kernel) (pa_cons (pe_lc (own := [("factor", 4)]) (g := gName 4) (tt := tYes) rfl sc_are_factors.nd (pi_tup (pv 0)) (blkOk_by (N := N_are_factors) (sc := defScope s_are_factors) (by decide +kernel)) (fun _ _ _ _ _ => (pg_name (i := 4) sc_are_factors.nd rfl (Or.inl rfl))) (fun _ _ _ _ _ => pts_nil) (fun _ _ _ _ _ => (pe_call (ok_is_factor T) hr (by rfl) T.g_is_factor T.F_is_factor.kp T.b_is_factor .nil pass0 (pa_cons (pv 4) (pa_cons (pv 1) (pa_cons (pv 2) (pa_cons (pv 3) pa_nil))))))) pa_nil))))), ?_⟩
    walk_at "start"
    walk_at "x"
    walk_at "is"
    walk_at "f"
    refine x_lenT (st_of ha) ?_
    walk_at "x"
    rw [List.length_map, hl, decide_eq_false (show ¬ (3 : Int) < (fs.length : Int) by omega)]
    walk_at "f"
    refine x_lcB (xs := as.map V.ref) (fun _ => true) (J := Itt K a) (G := fun H => SqT K H a (as.map V.ref)) (fun R r => ⟨_, rfl, a, rfl, ⟨_, st_of ha⟩, r⟩) walk_tup (by rw [List.length_map]; omega) (fun H' s => st_of (s _ _ ha)) (fun x => rfl) ?_ ?_
    · intro k x H' hs hx R hR
      obtain ⟨b, hb, rfl⟩ := map_getR hx
      have hk : k < fs.length := by
        have := (List.getElem?_eq_some_iff.mp hb).1
        omega
      walk_at "x"
      exact ⟨b, _, t, c, i, rfl, (hf k _ b (List.getElem?_eq_getElem hk) hb).tups (Tups.same hs), ok _ (List.getElem_mem hk), hR H' (Same.refl _)⟩
    · intro p H' hp hs hP
      walk_at "x"
      refine x_all hP ?_
      rw [all_range fun _ _ => rfl]
      exact q H' hs


def sp_are_three_cells (K : PySem.W.Frag) : Sp := fun vs H Q _ => ∃ (t a b c : Nat), vs = [.int (t : Int), .int (a : Int), .int (b : Int), .int (c : Int)] ∧ t < c ∧ a < c ∧ b < c ∧ t ≠ a ∧ t ≠ b ∧ a ≠ b ∧ ∀ H', Same H H' → Q (.bl true) H'
theorem ok_are_three_cells (T : Txt K mg) : FnOk P w K mg base CX0 2 T.a_are_three_cells T.fd_are_three_cells ["target", "a", "b", "cells"] (sp_are_three_cells K) := by
  refine T.F_are_three_cells.ok sc_are_three_cells (fun vs H Q E h => ?_) (fun cdv A outer s H vs Q E hr h => ?_)
  · obtain ⟨t, a, b, c, rfl, _⟩ := h
    rfl
  · obtain ⟨t, a, b, c, rfl, ht, ha, hb, hta, htb, hab, q⟩ := h
    refine ⟨_, (pss_cons (ps_if (pt_not (pt_val (pe_callB (id := "all") (r := rAll K) (cr_all rfl) (by rfl) T.m_all (by decide +kernel) (pa_cons (pe_lc (own := [("cell", 4)]) (g := gName 4) (tt := tYes) rfl sc_are_three_cells.nd (pi_tup (pe_tup (pa_cons (pv 0) (pa_cons (pv 1) (pa_cons (pv 2) pa_nil))))) (blkOk_by (N := N_are_three_cells) (sc := defScope s_are_three_cells) (by decide +kernel)) (fun _ _ _ _ _ => (pg_name (i := 4) sc_are_three_cells.nd rfl (Or.inl rfl))) (fun _ _ _ _ _ => pts_nil) (fun _ _ _ _ _ => (pe_call (ok_is_below T) hr (by rfl) T.g_is_below T.F_is_below.kp T.b_is_below .nil pass0 (pa_cons (pv 4) (pa_cons (pv 3) pa_nil))))) pa_nil))))
      (pss_one (ps_ret pe_bl))
      pss_nil)
      (pss_one (ps_ret (pe_and (pe_cmpR op_ne (pv 0) (pv 1) (nomark _)) (pe_and (pe_cmpR op_ne (pv 0) (pv 2) (nomark _)) (pe_one (pe_cmpR op_ne (pv 1) (pv 2) (nomark _)))))))), ?_⟩
    walk_at "start"
    walk_at "x"
    refine x_lcB0 (xs := [.int (t : Int), .int (a : Int), .int (b : Int)]) (fun _ => true) (Nat.le_of_ble_eq_true rfl) (fun R hR => ?_) (fun x => rfl) ?_ ?_
    · unfold iTup
      walk_at "x"
      refine ⟨by show 3 ≤ sizeLine; decide, fun o ho => ?_⟩
      exact ⟨o, rfl, ⟨_, st_of upd_same⟩, hR (Itt K o) _ _ (same_upd ho) walk_tup fun H' s => st_of (s _ _ upd_same)⟩
    · intro k x H' hs hx R hR
      have hx' : x = .int (t : Int) ∨ x = .int (a : Int) ∨ x = .int (b : Int) := by
        have := List.mem_of_getElem? hx
        simpa using this
      walk_at "x"
      rcases hx' with rfl | rfl | rfl
      · refine ⟨_, _, rfl, .int _, ?_⟩
        rw [isB_int (by omega) (by omega)]
        exact hR H' (Same.refl _)
      · refine ⟨_, _, rfl, .int _, ?_⟩
        rw [isB_int (by omega) (by omega)]
        exact hR H' (Same.refl _)
      · refine ⟨_, _, rfl, .int _, ?_⟩
        rw [isB_int (by omega) (by omega)]
        exact hR H' (Same.refl _)
    · intro p H' hs hP
      walk_at "x"
      refine x_all hP ?_
      rw [all_range fun _ _ => rfl]
      walk_at "x"
      walk_at "f"
      rw [decide_eq_false (show ¬ (t : Int) = (a : Int) by omega)]
      walk_at "t"
      rw [decide_eq_false (show ¬ (t : Int) = (b : Int) by omega)]
      walk_at "t"
      rw [decide_eq_false (show ¬ (a : Int) = (b : Int) by omega)]
      exact q H' hs


def sp_is_sign (K : PySem.W.Frag) : Sp := fun vs H Q _ => ∃ (s : Int) (m : Nat), vs = [.int s, .int (m : Int)] ∧ 2 ≤ m ∧ (s = 1 ∨ s = (m : Int) - 1) ∧ ∀ H', Same H H' → Q (.bl true) H'
theorem ok_is_sign (T : Txt K mg) : FnOk P w K mg base CX0 2 T.a_is_sign T.fd_is_sign ["sign", "modulus"] (sp_is_sign K) := by
  refine T.F_is_sign.ok sc_is_sign (fun vs H Q E h => ?_) (fun cdv A outer s H vs Q E hr h => ?_)
  · obtain ⟨s, m, rfl, _⟩ := h
    rfl
  · obtain ⟨s, m, rfl, hm, hs, q⟩ := h
    refine ⟨_, (pss_one (ps_ret (pe_and (pe_call (ok_is_below T) hr (by rfl) T.g_is_below T.F_is_below.kp T.b_is_below .nil pass0 (pa_cons (pv 0) (pa_cons (pv 1) pa_nil))) (pe_one (pe_cmpR (r := rIn K false) op_in_seq (pv 0) (pe_tup (pa_cons pe_int (pa_cons (pe_op op_sub (pv 1) pe_int) pa_nil))) (by with_unfolding_all rfl)))))), ?_⟩
    walk_at "start"
    walk_at "x"
    refine ⟨_, _, rfl, .int _, ?_⟩
    rw [isB_int (by omega) (by omega)]
    walk_at "x"
    walk_at "t"
    refine ⟨by show 2 ≤ sizeLine; decide, fun o ho => ?_⟩
    refine ⟨o, [.int 1, .int ((m : Int) - 1)], rfl, .inr (st_of upd_same), rfl, rfl, ?_⟩
    have e : inV (.int s) [.int 1, .int ((m : Int) - 1)] = true := by
      show ((1 : Int) == s || ((m : Int) - 1 == s || false)) = true
      rcases hs with rfl | rfl
      · simp
      · simp
    rw [e]
    exact q _ (same_upd ho)


def sp_is_row (K : PySem.W.Frag) : Sp := fun vs H Q _ => ∃ (a : Addr) (r : List Int) (n m : Nat), vs = [.ref a, .int (n : Int), .int (m : Int)] ∧ H a = some (.tup (r.map V.int)) ∧ r.length = n ∧ n ≤ 1000 ∧ Rg 0 m r ∧ ∀ H', Same H H' → Q (.bl true) H'
theorem ok_is_row (T : Txt K mg) : FnOk P w K mg base CX0 2 T.a_is_row T.fd_is_row ["row", "size", "modulus"] (sp_is_row K) := by
  refine T.F_is_row.ok sc_is_row (fun vs H Q E h => ?_) (fun cdv A outer s H vs Q E hr h => ?_)
  · obtain ⟨a, r, n, m, rfl, _⟩ := h
    rfl
  · obtain ⟨a, r, n, m, rfl, ha, hl, hn, hR, q⟩ := h
    refine ⟨_, (pss_cons (ps_if (PW.pt (pw_or (pt_not (pt_val (pe_callB (id := "isinstance") (r := rIsi K) call_isi (by rfl) T.m_isinstance (by decide +kernel) (pa_cons (pv 0) (pa_cons (pe_bltn (v := .ty "tuple") (by rfl) T.m_tuple (by decide +kernel) rfl) pa_nil))))) (pw_or1 (pt_cmpR op_ne (pe_callB (id := "len") (r := rLen K) cr_len (by rfl) T.m_len PySem.boot_len (pa_cons (pv 0) pa_nil)) (pv 1) (nomark _)))))
      (pss_one (ps_ret pe_bl))
      pss_nil)
      (pss_one (ps_ret (pe_callB (id := "all") (r := rAll K) (cr_all rfl) (by rfl) T.m_all (by decide +kernel) (pa_cons (pe_lc (own := [("value", 3)]) (g := gName 3) (tt := tYes) rfl sc_is_row.nd (pi_tup (pv 0)) (blkOk_by (N := N_is_row) (sc := defScope s_is_row) (by decide +kernel)) (fun _ _ _ _ _ => (pg_name (i := 3) sc_is_row.nd rfl (Or.inl rfl))) (fun _ _ _ _ _ => pts_nil) (fun _ _ _ _ _ => (pe_call (ok_is_below T) hr (by rfl) T.g_is_below T.F_is_below.kp T.b_is_below .nil pass0 (pa_cons (pv 3) (pa_cons (pv 2) pa_nil))))) pa_nil))))), ?_⟩
    walk_at "start"
    walk_at "x"
    walk_at "is"
    walk_at "f"
    refine x_lenT (st_of ha) ?_
    walk_at "x"
    rw [List.length_map, hl, decide_eq_true rfl]
    walk_at "f"
    refine x_lcB (xs := r.map V.int) (fun _ => true) (J := Itt K a) (G := fun H => SqT K H a (r.map V.int)) (fun R r => ⟨_, rfl, a, rfl, ⟨_, st_of ha⟩, r⟩) walk_tup (by rw [List.length_map]; omega) (fun H' s => st_of (s _ _ ha)) (fun x => rfl) ?_ ?_
    · intro k x H' hs hx R hR'
      obtain ⟨z, hz, rfl⟩ := map_get hx
      walk_at "x"
      refine ⟨_, _, rfl, .int _, ?_⟩
      rw [isB_int (hR.get hz).1 (hR.get hz).2]
      exact hR' H' (Same.refl _)
    · intro p H' hp hs hP
      walk_at "x"
      refine x_all hP ?_
      rw [all_range fun _ _ => rfl]
      exact q H' hs


def sp_is_table (K : PySem.W.Frag) : Sp := fun vs H Q _ => ∃ (a : Addr) (tb : List (List Int)) (m : Nat), vs = [.ref a, .int (m : Int)] ∧ TbAt H a tb ∧ IsTab m tb ∧ tb.length ≤ 1000 ∧ ∀ H', Same H H' → Q (.bl true) H'
theorem ok_is_table (T : Txt K mg) : FnOk P w K mg base CX0 3 T.a_is_table T.fd_is_table ["table", "modulus"] (sp_is_table K) := by
  refine T.F_is_table.ok sc_is_table (fun vs H Q E h => ?_) (fun cdv A outer s H vs Q E hr h => ?_)
  · obtain ⟨a, tb, m, rfl, _⟩ := h
    rfl
  · obtain ⟨a, tb, m, rfl, ⟨as, ha, hl, hrow⟩, hI, hn, q⟩ := h
    have h1 := hI.pos
    have h2 := hI.le
    refine ⟨_, (pss_cons (ps_if (PW.pt (pw_or (pt_not (pt_val (pe_callB (id := "isinstance") (r := rIsi K) call_isi (by rfl) T.m_isinstance (by decide +kernel) (pa_cons (pv 0) (pa_cons (pe_bltn (v := .ty "tuple") (by rfl) T.m_tuple (by decide +kernel) rfl) pa_nil))))) (pw_or1 (pt_not (pt_chain op_le op_le pe_int (pe_callB (id := "len") (r := rLen K) cr_len (by rfl) T.m_len PySem.boot_len (pa_cons (pv 0) pa_nil)) (pv 1))))))
      (pss_one (ps_ret pe_bl))
      pss_nil)
      (pss_one (ps_ret (pe_callB (id := "all") (r := rAll K) (cr_all rfl) (by rfl) T.m_all (by decide +kernel) (pa_cons (pe_lc (own := [("row", 2)]) (g := gName 2) (tt := tYes) rfl sc_is_table.nd (pi_tup (pv 0)) (blkOk_by (N := N_is_table) (sc := defScope s_is_table) (by decide +kernel)) (fun _ _ _ _ _ => (pg_name (i := 2) sc_is_table.nd rfl (Or.inl rfl))) (fun _ _ _ _ _ => pts_nil) (fun _ _ _ _ _ => (pe_call (ok_is_row T) hr (by rfl) T.g_is_row T.F_is_row.kp T.b_is_row .nil pass0 (pa_cons (pv 2) (pa_cons (pe_callB (id := "len") (r := rLen K) cr_len (by rfl) T.m_len PySem.boot_len (pa_cons (pv 0) pa_nil)) (pa_cons (pv 1) pa_nil)))))) pa_nil))))), ?_⟩
    walk_at "start"
    walk_at "x"
    walk_at "is"
    walk_at "f"
    refine x_lenT (st_of ha) ?_
    walk_at "x"
    rw [List.length_map, hl, decide_eq_true (show (1 : Int) ≤ (tb.length : Int) by omega)]
    walk_at "t"
    rw [decide_eq_true (show (tb.length : Int) ≤ (m : Int) by omega)]
    walk_at "f"
    refine x_lcB (xs := as.map V.ref) (fun _ => true) (J := Itt K a) (G := fun H => SqT K H a (as.map V.ref)) (fun R r => ⟨_, rfl, a, rfl, ⟨_, st_of ha⟩, r⟩) walk_tup (by rw [List.length_map]; omega) (fun H' s => st_of (s _ _ ha)) (fun x => rfl) ?_ ?_
    · intro k x H' hs hx R hR
      obtain ⟨b, hb, rfl⟩ := map_getR hx
      have hk : k < tb.length := by
        have := (List.getElem?_eq_some_iff.mp hb).1
        omega
      obtain ⟨rl, rR⟩ := hI.rows k _ (List.getElem?_eq_getElem hk)
      walk_at "x"
      refine x_lenT (st_of (hs _ _ ha)) ?_
      walk_at "x"
      rw [List.length_map, hl]
      exact ⟨b, _, tb.length, m, rfl, hs _ _ (hrow k _ b (List.getElem?_eq_getElem hk) hb), rl, hn, rR, fun H2 s2 => hR H2 s2⟩
    · intro p H' hp hs hP
      walk_at "x"
      refine x_all hP ?_
      rw [all_range fun _ _ => rfl]
      exact q H' hs


def sp_is_step (K : PySem.W.Frag) : Sp := fun vs H Q _ => ∃ (a : Addr) (s : Stp) (m c i : Nat), vs = [.ref a, .int (m : Int), .int (c : Int), .int (i : Int)] ∧ StpAt H a s ∧ StpOk m c i s ∧ 2 ≤ m ∧ ∀ H', Same H H' → Q (.bl true) H'
theorem ok_is_step (T : Txt K mg) : FnOk P w K mg base CX0 4 T.a_is_step T.fd_is_step ["step", "modulus", "cells", "inputs"] (sp_is_step K) := by
  refine T.F_is_step.ok sc_is_step (fun vs H Q E h => ?_) (fun cdv A outer s H vs Q E hr h => ?_)
  · obtain ⟨a, s, m, c, i, rfl, _⟩ := h
    rfl
  · obtain ⟨a, s, m, c, i, rfl, hs, ok, hm, q⟩ := h
    refine ⟨_, (pss_cons (ps_if (pt_not (pt_val (pe_callB (id := "isinstance") (r := rIsi K) call_isi (by rfl) T.m_isinstance (by decide +kernel) (pa_cons (pv 0) (pa_cons (pe_bltn (v := .ty "tuple") (by rfl) T.m_tuple (by decide +kernel) rfl) pa_nil)))))
      (pss_one (ps_ret pe_bl))
      pss_nil)
      (pss_one (ps_match (pv 0) (pcs_seq rfl op_eq (pcap_name 4 sc_is_step.nd rfl (.inl rfl) (pcap_name 5 sc_is_step.nd rfl (.inl rfl) (pcap_name 6 sc_is_step.nd rfl (.inl rfl) pcap_nil)))
      (pss_one (ps_ret (pe_and (pe_call (ok_is_below T) (hr.mono (by decide)) (by rfl) T.g_is_below T.F_is_below.kp T.b_is_below .nil pass0 (pa_cons (pv 4) (pa_cons (pv 2) pa_nil))) (pe_and (pe_call (ok_is_below T) (hr.mono (by decide)) (by rfl) T.g_is_below T.F_is_below.kp T.b_is_below .nil pass0 (pa_cons (pv 5) (pa_cons (pv 1) pa_nil))) (pe_one (pe_call (ok_are_factors T) hr (by rfl) T.g_are_factors T.F_are_factors.kp T.b_are_factors .nil pass0 (pa_cons (pv 6) (pa_cons (pv 4) (pa_cons (pv 2) (pa_cons (pv 3) pa_nil))))))))))
      (pcs_seq rfl op_eq (pcap_name 4 sc_is_step.nd rfl (.inl rfl) (pcap_name 7 sc_is_step.nd rfl (.inl rfl) pcap_nil))
      (pss_one (ps_ret (pe_and (pe_call (ok_is_below T) (hr.mono (by decide)) (by rfl) T.g_is_below T.F_is_below.kp T.b_is_below .nil pass0 (pa_cons (pv 4) (pa_cons (pv 2) pa_nil))) (pe_and (pe_call (ok_is_below T) (hr.mono (by decide)) (by rfl) T.g_is_below T.F_is_below.kp T.b_is_below .nil pass0 (pa_cons (pv 7) (pa_cons (pv 1) pa_nil))) (pe_one (pe_cmpR op_eq (pe_callBfun cr_gcd (by rfl) T.m_gcd (pa_cons (pv 7) (pa_cons (pv 1) pa_nil))) pe_int (nomark _)))))))
      (pcs_seq rfl op_eq (pcap_name 8 sc_is_step.nd rfl (.inl rfl) (pcap_name 9 sc_is_step.nd rfl (.inl rfl) pcap_nil))
      (pss_one (ps_ret (pe_and (pe_call (ok_is_below T) (hr.mono (by decide)) (by rfl) T.g_is_below T.F_is_below.kp T.b_is_below .nil pass0 (pa_cons (pv 8) (pa_cons (pv 2) pa_nil))) (pe_and (pe_call (ok_is_below T) (hr.mono (by decide)) (by rfl) T.g_is_below T.F_is_below.kp T.b_is_below .nil pass0 (pa_cons (pv 9) (pa_cons (pv 2) pa_nil))) (pe_one (pe_cmpR op_ne (pv 8) (pv 9) (nomark _)))))))
      (pcs_seq rfl op_eq (pcap_name 4 sc_is_step.nd rfl (.inl rfl) (pcap_name 10 sc_is_step.nd rfl (.inl rfl) (pcap_name 11 sc_is_step.nd rfl (.inl rfl) (pcap_name 8 sc_is_step.nd rfl (.inl rfl) (pcap_name 9 sc_is_step.nd rfl (.inl rfl) pcap_nil)))))
      (pss_one (ps_ret (pe_and (pe_call (ok_are_three_cells T) (hr.mono (by decide)) (by rfl) T.g_are_three_cells T.F_are_three_cells.kp T.b_are_three_cells .nil pass0 (pa_cons (pv 4) (pa_cons (pv 8) (pa_cons (pv 9) (pa_cons (pv 2) pa_nil))))) (pe_and (pe_call (ok_is_sign T) (hr.mono (by decide)) (by rfl) T.g_is_sign T.F_is_sign.kp T.b_is_sign .nil pass0 (pa_cons (pv 10) (pa_cons (pv 1) pa_nil))) (pe_one (pe_call (ok_is_table T) hr (by rfl) T.g_is_table T.F_is_table.kp T.b_is_table .nil pass0 (pa_cons (pv 11) (pa_cons (pv 1) pa_nil))))))))
      (pcs_else (rest := _) (pss_one (ps_ret pe_bl)))))))))), ?_⟩
    walk_at "start"
    cases s with
    | add t k fs =>
      obtain ⟨f, as, h1, h2, h3, h4⟩ := hs
      obtain ⟨o1, o2, o3, o4, o5⟩ := ok
      walk_at "x"
      walk_at "is"
      walk_at "f"
      refine x_caseY (st_of h1) rfl ?_
      walk_at "xb"
      refine ⟨_, _, rfl, .int _, ?_⟩
      rw [isB_int (by omega) (by omega)]
      walk_at "x"
      walk_at "t"
      refine ⟨_, _, rfl, .int _, ?_⟩
      rw [isB_int o2 o3]
      walk_at "x"
      walk_at "t"
      exact ⟨f, as, fs, t, c, i, rfl, h2, h3, h4, o4, o5, q⟩
    | scale t u =>
      have h1 : H a = some (.tup [.str "scale", .int (t : Int), .int u]) := hs
      obtain ⟨o1, o2, o3, o4⟩ := ok
      walk_at "x"
      walk_at "is"
      walk_at "f"
      refine x_caseNo (st_of h1) (Nat.ne_of_beq_eq_false rfl) ?_
      refine x_caseY (st_of h1) rfl ?_
      walk_at "xb"
      refine ⟨_, _, rfl, .int _, ?_⟩
      rw [isB_int (by omega) (by omega)]
      walk_at "x"
      walk_at "t"
      refine ⟨_, _, rfl, .int _, ?_⟩
      rw [isB_int o2 o3]
      walk_at "x"
      walk_at "t"
      refine ⟨u, (m : Int), rfl, ?_⟩
      walk_at "x"
      have e : ((Nat.gcd u.natAbs ((m : Int)).natAbs : Nat) : Int) = 1 := by
        have : Nat.gcd u.natAbs ((m : Int)).natAbs = 1 := o4
        rw [this]; rfl
      rw [e, decide_eq_true rfl]
      exact q H (Same.refl _)
    | swap x y =>
      have h1 : H a = some (.tup [.str "swap", .int (x : Int), .int (y : Int)]) := hs
      obtain ⟨o1, o2, o3⟩ := ok
      walk_at "x"
      walk_at "is"
      walk_at "f"
      refine x_caseNo (st_of h1) (Nat.ne_of_beq_eq_false rfl) ?_
      refine x_caseW (st_of h1) rfl (by decide) ?_
      refine x_caseY (st_of h1) rfl ?_
      walk_at "xb"
      refine ⟨_, _, rfl, .int _, ?_⟩
      rw [isB_int (by omega) (by omega)]
      walk_at "x"
      walk_at "t"
      refine ⟨_, _, rfl, .int _, ?_⟩
      rw [isB_int (by omega) (by omega)]
      walk_at "x"
      walk_at "t"
      rw [decide_eq_false (show ¬ (x : Int) = (y : Int) by omega)]
      exact q H (Same.refl _)
    | tab t g tb x y =>
      obtain ⟨o, h1, h2⟩ := hs
      obtain ⟨o1, o2, o3, o4, o5, o6, o7, o8, o9, o10⟩ := ok
      walk_at "x"
      walk_at "is"
      walk_at "f"
      refine x_caseNo (st_of h1) (Nat.ne_of_beq_eq_false rfl) ?_
      refine x_caseNo (st_of h1) (Nat.ne_of_beq_eq_false rfl) ?_
      refine x_caseNo (st_of h1) (Nat.ne_of_beq_eq_false rfl) ?_
      refine x_caseY (st_of h1) rfl ?_
      walk_at "xb"
      refine ⟨t, x, y, c, rfl, o1, o2, o3, o4, o5, o6, fun H1 s1 => ?_⟩
      walk_at "x"
      walk_at "t"
      refine ⟨g, m, rfl, hm, o7, fun H2 s2 => ?_⟩
      walk_at "x"
      walk_at "t"
      exact ⟨o, tb, m, rfl, (h2.tups (Tups.same s1)).tups (Tups.same s2), o8, o9, fun H3 s3 => q H3 ((s1.trans s2).trans s3)⟩


end
end Br
namespace Br
open PySem PySem.Spec PyProof.Rows L2
local macro_rules | `(tactic| walk_at "x1") => `(tactic| (with_reducible first
  | refine Br.x_seq ?_ | refine Br.x_set ?_ | refine Br.x_asg ?_ | refine Br.x_next ?_ | refine Br.x_ret ?_ | refine Br.x_retN ?_ | refine Br.x_drop ?_ | refine Br.x_if ?_ | refine Br.x_brk ?_ | refine Br.x_cont ?_
  | refine Br.x_c ?_ | refine Br.x_op ?_ | refine Br.x_un ?_ | refine Br.x_I0 ?_ | refine Br.x_U ?_ | refine Br.x_EqI ?_ | refine Br.x_NeI ?_ | refine Br.x_EqB ?_ | refine Br.x_iN ?_ | refine Br.x_int1 ?_ | refine Br.x_min2 ?_ | refine Br.x_max2 ?_ | refine Br.x_nN ?_ | refine Br.x_ifE ?_
  | refine Br.x_test (b := ()) ?_ | refine Br.x_tB ?_ | refine Br.x_bl ?_ | refine Br.x_and ?_ | refine Br.x_or ?_ | refine Br.x_not ?_ | refine Br.x_andV ?_ | refine Br.x_orV ?_ | refine Br.x_notV ?_ | refine Br.x_blP ?_
  | refine Br.x_nil ?_ | refine Br.x_cons ?_ | refine Br.x_call ?_ | refine Br.x_CB ?_ | refine Br.x_BM ?_ | refine Br.x_tup ?_ | refine Br.x_lst ?_ | refine Br.x_chain ?_ | refine Br.x_par ?_ | refine Br.x_gSub ?_ | refine Br.x_gName ?_ | refine Br.x_fld ?_ | refine Br.x_fldS ?_ | refine Br.x_match ?_ | refine Br.x_else ?_ | refine Br.x_noCase ?_))
local macro_rules | `(tactic| walk_at "xv") => `(tactic| ((with_reducible refine' Br.x_var ?hvar ?_); (case hvar => rfl)))
local macro_rules | `(tactic| walk_at "xd") => `(tactic| (dsimp only [List.set_cons_zero, List.set_cons_succ, List.cons_append, List.nil_append, List.append_nil]))
local macro_rules | `(tactic| walk_at "xi") => `(tactic| ((with_reducible refine Br.x_I ?hside ?_); (case hside => first | exact Br.mul_r (by decide) (by decide) | exact Br.mul_l (by decide) (by decide) | exact Br.mul_l (by omega) (by omega) | exact Br.mul_r (by omega) (by omega) | (show (0 : Int) < _; first | decide | omega) | exact ⟨by decide, by decide⟩ | exact ⟨by omega, by omega⟩ | exact ⟨by decide, by decide, by decide⟩)))
local macro_rules | `(tactic| walk_at "x") => `(tactic| (repeat (first | walk_at "x1" | walk_at "xv" | walk_at "xi" | walk_at "xd")))
local macro_rules | `(tactic| walk_at "start") => `(tactic| (simp only [L2.start, List.map_cons, List.map_nil, List.length_cons, List.length_nil, Nat.reduceAdd, Nat.reduceSub, List.replicate, List.cons_append, List.nil_append, List.append_nil]))
local macro_rules | `(tactic| walk_at "isi") => `(tactic| first
  | refine Br.x_isi (b := true) (.base (.int _)) (by decide +kernel) ?_ | refine Br.x_isi (b := false) (.base (.int _)) (by decide +kernel) ?_
  | refine Br.x_isi (b := true) (.base (.bl _)) (by decide +kernel) ?_ | refine Br.x_isi (b := false) (.base (.bl _)) (by decide +kernel) ?_
  | refine Br.x_isi (b := false) (.base .non) (by decide +kernel) ?_
  | refine Br.x_isi (b := true) (.base (.str _)) (by decide +kernel) ?_ | refine Br.x_isi (b := false) (.base (.str _)) (by decide +kernel) ?_
  | refine Br.x_isi (b := true) (.base (.tup (by assumption))) (by decide +kernel) ?_ | refine Br.x_isi (b := false) (.base (.tup (by assumption))) (by decide +kernel) ?_
  | refine Br.x_isi (b := true) (.base (.lst (by assumption))) (by decide +kernel) ?_ | refine Br.x_isi (b := false) (.base (.lst (by assumption))) (by decide +kernel) ?_)
local macro_rules | `(tactic| walk_at "f") => `(tactic| (refine L2.iteF ?_; walk_at "x"))
local macro_rules | `(tactic| walk_at "t") => `(tactic| (refine L2.iteT ?_; walk_at "x"))
local macro_rules | `(tactic| walk_at "is") => `(tactic| (walk_at "isi"; walk_at "x"))
local macro_rules | `(tactic| walk_at "xb") => `(tactic| (simp only [Br.bindS, List.set_cons_zero, List.set_cons_succ]; walk_at "x"))

section
variable {P : Program} {w : World} {K : PySem.W.Frag} {mg : Str → Option Value} {base : Heap}

open Br.F

def sp_product_of (K : PySem.W.Frag) : Sp := fun vs H Q _ => ∃ (f mo io : Addr) (as : List Addr) (fs : List Fac) (t c i m : Nat) (mv iv : List Int), vs = [.ref f, .ref mo, .ref io, .int (m : Int)] ∧ H f = some (.tup (as.map V.ref)) ∧ as.length = fs.length ∧ (∀ (k : Nat) x b, fs[k]? = some x → as[k]? = some b → FacAt H b x) ∧
  (∀ x, x ∈ fs → FacOk c i t x) ∧ H mo = some (.lst (mv.map V.int)) ∧ H io = some (.lst (iv.map V.int)) ∧ Mem m c mv ∧ Mem m i iv ∧ 2 ≤ m ∧ m ≤ 1000000000 ∧ ∀ r : Int, 0 ≤ r → r < m → (m : Int) ∣ r - prodV mv iv fs → Q (.int r) H
theorem prodV_snoc {mv iv : List Int} {f : Fac} : ∀ {fs : List Fac}, prodV mv iv (fs ++ [f]) = prodV mv iv fs * facV mv iv f
  | [] => by show facV mv iv f * 1 = 1 * facV mv iv f; rw [Int.mul_one, Int.one_mul]
  | x :: fs => by
    show facV mv iv x * prodV mv iv (fs ++ [f]) = facV mv iv x * prodV mv iv fs * facV mv iv f
    rw [prodV_snoc, Int.mul_assoc]
theorem ok_product_of (T : Txt K mg) : FnOk P w K mg base CX0 1 T.a_product_of T.fd_product_of ["factors", "memory", "given", "modulus"] (sp_product_of K) := by
  refine T.F_product_of.ok sc_product_of (fun vs H Q E h => ?_) (fun cdv A outer s H vs Q E hr h => ?_)
  · obtain ⟨f, mo, io, as, fs, t, c, i, m, mv, iv, rfl, _⟩ := h
    rfl
  · obtain ⟨f, mo, io, as, fs, t, c, i, m, mv, iv, rfl, hf, hl, hfa, ok, hm, hi, mm, mi, m2, m9, q⟩ := h
    refine ⟨_, (pss_cons (ps_set (i := 4) sc_product_of.nd rfl (.inl rfl) pe_int)
      (pss_cons (ps_for PassesOwn.never rfl (pi_tup (pv 0)) (pg_tup rfl (pgs_cons (pg_name (i := 5) sc_product_of.nd rfl (Or.inl rfl)) (pgs_cons (pg_name (i := 6) sc_product_of.nd rfl (Or.inl rfl)) pgs_nil)))
      (pss_cons (ps_set (i := 7) sc_product_of.nd rfl (.inl rfl) (pe_ifExp (pt_cmpR op_eq (pv 5) pe_str (nomark _)) (pe_ix (r := rIxL K) ix_list (pv 1) (pv 6) (fun _ _ => rfl)) (pe_ix (r := rIxL K) ix_list (pv 2) (pv 6) (fun _ _ => rfl))))
      (pss_one (ps_set (i := 4) sc_product_of.nd rfl (.inl rfl) (pe_op op_mod (pe_op op_mul (pv 4) (pv 7)) (pv 3))))))
      (pss_one (ps_ret (pv 4))))), ?_⟩
    walk_at "start"
    walk_at "x"
    refine x_forI (J := Itt K f) (n := (as.map V.ref).length) (G := fun H => SqT K H f (as.map V.ref)) (fun R r => ⟨_, rfl, f, rfl, ⟨_, st_of hf⟩, r⟩) walk_tup (fun k σ' H' => H = H' ∧ ∃ r v5 v6 v7, σ' = [some (.ref f), some (.ref mo), some (.ref io), some (.int (m : Int)), some (.int r), v5, v6, v7] ∧ 0 ≤ r ∧ r < m ∧ (m : Int) ∣ r - prodV mv iv (fs.take k))
      ⟨rfl, 1, _, _, _, rfl, by decide, by omega, 0, rfl⟩ (fun k σ' H' _ z => by rw [← z.1]; exact st_of hf) ?_ ?_
    · rintro k x σ' H' H2 hk ⟨rfl, r, v5, v6, v7, rfl, r0, r1, rd⟩ ⟨rfl, hx⟩
      obtain ⟨b, hb, rfl⟩ := map_getR hx
      have hk : k < fs.length := by
        have := (List.getElem?_eq_some_iff.mp hb).1
        omega
      obtain ⟨y, hy⟩ : ∃ y, fs[k]? = some y := ⟨_, List.getElem?_eq_getElem hk⟩
      have oky := ok y (List.mem_of_getElem? hy)
      have hfy := hfa k y b hy hb
      have fin : ∀ z : Int, z = facV mv iv y → (m : Int) ∣ r * z % m - prodV mv iv (fs.take (k + 1)) := fun z hz => by
        rw [take_snoc hy, prodV_snoc, ← hz]
        exact dvd_step rd
      cases y with
      | cell j =>
        have hfy : H2 b = some (.tup [.str "cell", .int (j : Int)]) := hfy
        obtain ⟨z, gz, ez, z0, z1⟩ := mm.get oky.1
        refine x_gTup2 (st_of hfy) ?_
        walk_at "x"
        refine x_Eq rfl ?_
        walk_at "x"
        rw [decide_eq_true rfl]
        walk_at "t"
        refine x_ixL (v := .int z) (sq_of hm) (atI_nat (by rw [List.getElem?_map, gz]; rfl)) ?_
        walk_at "x"
        exact ⟨rfl, _, _, _, _, rfl, Int.emod_nonneg _ (by omega), Int.emod_lt_of_pos _ (by omega), fin z ez.symm⟩
      | inp j =>
        have hfy : H2 b = some (.tup [.str "input", .int (j : Int)]) := hfy
        obtain ⟨z, gz, ez, z0, z1⟩ := mi.get (show j < i from oky)
        refine x_gTup2 (st_of hfy) ?_
        walk_at "x"
        refine x_Eq rfl ?_
        walk_at "x"
        rw [decide_eq_false (by decide)]
        walk_at "f"
        refine x_ixL (v := .int z) (sq_of hi) (atI_nat (by rw [List.getElem?_map, gz]; rfl)) ?_
        walk_at "x"
        exact ⟨rfl, _, _, _, _, rfl, Int.emod_nonneg _ (by omega), Int.emod_lt_of_pos _ (by omega), fin z ez.symm⟩
    · rintro σ' H' ⟨rfl, r, v5, v6, v7, rfl, r0, r1, rd⟩
      walk_at "x"
      refine q r r0 r1 ?_
      rw [List.length_map, hl, List.take_length] at rd
      exact rd


/-- pairs of a cell and its new content -/
def ChAt (H : Hp) (l : Addr) (cs : List (Nat × Int)) : Prop := ∃ as : List Addr, H l = some (.lst (as.map V.ref)) ∧ as.length = cs.length ∧ ∀ (i : Nat) (x : Nat × Int) b, cs[i]? = some x → as[i]? = some b → H b = some (.tup [.int (x.1 : Int), .int x.2])
def applyC (cs : List (Nat × Int)) (mv : List Int) : List Int := cs.foldl (fun m x => m.set x.1 x.2) mv
def sp_changes (K : PySem.W.Frag) : Sp := fun vs H Q _ => ∃ (a mo io : Addr) (s : Stp) (c i m : Nat) (mv iv : List Int), vs = [.ref a, .ref mo, .ref io, .int (m : Int)] ∧ StpAt H a s ∧ StpOk m c i s ∧ H mo = some (.lst (mv.map V.int)) ∧ H io = some (.lst (iv.map V.int)) ∧ Mem m c mv ∧ Mem m i iv ∧ 2 ≤ m ∧ m ≤ 1000000000 ∧
  ∀ (l : Addr) (cs : List (Nat × Int)) (H' : Hp), H l = none → Same H H' → ChAt H' l cs → applyC cs mv = stepF m iv mv s → cs.length ≤ 2 → (∀ x, x ∈ cs → x.1 < c) → Q (.ref l) H'
theorem ch_one {H : Hp} {p l : Addr} {t : Nat} {z : Int} (hp : H p = none) (hl : (L2.upd H p (.tup [.int (t : Int), .int z])) l = none) : Same H (L2.upd (L2.upd H p (.tup [.int (t : Int), .int z])) l (.lst [.ref p])) ∧ ChAt (L2.upd (L2.upd H p (.tup [.int (t : Int), .int z])) l (.lst [.ref p])) l [(t, z)] := by
  refine ⟨(same_upd hp).trans (same_upd hl), [p], upd_same, rfl, fun i x b e1 e2 => ?_⟩
  match i, e1, e2 with
  | 0, e1, e2 =>
    cases e1
    cases e2
    rw [upd_ne (ne_of_none upd_same hl), upd_same]
  | i + 1, e1, _ => simp at e1
theorem mod_cong {m : Nat} {a b c r : Int} (h : (m : Int) ∣ r - c) : (a + b * r) % m = (a + b * c) % m := by
  refine Int.emod_eq_emod_iff_emod_sub_eq_zero.mpr (Int.emod_eq_zero_of_dvd ?_)
  obtain ⟨k, hk⟩ := h
  refine ⟨b * k, ?_⟩
  have e : r = c + m * k := by omega
  rw [e]
  grind
theorem ok_changes (T : Txt K mg) : FnOk P w K mg base CX0 4 T.a_changes T.fd_changes ["step", "memory", "given", "modulus"] (sp_changes K) := by
  refine T.F_changes.ok sc_changes (fun vs H Q E h => ?_) (fun cdv A outer s H vs Q E hr h => ?_)
  · obtain ⟨a, mo, io, s, c, i, m, mv, iv, rfl, _⟩ := h
    rfl
  · obtain ⟨a, mo, io, s, c, i, m, mv, iv, rfl, hs, ok, hm, hi, mm, mi, m2, m9, q⟩ := h
    refine ⟨_, (pss_one (ps_match (pv 0) (pcs_seq rfl op_eq (pcap_name 4 sc_changes.nd rfl (.inl rfl) (pcap_name 5 sc_changes.nd rfl (.inl rfl) (pcap_name 6 sc_changes.nd rfl (.inl rfl) pcap_nil)))
      (pss_cons (ps_set (i := 7) sc_changes.nd rfl (.inl rfl) (pe_op op_mul (pv 5) (pe_call (ok_product_of T) (hr.mono (by decide)) (by rfl) T.g_product_of T.F_product_of.kp T.b_product_of .nil pass0 (pa_cons (pv 6) (pa_cons (pv 1) (pa_cons (pv 2) (pa_cons (pv 3) pa_nil)))))))
      (pss_one (ps_ret (pe_lst (pa_cons (pe_tup (pa_cons (pv 4) (pa_cons (pe_op op_mod (pe_op op_add (pe_ix (r := rIxL K) ix_list (pv 1) (pv 4) (fun _ _ => rfl)) (pv 7)) (pv 3)) pa_nil))) pa_nil)))))
      (pcs_seq rfl op_eq (pcap_name 4 sc_changes.nd rfl (.inl rfl) (pcap_name 8 sc_changes.nd rfl (.inl rfl) pcap_nil))
      (pss_one (ps_ret (pe_lst (pa_cons (pe_tup (pa_cons (pv 4) (pa_cons (pe_op op_mod (pe_op op_mul (pe_ix (r := rIxL K) ix_list (pv 1) (pv 4) (fun _ _ => rfl)) (pv 8)) (pv 3)) pa_nil))) pa_nil))))
      (pcs_seq rfl op_eq (pcap_name 9 sc_changes.nd rfl (.inl rfl) (pcap_name 10 sc_changes.nd rfl (.inl rfl) pcap_nil))
      (pss_one (ps_ret (pe_lst (pa_cons (pe_tup (pa_cons (pv 9) (pa_cons (pe_ix (r := rIxL K) ix_list (pv 1) (pv 10) (fun _ _ => rfl)) pa_nil))) (pa_cons (pe_tup (pa_cons (pv 10) (pa_cons (pe_ix (r := rIxL K) ix_list (pv 1) (pv 9) (fun _ _ => rfl)) pa_nil))) pa_nil)))))
      (pcs_seq rfl op_eq (pcap_name 4 sc_changes.nd rfl (.inl rfl) (pcap_name 11 sc_changes.nd rfl (.inl rfl) (pcap_name 12 sc_changes.nd rfl (.inl rfl) (pcap_name 9 sc_changes.nd rfl (.inl rfl) (pcap_name 10 sc_changes.nd rfl (.inl rfl) pcap_nil)))))
      (pss_cons (ps_set (i := 7) sc_changes.nd rfl (.inl rfl) (pe_op op_mul (pv 11) (pe_call (ok_interpolate T) hr (by rfl) T.g_interpolate T.F_interpolate.kp T.b_interpolate .nil pass0 (pa_cons (pv 12) (pa_cons (pv 3) (pa_cons (pe_ix (r := rIxL K) ix_list (pv 1) (pv 9) (fun _ _ => rfl)) (pa_cons (pe_ix (r := rIxL K) ix_list (pv 1) (pv 10) (fun _ _ => rfl)) pa_nil)))))))
      (pss_one (ps_ret (pe_lst (pa_cons (pe_tup (pa_cons (pv 4) (pa_cons (pe_op op_mod (pe_op op_add (pe_ix (r := rIxL K) ix_list (pv 1) (pv 4) (fun _ _ => rfl)) (pv 7)) (pv 3)) pa_nil))) pa_nil)))))
      pcs_nil)))))), ?_⟩
    walk_at "start"
    cases s with
    | add t k fs =>
      obtain ⟨f, as, h1, h2, h3, h4⟩ := hs
      obtain ⟨o1, o2, o3, o4, o5⟩ := ok
      obtain ⟨z, gz, ez, z0, z1⟩ := mm.get o1
      walk_at "x"
      refine x_caseY (st_of h1) rfl ?_
      walk_at "xb"
      refine ⟨f, mo, io, as, fs, t, c, i, m, mv, iv, rfl, h2, h3, h4, o5, hm, hi, mm, mi, m2, m9, fun r r0 r1 rd => ?_⟩
      walk_at "x"
      refine x_ixL (v := .int z) (sq_of hm) (atI_nat (by rw [List.getElem?_map, gz]; rfl)) ?_
      walk_at "x"
      refine ⟨by show 2 ≤ sizeLine; decide, fun p hp => ?_⟩
      walk_at "x"
      refine ⟨by show 1 ≤ sizeLine; decide, fun l hl => ?_⟩
      obtain ⟨sm, ch⟩ := ch_one hp hl
      refine q l _ _ ((same_upd hp).free hl) sm ch ?_ (Nat.le_of_ble_eq_true rfl) (fun x hx => by rw [List.mem_singleton.mp hx]; exact o1)
      show mv.set t ((z + k * r) % m) = mv.set t ((mv.getD t 0 + k * prodV mv iv fs) % m)
      rw [ez, mod_cong rd]
    | scale t u =>
      have h1 : H a = some (.tup [.str "scale", .int (t : Int), .int u]) := hs
      obtain ⟨o1, o2, o3, o4⟩ := ok
      obtain ⟨z, gz, ez, z0, z1⟩ := mm.get o1
      walk_at "x"
      refine x_caseNo (st_of h1) (Nat.ne_of_beq_eq_false rfl) ?_
      refine x_caseY (st_of h1) rfl ?_
      walk_at "xb"
      refine x_ixL (v := .int z) (sq_of hm) (atI_nat (by rw [List.getElem?_map, gz]; rfl)) ?_
      walk_at "x"
      refine ⟨by show 2 ≤ sizeLine; decide, fun p hp => ?_⟩
      walk_at "x"
      refine ⟨by show 1 ≤ sizeLine; decide, fun l hl => ?_⟩
      obtain ⟨sm, ch⟩ := ch_one hp hl
      refine q l _ _ ((same_upd hp).free hl) sm ch ?_ (Nat.le_of_ble_eq_true rfl) (fun x hx => by rw [List.mem_singleton.mp hx]; exact o1)
      show mv.set t (z * u % m) = mv.set t (mv.getD t 0 * u % m)
      rw [ez]
    | swap x y =>
      have h1 : H a = some (.tup [.str "swap", .int (x : Int), .int (y : Int)]) := hs
      obtain ⟨o1, o2, o3⟩ := ok
      obtain ⟨zx, gzx, ezx, _⟩ := mm.get o1
      obtain ⟨zy, gzy, ezy, _⟩ := mm.get o2
      walk_at "x"
      refine x_caseNo (st_of h1) (Nat.ne_of_beq_eq_false rfl) ?_
      refine x_caseW (st_of h1) rfl (by decide) ?_
      refine x_caseY (st_of h1) rfl ?_
      walk_at "xb"
      refine x_ixL (v := .int zy) (sq_of hm) (atI_nat (by rw [List.getElem?_map, gzy]; rfl)) ?_
      walk_at "x"
      refine ⟨by show 2 ≤ sizeLine; decide, fun p hp => ?_⟩
      walk_at "x"
      have hm1 := (same_upd (o := .tup [.int (x : Int), .int zy]) hp) _ _ hm
      refine x_ixL (v := .int zx) (sq_of hm1) (atI_nat (by rw [List.getElem?_map, gzx]; rfl)) ?_
      walk_at "x"
      refine ⟨by show 2 ≤ sizeLine; decide, fun p2 hp2 => ?_⟩
      walk_at "x"
      refine ⟨by show 2 ≤ sizeLine; decide, fun l hl => ?_⟩
      have s2 := (same_upd (o := .tup [.int (x : Int), .int zy]) hp).trans (same_upd (o := .tup [.int (y : Int), .int zx]) hp2)
      refine q l [(x, zy), (y, zx)] _ (s2.free hl) (s2.trans (same_upd hl)) ⟨[p, p2], upd_same, rfl, fun i w b e1 e2 => ?_⟩ ?_ (Nat.le_of_ble_eq_true rfl) (fun w hw => by
        have e : w = (x, zy) ∨ w = (y, zx) := by simpa using hw
        rcases e with rfl | rfl
        · exact o1
        · exact o2)
      · have hpl : (upd (upd H p (.tup [.int (x : Int), .int zy])) p2 (.tup [.int (y : Int), .int zx])) p = some (.tup [.int (x : Int), .int zy]) := same_upd hp2 _ _ upd_same
        match i, e1, e2 with
        | 0, e1, e2 =>
          cases e1
          cases e2
          exact same_upd hl _ _ hpl
        | 1, e1, e2 =>
          cases e1
          cases e2
          exact same_upd hl _ _ upd_same
        | i + 2, e1, _ => simp at e1
      · show (mv.set x zy).set y zx = (mv.set x (mv.getD y 0)).set y (mv.getD x 0)
        rw [ezx, ezy]
    | tab t g tb x y =>
      obtain ⟨o, h1, as, ht1, ht2, ht3⟩ := hs
      obtain ⟨o1, o2, o3, o4, o5, o6, o7, o8, o9, o10⟩ := ok
      obtain ⟨z, gz, ez, z0, z1⟩ := mm.get o1
      obtain ⟨zx, gzx, ezx, zx0, zx1⟩ := mm.get o2
      obtain ⟨zy, gzy, ezy, zy0, zy1⟩ := mm.get o3
      walk_at "x"
      refine x_caseNo (st_of h1) (Nat.ne_of_beq_eq_false rfl) ?_
      refine x_caseNo (st_of h1) (Nat.ne_of_beq_eq_false rfl) ?_
      refine x_caseNo (st_of h1) (Nat.ne_of_beq_eq_false rfl) ?_
      refine x_caseY (st_of h1) rfl ?_
      walk_at "xb"
      refine x_ixL (v := .int zx) (sq_of hm) (atI_nat (by rw [List.getElem?_map, gzx]; rfl)) ?_
      walk_at "x"
      refine x_ixL (v := .int zy) (sq_of hm) (atI_nat (by rw [List.getElem?_map, gzy]; rfl)) ?_
      walk_at "x"
      refine ⟨o, m, zx, zy, tb, rfl, ⟨as, st_of ht1, ht2, fun i r b e1 e2 => st_of (ht3 i r b e1 e2)⟩, o8, o9, o10, m9, zx0, zx1, zy0, zy1, fun v H1 hv v0 v1 s1 => ?_⟩
      have ev := hv.uniq o10 o8.le (ItpV.ok o10 o8.le)
      walk_at "x"
      refine x_ixL (v := .int z) (sq_of (s1 _ _ hm)) (atI_nat (by rw [List.getElem?_map, gz]; rfl)) ?_
      walk_at "x"
      refine ⟨by show 2 ≤ sizeLine; decide, fun p hp => ?_⟩
      walk_at "x"
      refine ⟨by show 1 ≤ sizeLine; decide, fun l hl => ?_⟩
      obtain ⟨sm, ch⟩ := ch_one hp hl
      refine q l _ _ (s1.free ((same_upd hp).free hl)) (s1.trans sm) ch ?_ (Nat.le_of_ble_eq_true rfl) (fun w hw => by rw [List.mem_singleton.mp hw]; exact o1)
      show mv.set t ((z + g * v) % m) = mv.set t ((mv.getD t 0 + g * ItpV m tb (mv.getD x 0) (mv.getD y 0)) % m)
      rw [ez, ezx, ezy, ev]


end
end Br
namespace Br
open PySem PySem.Spec PyProof.Rows L2
local macro_rules | `(tactic| walk_at "x1") => `(tactic| (with_reducible first
  | refine Br.x_seq ?_ | refine Br.x_set ?_ | refine Br.x_asg ?_ | refine Br.x_next ?_ | refine Br.x_ret ?_ | refine Br.x_retN ?_ | refine Br.x_drop ?_ | refine Br.x_if ?_ | refine Br.x_brk ?_ | refine Br.x_cont ?_
  | refine Br.x_c ?_ | refine Br.x_op ?_ | refine Br.x_un ?_ | refine Br.x_I0 ?_ | refine Br.x_U ?_ | refine Br.x_EqI ?_ | refine Br.x_NeI ?_ | refine Br.x_EqB ?_ | refine Br.x_iN ?_ | refine Br.x_int1 ?_ | refine Br.x_min2 ?_ | refine Br.x_max2 ?_ | refine Br.x_nN ?_ | refine Br.x_ifE ?_
  | refine Br.x_test (b := ()) ?_ | refine Br.x_tB ?_ | refine Br.x_bl ?_ | refine Br.x_and ?_ | refine Br.x_or ?_ | refine Br.x_not ?_ | refine Br.x_andV ?_ | refine Br.x_orV ?_ | refine Br.x_notV ?_ | refine Br.x_blP ?_
  | refine Br.x_nil ?_ | refine Br.x_cons ?_ | refine Br.x_call ?_ | refine Br.x_CB ?_ | refine Br.x_BM ?_ | refine Br.x_tup ?_ | refine Br.x_lst ?_ | refine Br.x_chain ?_ | refine Br.x_par ?_ | refine Br.x_gSub ?_ | refine Br.x_gName ?_ | refine Br.x_fld ?_ | refine Br.x_fldS ?_ | refine Br.x_match ?_ | refine Br.x_else ?_ | refine Br.x_noCase ?_))
local macro_rules | `(tactic| walk_at "xv") => `(tactic| ((with_reducible refine' Br.x_var ?hvar ?_); (case hvar => rfl)))
local macro_rules | `(tactic| walk_at "xd") => `(tactic| (dsimp only [List.set_cons_zero, List.set_cons_succ, List.cons_append, List.nil_append, List.append_nil]))
local macro_rules | `(tactic| walk_at "xi") => `(tactic| ((with_reducible refine Br.x_I ?hside ?_); (case hside => first | exact Br.mul_r (by decide) (by decide) | exact Br.mul_l (by decide) (by decide) | exact Br.mul_l (by omega) (by omega) | exact Br.mul_r (by omega) (by omega) | (show (0 : Int) < _; first | decide | omega) | exact ⟨by decide, by decide⟩ | exact ⟨by omega, by omega⟩ | exact ⟨by decide, by decide, by decide⟩)))
local macro_rules | `(tactic| walk_at "x") => `(tactic| (repeat (first | walk_at "x1" | walk_at "xv" | walk_at "xi" | walk_at "xd")))
local macro_rules | `(tactic| walk_at "start") => `(tactic| (simp only [L2.start, List.map_cons, List.map_nil, List.length_cons, List.length_nil, Nat.reduceAdd, Nat.reduceSub, List.replicate, List.cons_append, List.nil_append, List.append_nil]))
local macro_rules | `(tactic| walk_at "isi") => `(tactic| first
  | refine Br.x_isi (b := true) (.base (.int _)) (by decide +kernel) ?_ | refine Br.x_isi (b := false) (.base (.int _)) (by decide +kernel) ?_
  | refine Br.x_isi (b := true) (.base (.bl _)) (by decide +kernel) ?_ | refine Br.x_isi (b := false) (.base (.bl _)) (by decide +kernel) ?_
  | refine Br.x_isi (b := false) (.base .non) (by decide +kernel) ?_
  | refine Br.x_isi (b := true) (.base (.str _)) (by decide +kernel) ?_ | refine Br.x_isi (b := false) (.base (.str _)) (by decide +kernel) ?_
  | refine Br.x_isi (b := true) (.base (.tup (by assumption))) (by decide +kernel) ?_ | refine Br.x_isi (b := false) (.base (.tup (by assumption))) (by decide +kernel) ?_
  | refine Br.x_isi (b := true) (.base (.lst (by assumption))) (by decide +kernel) ?_ | refine Br.x_isi (b := false) (.base (.lst (by assumption))) (by decide +kernel) ?_)
local macro_rules | `(tactic| walk_at "f") => `(tactic| (refine L2.iteF ?_; walk_at "x"))
local macro_rules | `(tactic| walk_at "t") => `(tactic| (refine L2.iteT ?_; walk_at "x"))
local macro_rules | `(tactic| walk_at "is") => `(tactic| (walk_at "isi"; walk_at "x"))
local macro_rules | `(tactic| walk_at "xb") => `(tactic| (simp only [Br.bindS, List.set_cons_zero, List.set_cons_succ]; walk_at "x"))

section
variable {P : Program} {w : World} {K : PySem.W.Frag} {mg : Str → Option Value} {base : Heap}

open Br.F
theorem prime_I {m : Nat} (h : IsPrime m) : PrimeI (m : Int) := by
  refine ⟨by have := h.1; omega, fun d h2 hd he => ?_⟩
  obtain ⟨n, rfl⟩ : ∃ n : Nat, d = (n : Int) := ⟨d.toNat, by omega⟩
  have hdv : n ∣ m := Int.ofNat_dvd.mp (Int.dvd_of_emod_eq_zero he)
  rcases h.2 n hdv with e | e
  · omega
  · subst e
    have : (2 : Int) * n ≤ n * n := Int.mul_le_mul_of_nonneg_right h2 (by omega)
    omega

def sp_check_sizes (K : PySem.W.Frag) : Sp := fun vs H Q _ => ∃ (m c i : Nat), vs = [.int (m : Int), .int (c : Int), .int (i : Int)] ∧ 2 ≤ m ∧ m ≤ 1000000000 ∧ 1 ≤ c ∧ c ≤ 60 ∧ i ≤ 60 ∧ Q .non H
theorem ok_check_sizes (T : Txt K mg) : FnOk P w K mg base CX0 3 T.a_check_sizes T.fd_check_sizes ["modulus", "cells", "inputs"] (sp_check_sizes K) := by
  refine T.F_check_sizes.ok sc_check_sizes (fun vs H Q E h => ?_) (fun cdv A outer s H vs Q E hr h => ?_)
  · obtain ⟨m, c, i, rfl, _⟩ := h
    rfl
  · obtain ⟨m, c, i, rfl, m2, m9, c1, c60, i60, q⟩ := h
    refine ⟨_, (pss_cons (ps_if (pt_not (pt_val (pe_call (ok_is_modulus T) hr (by rfl) T.g_is_modulus T.F_is_modulus.kp T.b_is_modulus .nil pass0 (pa_cons (pv 0) pa_nil))))
      (pss_one ps_never)
      pss_nil)
      (pss_cons (ps_if (PW.pt (pw_or (pt_not (pt_val (pe_call (ok_is_below T) (hr.mono (by decide)) (by rfl) T.g_is_below T.F_is_below.kp T.b_is_below .nil pass0 (pa_cons (pv 1) (pa_cons (pe_op op_add (pe_glob (v := .int 60) (by rfl) T.c_MOST_CELLS ⟨_, rfl⟩) pe_int) pa_nil))))) (pw_or1 (pt_cmpR op_eq (pv 1) pe_int (nomark _)))))
      (pss_one ps_never)
      pss_nil)
      (pss_one (ps_if (pt_not (pt_val (pe_call (ok_is_below T) (hr.mono (by decide)) (by rfl) T.g_is_below T.F_is_below.kp T.b_is_below .nil pass0 (pa_cons (pv 2) (pa_cons (pe_op op_add (pe_glob (v := .int 60) (by rfl) T.c_MOST_INPUTS_programs ⟨_, rfl⟩) pe_int) pa_nil)))))
      (pss_one ps_never)
      pss_nil)))), ?_⟩
    walk_at "start"
    walk_at "x"
    refine ⟨_, rfl, .int _, ?_⟩
    have e : (isB (.int (m : Int)) 1000000001 && !isB (.int (m : Int)) 2) = true := by
      rw [isB_int (by omega) (by omega)]
      show (true && !(decide (0 ≤ (m : Int)) && decide ((m : Int) < 2))) = true
      rw [decide_eq_false (show ¬ (m : Int) < 2 by omega), Bool.and_false]; rfl
    rw [e]
    walk_at "x"
    walk_at "f"
    refine ⟨_, _, rfl, .int _, ?_⟩
    rw [isB_int (by omega) (by omega)]
    walk_at "x"
    walk_at "f"
    rw [decide_eq_false (show ¬ (c : Int) = 0 by omega)]
    walk_at "f"
    refine ⟨_, _, rfl, .int _, ?_⟩
    rw [isB_int (by omega) (by omega)]
    walk_at "x"
    walk_at "f"
    exact q


def stW : Stp → Str
  | .add .. => "add"
  | .scale .. => "scale"
  | .swap .. => "swap"
  | .tab .. => "table"
def isT : Stp → Bool
  | .tab .. => true
  | _ => false
theorem StpAt.head {H : Hp} {a : Addr} : ∀ {s : Stp}, StpAt H a s → ∃ ys, H a = some (.tup (.str (stW s) :: ys))
  | .add .., h => by obtain ⟨f, as, h1, _⟩ := h; exact ⟨_, h1⟩
  | .scale .., h => ⟨_, h⟩
  | .swap .., h => ⟨_, h⟩
  | .tab .., h => by obtain ⟨c, h1, _⟩ := h; exact ⟨_, h1⟩
theorem stW_tab (s : Stp) : decide (V.str (stW s) = V.str "table") = isT s := by
  cases s with
  | add => exact decide_eq_false (fun e => absurd (show ("add" : Str) = "table" from V.str.inj e) (by decide))
  | scale => exact decide_eq_false (fun e => absurd (show ("scale" : Str) = "table" from V.str.inj e) (by decide))
  | swap => exact decide_eq_false (fun e => absurd (show ("swap" : Str) = "table" from V.str.inj e) (by decide))
  | tab => exact decide_eq_true rfl
def sp_check_steps (K : PySem.W.Frag) : Sp := fun vs H Q _ => ∃ (L : Addr) (as : List Addr) (ss : List Stp) (m c i : Nat), vs = [.ref L, .int (m : Int), .int (c : Int), .int (i : Int)] ∧ H L = some (.lst (as.map V.ref)) ∧ StpsAt H as ss ∧ ss.length ≤ 20000 ∧ (∀ s, s ∈ ss → StpOk m c i s) ∧ 2 ≤ m ∧ m ≤ 1000000000 ∧
  ∀ H', Same H H' → Q .non H'
theorem ok_check_steps (T : Txt K mg) : FnOk P w K mg base CX0 5 T.a_check_steps T.fd_check_steps ["steps", "modulus", "cells", "inputs"] (sp_check_steps K) := by
  refine T.F_check_steps.ok sc_check_steps (fun vs H Q E h => ?_) (fun cdv A outer s H vs Q E hr h => ?_)
  · obtain ⟨L, as, ss, m, c, i, rfl, _⟩ := h
    rfl
  · obtain ⟨L, as, ss, m, c, i, rfl, hL, hA, hn, ok, m2, m9, q⟩ := h
    have hal := hA.1
    refine ⟨_, (pss_cons (ps_if (PW.pt (pw_or (pt_not (pt_val (pe_callB (id := "isinstance") (r := rIsi K) call_isi (by rfl) T.m_isinstance (by decide +kernel) (pa_cons (pv 0) (pa_cons (pe_bltn (v := .ty "list") (by rfl) T.m_list (by decide +kernel) rfl) pa_nil))))) (pw_or1 (pt_cmpR op_gt (pe_callB (id := "len") (r := rLen K) cr_len (by rfl) T.m_len PySem.boot_len (pa_cons (pv 0) pa_nil)) (pe_glob (v := .int 20000) (by rfl) T.c_MOST_STEPS ⟨_, rfl⟩) (nomark _)))))
      (pss_one ps_never)
      pss_nil)
      (pss_cons (ps_for PassesOwn.never rfl (pi_enum (by rfl) T.m_enumerate (pa_cons (pv 0) pa_nil)) (pg_tup rfl (pgs_cons (pg_name (i := 4) sc_check_steps.nd rfl (Or.inl rfl)) (pgs_cons (pg_name (i := 5) sc_check_steps.nd rfl (Or.inl rfl)) pgs_nil)))
      (pss_one (ps_if (pt_not (pt_val (pe_call (ok_is_step T) hr (by rfl) T.g_is_step T.F_is_step.kp T.b_is_step .nil pass0 (pa_cons (pv 5) (pa_cons (pv 1) (pa_cons (pv 2) (pa_cons (pv 3) pa_nil)))))))
      (pss_one ps_never)
      pss_nil)))
      (pss_one (ps_if (PW.pt (pw_and (pt_val (pe_callB (id := "any") (r := rAny K) (cr_any rfl) (by rfl) T.m_any (by decide +kernel) (pa_cons (pe_lc (own := [("step", 5)]) (g := gName 5) (tt := tYes) rfl sc_check_steps.nd (pi_list (pv 0)) (blkOk_by (N := N_check_steps) (sc := defScope s_check_steps) (by decide +kernel)) (fun _ _ _ _ _ => (pg_name (i := 5) sc_check_steps.nd rfl (Or.inl rfl))) (fun _ _ _ _ _ => pts_nil) (fun _ _ _ _ _ => (pe_cmpR op_eq (pe_ix (r := rIxT K) ix_tup (pv 5) pe_int (fun _ _ => rfl)) pe_str (nomark _)))) pa_nil))) (pw_and1 (pt_not (pt_val (pe_call (ok_is_prime T) (hr.mono (by decide)) (by rfl) T.g_is_prime T.F_is_prime.kp T.b_is_prime .nil pass0 (pa_cons (pv 1) pa_nil)))))))
      (pss_one ps_never)
      pss_nil)))), ?_⟩
    walk_at "start"
    walk_at "x"
    walk_at "is"
    walk_at "f"
    refine x_len (sq_of hL) ?_
    walk_at "x"
    rw [List.length_map, hal, decide_eq_false (show ¬ (20000 : Int) < (ss.length : Int) by omega)]
    walk_at "f"
    refine x_forI (J := Ite K L) (n := (as.map V.ref).length) (G := fun H => SqL K H L (as.map V.ref)) (fun R r => by unfold iEnum; walk_at "x"; exact ⟨L, _, rfl, sq_of hL, r⟩) walk_enum (fun k σ' H' => Same H H' ∧ ∃ v4 v5, σ' = [some (.ref L), some (.int (m : Int)), some (.int (c : Int)), some (.int (i : Int)), v4, v5])
      ⟨Same.refl _, _, _, rfl⟩ (fun k σ' H' _ z => sq_of (z.1 _ _ hL)) ?_ ?_
    · rintro k _ σ' H' H2 hk ⟨hs, v4, v5, rfl⟩ ⟨o, x, y, rfl, ho, rfl, gx, gy⟩
      cases gx
      obtain ⟨b, hb, rfl⟩ := map_getR gy
      obtain ⟨s, hs1, hs2⟩ := hA.get hb
      have s3 : Same H (upd H' o (.tup [.int (k : Int), .ref b])) := sput hs (sfree hs ho)
      refine x_gTup2 (st_of upd_same) ?_
      walk_at "x"
      refine ⟨b, s, m, c, i, rfl, hs2.tups (Tups.same s3), ok s (List.mem_of_getElem? hs1), m2, fun H4 s4 => ?_⟩
      walk_at "x"
      walk_at "f"
      exact ⟨s3.trans s4, _, _, rfl⟩
    · rintro σ' H' ⟨hs, v4, v5, rfl⟩
      have hL' := hs _ _ hL
      walk_at "x"
      refine x_lcB (xs := as.map V.ref) (fun k => match ss[k]? with | some s => isT s | none => false) (J := Itl K L) (G := fun H => SqL K H L (as.map V.ref)) (fun R r => ⟨_, rfl, L, rfl, ⟨_, sq_of hL'⟩, r⟩) walk_list (by rw [List.length_map]; omega) (fun H2 s => sq_of (s _ _ hL')) (fun x => rfl) ?_ ?_
      · intro k x H2 s2 hx R hR
        obtain ⟨b, hb, rfl⟩ := map_getR hx
        obtain ⟨s, hs1, hs2⟩ := hA.get hb
        obtain ⟨ys, hy⟩ := (hs2.tups (Tups.same (hs.trans s2))).head
        walk_at "x"
        refine x_ixT (v := .str (stW s)) (st_of hy) (atI_nat (j := 0) rfl) ?_
        walk_at "x"
        refine x_Eq rfl ?_
        rw [stW_tab]
        have e : (match ss[k]? with | some s => isT s | none => false) = isT s := by rw [hs1]
        rw [← e]
        exact hR H2 (Same.refl _)
      · intro p H2 hp s2 hP
        walk_at "x"
        refine x_any hP ?_
        walk_at "x"
        refine x_iteB (fun hb => ?_) (fun hb => ?_)
        · have hm : IsPrime m := by
            obtain ⟨b, hb1, hb2⟩ := List.any_eq_true.mp hb
            obtain ⟨k, hk, rfl⟩ := List.mem_map.mp hb1
            have hk := List.mem_range.mp hk
            rw [List.length_map, hal] at hk
            have e : (match ss[k]? with | some s => isT s | none => false) = true := hb2
            rw [List.getElem?_eq_getElem hk] at e
            have okk := ok ss[k] (List.getElem_mem hk)
            generalize ss[k] = s at e okk
            cases s with
            | tab t g tb x y => exact okk.2.2.2.2.2.2.2.2.2
            | add => cases e
            | scale => cases e
            | swap => cases e
          walk_at "x"
          refine ⟨_, rfl, by omega, by omega, fun b hbp => ?_⟩
          walk_at "x"
          have e : b = true := hbp.mpr (prime_I hm)
          subst e
          walk_at "f"
          exact q H2 (hs.trans s2)
        · walk_at "f"
          exact q H2 (hs.trans s2)

/-! ### programs -/
structure PC (K : PySem.W.Frag) (C : Addr) : Prop where
  cl : Cls K C
  m : NoAttr K C "modulus"
  c : NoAttr K C "cells"
  i : NoAttr K C "inputs"
  s : NoAttr K C "steps"
def progF (m c i : Int) (L : Addr) : List (Str × V) := [("modulus", V.int m), ("cells", V.int c), ("inputs", V.int i), ("steps", V.ref L)]
theorem progF_m {m c i : Int} {L : Addr} : (progF m c i L).lookup ("modulus" : Str) = some (V.int m) := rfl
theorem progF_c {m c i : Int} {L : Addr} : (progF m c i L).lookup ("cells" : Str) = some (V.int c) := rfl
theorem progF_i {m c i : Int} {L : Addr} : (progF m c i L).lookup ("inputs" : Str) = some (V.int i) := rfl
theorem progF_s {m c i : Int} {L : Addr} : (progF m c i L).lookup ("steps" : Str) = some (V.ref L) := rfl
theorem progF_mk {m c i : Int} {L : Addr} : putF "steps" (V.ref L) (putF "inputs" (V.int i) (putF "cells" (V.int c) (putF "modulus" (V.int m) []))) = progF m c i L := rfl
/-- a program at p: its steps' list at L -/
structure PrAt (K : PySem.W.Frag) (C : Addr) (H : Hp) (p L : Addr) (as : List Addr) (ss : List Stp) (m c i : Nat) : Prop where
  ob : ∃ dx, H p = some (.ins C dx (progF m c i L)) ∧ PC K C
  lst : H L = some (.lst (as.map V.ref))
  st : StpsAt H as ss
theorem PrAt.same {K : PySem.W.Frag} {C : Addr} {H H' : Hp} {p L : Addr} {as : List Addr} {ss : List Stp} {m c i : Nat} (h : PrAt K C H p L as ss m c i) (s : Same H H') : PrAt K C H' p L as ss m c i := by
  obtain ⟨dx, h1, h2⟩ := h.ob
  exact ⟨⟨dx, s _ _ h1, h2⟩, s _ _ h.lst, h.st.tups (Tups.same s)⟩
structure PrOk (ss : List Stp) (m c i : Nat) : Prop where
  m2 : 2 ≤ m
  m9 : m ≤ 1000000000
  c1 : 1 ≤ c
  c60 : c ≤ 60
  i60 : i ≤ 60
  len : ss.length ≤ 20000
  ok : ∀ s, s ∈ ss → StpOk m c i s

def sp_Program___init (K : PySem.W.Frag) : Sp := fun vs H Q _ => ∃ (p C dx L : Addr) (as : List Addr) (ss : List Stp) (m c i : Nat), vs = [.ref p, .int (m : Int), .int (c : Int), .int (i : Int), .ref L] ∧ H p = some (.ins C dx []) ∧ PC K C ∧ H L = some (.lst (as.map V.ref)) ∧ StpsAt H as ss ∧ PrOk ss m c i ∧
  ∀ (L' : Addr) (H' : Hp), H L' = none → (∀ b o, H b = some o → b ≠ p → H' b = some o) → PrAt K C H' p L' as ss m c i → Q .non H'
theorem ok_Program___init (T : Txt K mg) : FnOk P w K mg base CX0 6 T.a_Program___init T.fd_Program___init ["self", "modulus", "cells", "inputs", "steps"] (sp_Program___init K) := by
  refine T.F_Program___init.ok sc_Program___init (fun vs H Q E h => ?_) (fun cdv A outer s H vs Q E hr h => ?_)
  · obtain ⟨p, C, dx, L, as, ss, m, c, i, rfl, _⟩ := h
    rfl
  · obtain ⟨p, C, dx, L, as, ss, m, c, i, rfl, hp, hC, hL, hA, ok, q⟩ := h
    refine ⟨_, (pss_cons (ps_expr (pe_call (ok_check_sizes T) (hr.mono (by decide)) (by rfl) T.g_check_sizes T.F_check_sizes.kp T.b_check_sizes .nil pass0 (pa_cons (pv 1) (pa_cons (pv 2) (pa_cons (pv 3) pa_nil)))))
      (pss_cons (ps_expr (pe_call (ok_check_steps T) hr (by rfl) T.g_check_steps T.F_check_steps.kp T.b_check_steps .nil pass0 (pa_cons (pv 4) (pa_cons (pv 1) (pa_cons (pv 2) (pa_cons (pv 3) pa_nil))))))
      (pss_cons (ps_fld (pv 0) (pv 1) rfl)
      (pss_cons (ps_fld (pv 0) (pv 2) rfl)
      (pss_cons (ps_fld (pv 0) (pv 3) rfl)
      (pss_one (ps_fld (pv 0) (pe_callTy (T := "list") (r := rListOf K) cr_list_of (by rfl) T.m_list (by decide +kernel) (pa_cons (pv 4) pa_nil)) rfl))))))), ?_⟩
    walk_at "start"
    walk_at "x"
    refine ⟨m, c, i, rfl, ok.m2, ok.m9, ok.c1, ok.c60, ok.i60, ?_⟩
    walk_at "x"
    refine ⟨L, as, ss, m, c, i, rfl, hL, hA, ok.len, ok.ok, ok.m2, ok.m9, fun H1 s1 => ?_⟩
    have hp1 := s1 _ _ hp
    have hL1 := s1 _ _ hL
    walk_at "x"
    refine ⟨p, C, dx, _, rfl, hp1, hC.cl, hC.m, by decide, ?_⟩
    walk_at "x"
    refine ⟨p, C, dx, _, rfl, upd_same, hC.cl, hC.c, by show 1 < 1000; decide, ?_⟩
    walk_at "x"
    refine ⟨p, C, dx, _, rfl, upd_same, hC.cl, hC.i, by show 2 < 1000; decide, ?_⟩
    walk_at "x"
    have hpL : L ≠ p := ne_of hL1 hp1 (by intro z; cases z)
    refine x_listL (sq_of (by rw [upd_ne hpL, upd_ne hpL, upd_ne hpL]; exact hL1)) fun L' hL' => ?_
    have hpL' : p ≠ L' := ne_of_none upd_same hL'
    have hL'1 : H1 L' = none := by
      rw [upd_ne hpL'.symm, upd_ne hpL'.symm, upd_ne hpL'.symm] at hL'
      exact hL'
    walk_at "x"
    refine ⟨p, C, dx, _, rfl, by rw [upd_ne hpL', upd_same], hC.cl, hC.s, by show 3 < 1000; decide, ?_⟩
    rw [progF_mk]
    generalize hU : upd (upd _ _ _) _ _ = U
    have keep : ∀ b o, H b = some o → b ≠ p → U b = some o := fun b o e hb => by
      rw [← hU, upd_ne hb, upd_ne (ne_of_none (s1 _ _ e) hL'1), upd_ne hb, upd_ne hb, upd_ne hb]
      exact s1 _ _ e
    refine q L' U (s1.free hL'1) keep ⟨⟨dx, by rw [← hU]; exact upd_same, hC⟩, by rw [← hU, upd_ne hpL'.symm, upd_same], hA.tups fun b xs e => keep b _ e (ne_of e hp (by intro z; cases z))⟩


end
end Br
namespace Br
open PySem PySem.Spec PyProof.Rows L2
local macro_rules | `(tactic| walk_at "x1") => `(tactic| (with_reducible first
  | refine Br.x_seq ?_ | refine Br.x_set ?_ | refine Br.x_asg ?_ | refine Br.x_next ?_ | refine Br.x_ret ?_ | refine Br.x_retN ?_ | refine Br.x_drop ?_ | refine Br.x_if ?_ | refine Br.x_brk ?_ | refine Br.x_cont ?_
  | refine Br.x_c ?_ | refine Br.x_op ?_ | refine Br.x_un ?_ | refine Br.x_I0 ?_ | refine Br.x_U ?_ | refine Br.x_EqI ?_ | refine Br.x_NeI ?_ | refine Br.x_EqB ?_ | refine Br.x_iN ?_ | refine Br.x_int1 ?_ | refine Br.x_min2 ?_ | refine Br.x_max2 ?_ | refine Br.x_nN ?_ | refine Br.x_ifE ?_
  | refine Br.x_test (b := ()) ?_ | refine Br.x_tB ?_ | refine Br.x_bl ?_ | refine Br.x_and ?_ | refine Br.x_or ?_ | refine Br.x_not ?_ | refine Br.x_andV ?_ | refine Br.x_orV ?_ | refine Br.x_notV ?_ | refine Br.x_blP ?_
  | refine Br.x_nil ?_ | refine Br.x_cons ?_ | refine Br.x_call ?_ | refine Br.x_CB ?_ | refine Br.x_BM ?_ | refine Br.x_tup ?_ | refine Br.x_lst ?_ | refine Br.x_chain ?_ | refine Br.x_par ?_ | refine Br.x_gSub ?_ | refine Br.x_gName ?_ | refine Br.x_fld ?_ | refine Br.x_fldS ?_ | refine Br.x_match ?_ | refine Br.x_else ?_ | refine Br.x_noCase ?_))
local macro_rules | `(tactic| walk_at "xv") => `(tactic| ((with_reducible refine' Br.x_var ?hvar ?_); (case hvar => rfl)))
local macro_rules | `(tactic| walk_at "xd") => `(tactic| (dsimp only [List.set_cons_zero, List.set_cons_succ, List.cons_append, List.nil_append, List.append_nil]))
local macro_rules | `(tactic| walk_at "xi") => `(tactic| ((with_reducible refine Br.x_I ?hside ?_); (case hside => first | exact Br.mul_r (by decide) (by decide) | exact Br.mul_l (by decide) (by decide) | exact Br.mul_l (by omega) (by omega) | exact Br.mul_r (by omega) (by omega) | (show (0 : Int) < _; first | decide | omega) | exact ⟨by decide, by decide⟩ | exact ⟨by omega, by omega⟩ | exact ⟨by decide, by decide, by decide⟩)))
local macro_rules | `(tactic| walk_at "x") => `(tactic| (repeat (first | walk_at "x1" | walk_at "xv" | walk_at "xi" | walk_at "xd")))
local macro_rules | `(tactic| walk_at "start") => `(tactic| (simp only [L2.start, List.map_cons, List.map_nil, List.length_cons, List.length_nil, Nat.reduceAdd, Nat.reduceSub, List.replicate, List.cons_append, List.nil_append, List.append_nil]))
local macro_rules | `(tactic| walk_at "isi") => `(tactic| first
  | refine Br.x_isi (b := true) (.base (.int _)) (by decide +kernel) ?_ | refine Br.x_isi (b := false) (.base (.int _)) (by decide +kernel) ?_
  | refine Br.x_isi (b := true) (.base (.bl _)) (by decide +kernel) ?_ | refine Br.x_isi (b := false) (.base (.bl _)) (by decide +kernel) ?_
  | refine Br.x_isi (b := false) (.base .non) (by decide +kernel) ?_
  | refine Br.x_isi (b := true) (.base (.str _)) (by decide +kernel) ?_ | refine Br.x_isi (b := false) (.base (.str _)) (by decide +kernel) ?_
  | refine Br.x_isi (b := true) (.base (.tup (by assumption))) (by decide +kernel) ?_ | refine Br.x_isi (b := false) (.base (.tup (by assumption))) (by decide +kernel) ?_
  | refine Br.x_isi (b := true) (.base (.lst (by assumption))) (by decide +kernel) ?_ | refine Br.x_isi (b := false) (.base (.lst (by assumption))) (by decide +kernel) ?_)
local macro_rules | `(tactic| walk_at "f") => `(tactic| (refine L2.iteF ?_; walk_at "x"))
local macro_rules | `(tactic| walk_at "t") => `(tactic| (refine L2.iteT ?_; walk_at "x"))
local macro_rules | `(tactic| walk_at "is") => `(tactic| (walk_at "isi"; walk_at "x"))
local macro_rules | `(tactic| walk_at "xb") => `(tactic| (simp only [Br.bindS, List.set_cons_zero, List.set_cons_succ]; walk_at "x"))

section
variable {P : Program} {w : World} {K : PySem.W.Frag} {mg : Str → Option Value} {base : Heap}

open Br.F

def sp_inverse_step (K : PySem.W.Frag) : Sp := fun vs H Q _ => ∃ (a : Addr) (s : Stp) (m c i : Nat), vs = [.ref a, .int (m : Int)] ∧ StpAt H a s ∧ StpOk m c i s ∧ 2 ≤ m ∧ m ≤ 1000000000 ∧
  ∀ (b : Addr) (s' : Stp) (H' : Hp), IsBack m s s' → Same H H' → StpAt H' b s' → Q (.ref b) H'
theorem ok_inverse_step (T : Txt K mg) : FnOk P w K mg base CX0 2 T.a_inverse_step T.fd_inverse_step ["step", "modulus"] (sp_inverse_step K) := by
  refine T.F_inverse_step.ok sc_inverse_step (fun vs H Q E h => ?_) (fun cdv A outer s H vs Q E hr h => ?_)
  · obtain ⟨a, s, m, c, i, rfl, _⟩ := h
    rfl
  · obtain ⟨a, s, m, c, i, rfl, hs, ok, m2, m9, q⟩ := h
    refine ⟨_, (pss_one (ps_match (pv 0) (pcs_seq rfl op_eq (pcap_name 2 sc_inverse_step.nd rfl (.inl rfl) (pcap_name 3 sc_inverse_step.nd rfl (.inl rfl) (pcap_name 4 sc_inverse_step.nd rfl (.inl rfl) pcap_nil)))
      (pss_one (ps_ret (pe_tup (pa_cons pe_str (pa_cons (pv 2) (pa_cons (pe_op op_mod (pe_op op_sub (pv 1) (pv 3)) (pv 1)) (pa_cons (pv 4) pa_nil)))))))
      (pcs_seq rfl op_eq (pcap_name 2 sc_inverse_step.nd rfl (.inl rfl) (pcap_name 5 sc_inverse_step.nd rfl (.inl rfl) pcap_nil))
      (pss_one (ps_ret (pe_tup (pa_cons pe_str (pa_cons (pv 2) (pa_cons (pe_call (ok_inverse_of T) hr (by rfl) T.g_inverse_of T.F_inverse_of.kp T.b_inverse_of .nil pass0 (pa_cons (pv 5) (pa_cons (pv 1) pa_nil))) pa_nil))))))
      (pcs_seq rfl op_eq (pcap_wild (pcap_wild pcap_nil))
      (pss_one (ps_ret (pv 0)))
      (pcs_seq rfl op_eq (pcap_name 2 sc_inverse_step.nd rfl (.inl rfl) (pcap_name 6 sc_inverse_step.nd rfl (.inl rfl) (pcap_name 7 sc_inverse_step.nd rfl (.inl rfl) (pcap_name 8 sc_inverse_step.nd rfl (.inl rfl) (pcap_name 9 sc_inverse_step.nd rfl (.inl rfl) pcap_nil)))))
      (pss_one (ps_ret (pe_tup (pa_cons pe_str (pa_cons (pv 2) (pa_cons (pe_op op_sub (pv 1) (pv 6)) (pa_cons (pv 7) (pa_cons (pv 8) (pa_cons (pv 9) pa_nil)))))))))
      pcs_nil)))))), ?_⟩
    walk_at "start"
    cases s with
    | add t k fs =>
      obtain ⟨f, as, h1, h2, h3, h4⟩ := hs
      walk_at "x"
      refine x_caseY (st_of h1) rfl ?_
      walk_at "xb"
      refine ⟨by show 4 ≤ sizeLine; decide, fun p hp => ?_⟩
      exact q p (.add t (((m : Int) - k) % m) fs) _ rfl (same_upd hp) ⟨f, as, upd_same, same_upd hp _ _ h2, h3, fun i x b e1 e2 => (h4 i x b e1 e2).tups (Tups.same (same_upd hp))⟩
    | scale t u =>
      have h1 : H a = some (.tup [.str "scale", .int (t : Int), .int u]) := hs
      obtain ⟨o1, o2, o3, o4⟩ := ok
      walk_at "x"
      refine x_caseNo (st_of h1) (Nat.ne_of_beq_eq_false rfl) ?_
      refine x_caseY (st_of h1) rfl ?_
      walk_at "xb"
      refine ⟨u, (m : Int), rfl, by omega, by omega, fun v H1 hv s1 => ?_⟩
      obtain ⟨w, rfl, w0, w1, hw⟩ := hv.2 o4
      walk_at "x"
      refine ⟨by show 3 ≤ sizeLine; decide, fun p hp => ?_⟩
      exact q p (.scale t w) _ ⟨w, rfl, w0, w1, hw⟩ (s1.trans (same_upd hp)) upd_same
    | swap x y =>
      have h1 : H a = some (.tup [.str "swap", .int (x : Int), .int (y : Int)]) := hs
      walk_at "x"
      refine x_caseNo (st_of h1) (Nat.ne_of_beq_eq_false rfl) ?_
      refine x_caseW (st_of h1) rfl (by decide) ?_
      refine x_caseY (st_of h1) rfl ?_
      walk_at "xb"
      exact q a (.swap x y) _ rfl (Same.refl _) h1
    | tab t g tb x y =>
      obtain ⟨o, h1, hT⟩ := hs
      walk_at "x"
      refine x_caseNo (st_of h1) (Nat.ne_of_beq_eq_false rfl) ?_
      refine x_caseNo (st_of h1) (Nat.ne_of_beq_eq_false rfl) ?_
      refine x_caseNo (st_of h1) (Nat.ne_of_beq_eq_false rfl) ?_
      refine x_caseY (st_of h1) rfl ?_
      walk_at "xb"
      refine ⟨by show 6 ≤ sizeLine; decide, fun p hp => ?_⟩
      exact q p (.tab t ((m : Int) - g) tb x y) _ rfl (same_upd hp) ⟨o, upd_same, hT.tups (Tups.same (same_upd hp))⟩

section
variable {σ : L2.St} {H : Hp} {Q : VK} {R : Option Int → Hp → Prop}
theorem x_make1 {C : Addr} {sp : Sp} {dvs : List V} {E : XK} {t : TA} (h : t σ H fun vs H1 => ∀ x dx, H1 x = none → H1 dx = none → dx ≠ x → sp (.ref x :: (vs ++ dvs)) (upd (upd H1 dx (.own x)) x (.ins C dx [])) (fun v H2 => v = .non ∧ Q (.ref x) H2) E) : tMake C sp dvs E t σ H Q := h
theorem x_meth1 {C : Addr} {m : Str} {sp : Sp} {dvs : List V} {E : XK} {ta : TE} {t : TA} (h : ta σ H fun x H1 => ∃ a dx fs, x = .ref a ∧ H1 a = some (.ins C dx fs) ∧ fs.lookup m = none ∧ t σ H1 fun vs H2 => sp (x :: (vs ++ dvs)) H2 Q E) : tMeth C m sp dvs E ta t σ H Q := h
theorem x_lcPreL {te : TE} {ta : TE} {j : Nat} {vs : List Nat} (h : ta σ H fun v H1 => tLc (iList K (tC v)) (gName j) tYes te vs σ H1 Q) : tLc (iList K ta) (gName j) tYes te vs σ H Q := h
theorem x_revL {te : TE} (h : te σ H fun x H1 => ∃ a xs, x = .ref a ∧ SqL K H1 a xs ∧ ∀ p, H1 p = none → Q (.ref p) (upd H1 p (.lst xs.reverse))) : tRevL K te σ H Q := h
theorem x_sl {r : V → Option Int → Option Int → Hp → VK → Prop} {te : TE} {tl th : TO} (h : te σ H fun x H1 => tl σ H1 fun l H2 => th σ H2 fun u H3 => r x l u H3 Q) : tSl r te tl th σ H Q := h
theorem x_noPart (h : R none H) : tNoPart σ H R := h
theorem cut_take {xs : List V} {n : Nat} : cutV xs none (some (n : Int)) = xs.take n := by
  unfold cutV
  rw [HT.sIx_nat]
  show (xs.drop 0).take (min n xs.length - 0) = xs.take n
  rw [List.drop_zero, Nat.sub_zero]
  by_cases h : n ≤ xs.length
  · rw [Nat.min_eq_left h]
  · rw [Nat.min_eq_right (by omega), List.take_length, List.take_of_length_le (by omega)]
end
theorem new_prog {C : Addr} {H1 : Hp} {L0 : Addr} {as : List Addr} {ss : List Stp} {m c i : Nat} {Q : VK} {E : XK} (hC : PC K C) (hl : H1 L0 = some (.lst (as.map V.ref))) (hst : StpsAt H1 as ss) (ok : PrOk ss m c i)
    (q : ∀ p L' H', H1 L' = none → Same H1 H' → PrAt K C H' p L' as ss m c i → Q (.ref p) H') : ∀ x dx, H1 x = none → H1 dx = none → dx ≠ x → sp_Program___init K [.ref x, .int (m : Int), .int (c : Int), .int (i : Int), .ref L0] (upd (upd H1 dx (.own x)) x (.ins C dx [])) (fun v H2 => v = .non ∧ Q (.ref x) H2) E := by
  intro x dx hx hdx hne
  have s1 : ∀ b o, H1 b = some o → (upd (upd H1 dx (.own x)) x (.ins C dx [])) b = some o := fun b o e => by
    rw [upd_ne (ne_of_none e hx), upd_ne (ne_of_none e hdx)]
    exact e
  refine ⟨x, C, dx, L0, as, ss, m, c, i, rfl, upd_same, hC, s1 _ _ hl, hst.tups (fun b xs e => s1 _ _ e), ok, fun L' H' hL' keep hP => ⟨rfl, ?_⟩⟩
  have s2 : Same H1 H' := fun b o e => keep b o (s1 _ _ e) (ne_of_none e hx)
  refine q x L' H' ?_ s2 hP
  cases e : H1 L' with
  | none => rfl
  | some o =>
    rw [s1 _ _ e] at hL'
    cases hL'


def sp_Program___neg (C : Addr) (K : PySem.W.Frag) : Sp := fun vs H Q _ => ∃ (p L : Addr) (as : List Addr) (ss : List Stp) (m c i : Nat), vs = [.ref p] ∧ PrAt K C H p L as ss m c i ∧ PrOk ss m c i ∧
  ∀ (p' L' : Addr) (bs : List Addr) (ss' : List Stp) (H' : Hp), Same H H' → PrAt K C H' p' L' bs ss' m c i → BackOf m ss ss' → PrOk ss' m c i → Q (.ref p') H'
theorem ok_Program___neg (T : Txt K mg) : FnOk P w K mg base CX0 8 T.a_Program___neg T.fd_Program___neg ["self"] (sp_Program___neg T.C_Program K) := by
  refine T.F_Program___neg.ok sc_Program___neg (fun vs H Q E h => ?_) (fun cdv A outer s H vs Q E hr h => ?_)
  · obtain ⟨p, L, as, ss, m, c, i, rfl, _⟩ := h
    rfl
  · obtain ⟨p, L, as, ss, m, c, i, rfl, hP, ok, q⟩ := h
    obtain ⟨dx, hp, hC⟩ := id hP.ob
    have hal := hP.st.1
    have n9 := ok.len
    refine ⟨_, (pss_cons (ps_setLc (i := 1) (own := [("step", 2)]) (g := gName 2) (tt := tYes) rfl sc_Program___neg.nd rfl rfl (sw_true rfl rfl rfl (by decide +kernel)) (pi_list (pe_revL (pe_fld (pv 0) rfl))) (blkOk_by (N := N_Program___neg) (sc := defScope s_Program___neg) (by decide +kernel)) (fun _ _ _ _ _ => (pg_name (i := 2) sc_Program___neg.nd rfl (Or.inl rfl))) (fun _ _ _ _ _ => pts_nil) (fun _ _ _ _ _ => (pe_call (ok_inverse_step T) (hr.mono (by decide)) (by rfl) T.g_inverse_step T.F_inverse_step.kp T.b_inverse_step .nil pass0 (pa_cons (pv 2) (pa_cons (pe_fldK (K2 := K) rfl (pv 0) (by rfl)) pa_nil)))))
      (pss_one (ps_ret (pe_make T.mk_Program (ok_Program___init T) (hr.mono (by decide)) (by rfl) T.gc_Program T.b_Program___init .nil pass0 (pa_cons (pe_fld (pv 0) rfl) (pa_cons (pe_fld (pv 0) rfl) (pa_cons (pe_fld (pv 0) rfl) (pa_cons (pv 1) pa_nil)))))))), ?_⟩
    walk_at "start"
    walk_at "x"
    refine x_lcPreL ?_
    refine x_revL ?_
    walk_at "x"
    refine x_fldR hp hC.cl hC.s progF_s ?_
    refine ⟨L, _, rfl, sq_of hP.lst, fun r hr0 => ?_⟩
    have s1 := same_upd (o := .lst (as.map V.ref).reverse) hr0
    have hr1 : (upd H r (.lst (as.map V.ref).reverse)) r = some (.lst (as.map V.ref).reverse) := upd_same
    generalize upd H r (.lst (as.map V.ref).reverse) = H1 at s1 hr1
    have hrl : (as.map V.ref).reverse.length = ss.length := by rw [List.length_reverse, List.length_map, hal]
    refine x_lcL (a := r) (as.map V.ref).reverse (fun o k H' => Same H1 H' ∧ ∃ (bs : List Addr) (ss' : List Stp), H' o = some (.lst (bs.map V.ref)) ∧ StpsAt H' bs ss' ∧ BackOf m (ss.drop (ss.length - k)) ss') (fun R q => q) (sq_of hr1)
      (fun o ho => ⟨same_upd ho, [], [], upd_same, ⟨rfl, fun i x b h _ => by simp at h⟩, by rw [Nat.sub_zero, List.drop_length]; exact .nil⟩) (fun o k H' _ _ z => sq_of (z.1 _ _ hr1)) (fun x => rfl) ?_ ?_
    · rintro o k x H2 ho hx ⟨s2, bs, ss', hO, hst, hB⟩
      have hk : k < ss.length := by
        have := (List.getElem?_eq_some_iff.mp hx).1
        omega
      rw [List.getElem?_reverse (by rw [List.length_map]; omega), List.length_map] at hx
      obtain ⟨b, hb, rfl⟩ := map_getR hx
      obtain ⟨s, hs1, hs2⟩ := hP.st.get hb
      have s12 := s1.trans s2
      walk_at "x"
      refine x_fldR (s12 _ _ hp) hC.cl hC.m progF_m ?_
      walk_at "x"
      refine ⟨b, s, m, c, i, rfl, hs2.tups (Tups.same s12), ok.ok s (List.mem_of_getElem? hs1), ok.m2, ok.m9, fun b' s' H3 hb' s3 hs' => ?_⟩
      have hO3 := s3 _ _ hO
      have hl : bs.length = k := by
        rw [hst.1, hB.len, List.length_drop]
        omega
      have hT : Tups H2 (upd H3 o (.lst (bs.map V.ref ++ [V.ref b']))) := (Tups.same s3).put (no_tupL hO3)
      have hT2 : Tups H3 (upd H3 o (.lst (bs.map V.ref ++ [V.ref b']))) := (Tups.refl H3).put (no_tupL hO3)
      refine ⟨_, hO3, lt_line (by rw [List.length_map]; omega), Same.put (s2.trans s3) ho, bs ++ [b'], ss' ++ [s'], by rw [upd_same, List.map_append]; rfl, (hst.tups hT).snoc (hs'.tups hT2), ?_⟩
      have ed : ss.drop (ss.length - (k + 1)) = s :: ss.drop (ss.length - k) := by
        have hlt : ss.length - (k + 1) < ss.length := by omega
        rw [List.drop_eq_getElem_cons hlt]
        have e1 : ss.length - (k + 1) + 1 = ss.length - k := by omega
        have e2 : as.length - 1 - k = ss.length - (k + 1) := by omega
        rw [e2, List.getElem?_eq_getElem hlt] at hs1
        rw [e1, Option.some.inj hs1]
      rw [ed]
      exact .cons hb' hB
    · rintro o H2 ho ⟨s2, bs, ss', hO, hst, hB⟩
      rw [hrl, Nat.sub_self, List.drop_zero] at hB
      have s12 := s1.trans s2
      have hp2 := s12 _ _ hp
      walk_at "x"
      refine x_make1 ?_
      walk_at "x"
      refine x_fldR hp2 hC.cl hC.m progF_m ?_
      walk_at "x"
      refine x_fldR hp2 hC.cl hC.c progF_c ?_
      walk_at "x"
      refine x_fldR hp2 hC.cl hC.i progF_i ?_
      walk_at "x"
      have ok' : PrOk ss' m c i := ⟨ok.m2, ok.m9, ok.c1, ok.c60, ok.i60, by rw [hB.len]; exact n9, hB.oks ok.m2 ok.ok⟩
      exact new_prog hC hO hst ok' fun p' L' H' _ s3 hP' => q p' L' bs ss' H' (s12.trans s3) hP' hB ok'




end
end Br
namespace Br
open PySem PySem.Spec PyProof.Rows L2
local macro_rules | `(tactic| walk_at "x1") => `(tactic| (with_reducible first
  | refine Br.x_seq ?_ | refine Br.x_set ?_ | refine Br.x_asg ?_ | refine Br.x_next ?_ | refine Br.x_ret ?_ | refine Br.x_retN ?_ | refine Br.x_drop ?_ | refine Br.x_if ?_ | refine Br.x_brk ?_ | refine Br.x_cont ?_
  | refine Br.x_c ?_ | refine Br.x_op ?_ | refine Br.x_un ?_ | refine Br.x_I0 ?_ | refine Br.x_U ?_ | refine Br.x_EqI ?_ | refine Br.x_NeI ?_ | refine Br.x_EqB ?_ | refine Br.x_iN ?_ | refine Br.x_int1 ?_ | refine Br.x_min2 ?_ | refine Br.x_max2 ?_ | refine Br.x_nN ?_ | refine Br.x_ifE ?_
  | refine Br.x_test (b := ()) ?_ | refine Br.x_tB ?_ | refine Br.x_bl ?_ | refine Br.x_and ?_ | refine Br.x_or ?_ | refine Br.x_not ?_ | refine Br.x_andV ?_ | refine Br.x_orV ?_ | refine Br.x_notV ?_ | refine Br.x_blP ?_
  | refine Br.x_nil ?_ | refine Br.x_cons ?_ | refine Br.x_call ?_ | refine Br.x_CB ?_ | refine Br.x_BM ?_ | refine Br.x_tup ?_ | refine Br.x_lst ?_ | refine Br.x_chain ?_ | refine Br.x_par ?_ | refine Br.x_gSub ?_ | refine Br.x_gName ?_ | refine Br.x_fld ?_ | refine Br.x_fldS ?_ | refine Br.x_match ?_ | refine Br.x_else ?_ | refine Br.x_noCase ?_))
local macro_rules | `(tactic| walk_at "xv") => `(tactic| ((with_reducible refine' Br.x_var ?hvar ?_); (case hvar => rfl)))
local macro_rules | `(tactic| walk_at "xd") => `(tactic| (dsimp only [List.set_cons_zero, List.set_cons_succ, List.cons_append, List.nil_append, List.append_nil]))
local macro_rules | `(tactic| walk_at "xi") => `(tactic| ((with_reducible refine Br.x_I ?hside ?_); (case hside => first | exact Br.mul_r (by decide) (by decide) | exact Br.mul_l (by decide) (by decide) | exact Br.mul_l (by omega) (by omega) | exact Br.mul_r (by omega) (by omega) | (show (0 : Int) < _; first | decide | omega) | exact ⟨by decide, by decide⟩ | exact ⟨by omega, by omega⟩ | exact ⟨by decide, by decide, by decide⟩)))
local macro_rules | `(tactic| walk_at "x") => `(tactic| (repeat (first | walk_at "x1" | walk_at "xv" | walk_at "xi" | walk_at "xd")))
local macro_rules | `(tactic| walk_at "start") => `(tactic| (simp only [L2.start, List.map_cons, List.map_nil, List.length_cons, List.length_nil, Nat.reduceAdd, Nat.reduceSub, List.replicate, List.cons_append, List.nil_append, List.append_nil]))
local macro_rules | `(tactic| walk_at "isi") => `(tactic| first
  | refine Br.x_isi (b := true) (.base (.int _)) (by decide +kernel) ?_ | refine Br.x_isi (b := false) (.base (.int _)) (by decide +kernel) ?_
  | refine Br.x_isi (b := true) (.base (.bl _)) (by decide +kernel) ?_ | refine Br.x_isi (b := false) (.base (.bl _)) (by decide +kernel) ?_
  | refine Br.x_isi (b := false) (.base .non) (by decide +kernel) ?_
  | refine Br.x_isi (b := true) (.base (.str _)) (by decide +kernel) ?_ | refine Br.x_isi (b := false) (.base (.str _)) (by decide +kernel) ?_
  | refine Br.x_isi (b := true) (.base (.tup (by assumption))) (by decide +kernel) ?_ | refine Br.x_isi (b := false) (.base (.tup (by assumption))) (by decide +kernel) ?_
  | refine Br.x_isi (b := true) (.base (.lst (by assumption))) (by decide +kernel) ?_ | refine Br.x_isi (b := false) (.base (.lst (by assumption))) (by decide +kernel) ?_)
local macro_rules | `(tactic| walk_at "f") => `(tactic| (refine L2.iteF ?_; walk_at "x"))
local macro_rules | `(tactic| walk_at "t") => `(tactic| (refine L2.iteT ?_; walk_at "x"))
local macro_rules | `(tactic| walk_at "is") => `(tactic| (walk_at "isi"; walk_at "x"))
local macro_rules | `(tactic| walk_at "xb") => `(tactic| (simp only [Br.bindS, List.set_cons_zero, List.set_cons_succ]; walk_at "x"))

section
variable {P : Program} {w : World} {K : PySem.W.Frag} {mg : Str → Option Value} {base : Heap}


def sp_law_equal (n : Nat) (K : PySem.W.Frag) : Sp := fun vs H Q _ => ∃ v u, vs = [v, u] ∧ Eqv K H n v u ∧ Q (.bl true) H
def sp_law_all_equal (n : Nat) (K : PySem.W.Frag) : Sp := fun vs H Q _ => ∃ (a b : Addr) (xs ys : List V), vs = [.ref a, .ref b] ∧ ((H a = some (.lst xs) ∧ H b = some (.lst ys)) ∨ (H a = some (.tup xs) ∧ H b = some (.tup ys))) ∧ xs.length = ys.length ∧ ys.length ≤ 100000 ∧ (∀ (i : Nat) x y, xs[i]? = some x → ys[i]? = some y → Eqv K H n x y) ∧ Q (.bl true) H
theorem x_ixQ {K : PySem.W.Frag} {H : Hp} {a b : Addr} {xs ys : List V} {i : Int} {v : V} {Q : VK} (h : (H a = some (.lst xs) ∧ H b = some (.lst ys)) ∨ (H a = some (.tup xs) ∧ H b = some (.tup ys))) (hi : atI xs i = some v) (q : Q v H) : rIx K (.ref a) (.int i) H Q := by
  rcases h with h | h
  · exact .inl (x_ixL (sq_of h.1) hi q)
  · exact .inr (.inl (x_ixT (st_of h.1) hi q))
theorem x_ixQ2 {K : PySem.W.Frag} {H : Hp} {a b : Addr} {xs ys : List V} {i : Int} {v : V} {Q : VK} (h : (H a = some (.lst xs) ∧ H b = some (.lst ys)) ∨ (H a = some (.tup xs) ∧ H b = some (.tup ys))) (hi : atI ys i = some v) (q : Q v H) : rIx K (.ref b) (.int i) H Q := by
  rcases h with h | h
  · exact .inl (x_ixL (sq_of h.2) hi q)
  · exact .inr (.inl (x_ixT (st_of h.2) hi q))
theorem all_equal_of (T : Txt K mg) (n : Nat) (G_law_equal : FnOk P w K mg base CX0 (2 * n + 1) T.a_law_equal T.fd_law_equal ["actual", "due"] (sp_law_equal n K)) : FnOk P w K mg base CX0 (2 * n + 2) T.a_law_all_equal T.fd_law_all_equal ["actual", "due"] (sp_law_all_equal n K) := by
  refine T.F_law_all_equal.ok sc_law_all_equal (fun vs H Q E h => ?_) (fun cdv A outer s H vs Q E hr h => ?_)
  · obtain ⟨a, b, xs, ys, rfl, _⟩ := h
    rfl
  · obtain ⟨a, b, xs, ys, rfl, hab, hl, hz, he, q⟩ := h
    refine ⟨_, (pss_cons (ps_for PassesOwn.never rfl (pi_range1 (by rfl) T.m_range (pa_cons (pe_callB (id := "len") (r := rLen K) cr_len (by rfl) T.m_len PySem.boot_len (pa_cons (pv 1) pa_nil)) pa_nil)) (pg_name (i := 2) sc_law_all_equal.nd rfl (Or.inl rfl))
      (pss_one (ps_if (pt_not (pt_val (pe_call G_law_equal (hr.mono (by omega)) (by rfl) T.g_law_equal T.F_law_equal.kp T.b_law_equal .nil pass0 (pa_cons (pe_ix (r := rIx K) ix_seq (pv 0) (pv 2) (fun _ _ => rfl)) (pa_cons (pe_ix (r := rIx K) ix_seq (pv 1) (pv 2) (fun _ _ => rfl)) pa_nil)))))
      (pss_one (ps_ret pe_bl))
      pss_nil)))
      (pss_one (ps_ret pe_bl))), ?_⟩
    walk_at "start"
    refine x_forR1 (ys.length : Int) (fun i σ' H' => H = H' ∧ ∃ v2, σ' = [some (.ref a), some (.ref b), v2]) (fun R r => by
      walk_at "x"
      rcases hab with h | h
      · refine x_len (sq_of h.2) ?_
        exact r
      · refine x_lenT (st_of h.2) ?_
        exact r) (by omega) (by omega) ⟨rfl, _, rfl⟩ ?_ ?_
    · rintro i σ' H' hi ⟨rfl, v2, rfl⟩
      obtain ⟨x, gx⟩ : ∃ x, xs[i]? = some x := ⟨_, List.getElem?_eq_getElem (by omega)⟩
      obtain ⟨y, gy⟩ : ∃ y, ys[i]? = some y := ⟨_, List.getElem?_eq_getElem (by omega)⟩
      walk_at "x"
      refine x_ixQ hab (atI_nat gx) ?_
      walk_at "x"
      refine x_ixQ2 hab (atI_nat gy) ?_
      walk_at "x"
      refine ⟨x, y, rfl, he i x y gx gy, ?_⟩
      walk_at "x"
      walk_at "f"
      exact ⟨rfl, _, rfl⟩
    · rintro σ' H' ⟨rfl, v2, rfl⟩
      walk_at "x"
      exact q
theorem ok_law_equal (T : Txt K mg) : ∀ n : Nat, FnOk P w K mg base CX0 (2 * n + 1) T.a_law_equal T.fd_law_equal ["actual", "due"] (sp_law_equal n K)
  | 0 => by
    refine T.F_law_equal.ok sc_law_equal (fun vs H Q E h => ?_) (fun cdv A outer s H vs Q E hr h => ?_)
    · obtain ⟨v, u, rfl, h, _⟩ := h
      exact h.elim
    · obtain ⟨v, u, rfl, h, _⟩ := h
      exact h.elim
  | n + 1 => by
    have G_law_all_equal := all_equal_of T n (ok_law_equal T n)
    refine T.F_law_equal.ok (k := 2 * n + 2) sc_law_equal (fun vs H Q E h => ?_) (fun cdv A outer s H vs Q E hr h => ?_)
    · obtain ⟨v, u, rfl, _⟩ := h
      rfl
    · obtain ⟨v, u, rfl, h, q⟩ := h
      refine ⟨_, (pss_cons (ps_if (pt_val (pe_callB (id := "isinstance") (r := rIsi K) call_isi (by rfl) T.m_isinstance (by decide +kernel) (pa_cons (pv 1) (pa_cons (pe_bltn (v := .ty "list") (by rfl) T.m_list (by decide +kernel) rfl) pa_nil))))
      (pss_cons (ps_if (PW.pt (pw_or (pt_not (pt_val (pe_callB (id := "isinstance") (r := rIsi K) call_isi (by rfl) T.m_isinstance (by decide +kernel) (pa_cons (pv 0) (pa_cons (pe_bltn (v := .ty "list") (by rfl) T.m_list (by decide +kernel) rfl) pa_nil))))) (pw_or1 (pt_cmpR op_ne (pe_callB (id := "len") (r := rLen K) cr_len (by rfl) T.m_len PySem.boot_len (pa_cons (pv 0) pa_nil)) (pe_callB (id := "len") (r := rLen K) cr_len (by rfl) T.m_len PySem.boot_len (pa_cons (pv 1) pa_nil)) (nomark _)))))
      (pss_one (ps_ret pe_bl))
      pss_nil)
      (pss_one (ps_ret (pe_call G_law_all_equal (hr.mono (by omega)) (by rfl) T.g_law_all_equal T.F_law_all_equal.kp T.b_law_all_equal .nil pass0 (pa_cons (pv 0) (pa_cons (pv 1) pa_nil))))))
      pss_nil)
      (pss_cons (ps_if (pt_val (pe_callB (id := "isinstance") (r := rIsi K) call_isi (by rfl) T.m_isinstance (by decide +kernel) (pa_cons (pv 1) (pa_cons (pe_bltn (v := .ty "tuple") (by rfl) T.m_tuple (by decide +kernel) rfl) pa_nil))))
      (pss_cons (ps_if (PW.pt (pw_or (pt_not (pt_val (pe_callB (id := "isinstance") (r := rIsi K) call_isi (by rfl) T.m_isinstance (by decide +kernel) (pa_cons (pv 0) (pa_cons (pe_bltn (v := .ty "tuple") (by rfl) T.m_tuple (by decide +kernel) rfl) pa_nil))))) (pw_or1 (pt_cmpR op_ne (pe_callB (id := "len") (r := rLen K) cr_len (by rfl) T.m_len PySem.boot_len (pa_cons (pv 0) pa_nil)) (pe_callB (id := "len") (r := rLen K) cr_len (by rfl) T.m_len PySem.boot_len (pa_cons (pv 1) pa_nil)) (nomark _)))))
      (pss_one (ps_ret pe_bl))
      pss_nil)
      (pss_one (ps_ret (pe_call G_law_all_equal (hr.mono (by omega)) (by rfl) T.g_law_all_equal T.F_law_all_equal.kp T.b_law_all_equal .nil pass0 (pa_cons (pv 0) (pa_cons (pv 1) pa_nil))))))
      pss_nil)
      (pss_cons (ps_if (pt_val (pe_callB (id := "isinstance") (r := rIsi K) call_isi (by rfl) T.m_isinstance (by decide +kernel) (pa_cons (pv 1) (pa_cons (pe_bltn (v := .ty "bool") (by rfl) T.m_bool (by decide +kernel) rfl) pa_nil))))
      (pss_one (ps_ret (pe_and (pe_callB (id := "isinstance") (r := rIsi K) call_isi (by rfl) T.m_isinstance (by decide +kernel) (pa_cons (pv 0) (pa_cons (pe_bltn (v := .ty "bool") (by rfl) T.m_bool (by decide +kernel) rfl) pa_nil))) (pe_one (pe_cmpR op_eq (pv 0) (pv 1) (nomark _))))))
      pss_nil)
      (pss_cons (ps_if (pt_val (pe_callB (id := "isinstance") (r := rIsi K) call_isi (by rfl) T.m_isinstance (by decide +kernel) (pa_cons (pv 1) (pa_cons (pe_bltn (v := .ty "int") (by rfl) T.m_int (by decide +kernel) rfl) pa_nil))))
      (pss_one (ps_ret (pe_and (pe_callB (id := "isinstance") (r := rIsi K) call_isi (by rfl) T.m_isinstance (by decide +kernel) (pa_cons (pv 0) (pa_cons (pe_bltn (v := .ty "int") (by rfl) T.m_int (by decide +kernel) rfl) pa_nil))) (pe_and (pe_not (pe_callB (id := "isinstance") (r := rIsi K) call_isi (by rfl) T.m_isinstance (by decide +kernel) (pa_cons (pv 0) (pa_cons (pe_bltn (v := .ty "bool") (by rfl) T.m_bool (by decide +kernel) rfl) pa_nil)))) (pe_one (pe_cmpR op_eq (pv 0) (pv 1) (nomark _)))))))
      pss_nil)
      (pss_cons (ps_if (pt_val (pe_callB (id := "isinstance") (r := rIsi K) call_isi (by rfl) T.m_isinstance (by decide +kernel) (pa_cons (pv 1) (pa_cons (pe_bltn (v := .ty "str") (by rfl) T.m_str (by decide +kernel) rfl) pa_nil))))
      (pss_one (ps_ret (pe_and (pe_callB (id := "isinstance") (r := rIsi K) call_isi (by rfl) T.m_isinstance (by decide +kernel) (pa_cons (pv 0) (pa_cons (pe_bltn (v := .ty "str") (by rfl) T.m_str (by decide +kernel) rfl) pa_nil))) (pe_one (pe_cmpR op_eq (pv 0) (pv 1) (nomark _))))))
      pss_nil)
      (pss_one (ps_ret (pe_cmpR op_isN1 (pv 0) pe_non (nomark _))))))))), ?_⟩
      walk_at "start"
      rcases h with ⟨i, rfl, rfl⟩ | ⟨z, rfl, rfl⟩ | ⟨z, rfl, rfl⟩ | ⟨rfl, rfl⟩ | ⟨a, b, xs, ys, rfl, rfl, hab, hl, hz, he⟩
      · walk_at "x"
        walk_at "is"
        walk_at "f"
        walk_at "is"
        walk_at "f"
        walk_at "is"
        walk_at "f"
        walk_at "is"
        walk_at "t"
        walk_at "is"
        walk_at "t"
        walk_at "is"
        walk_at "t"
        rw [decide_eq_true rfl]
        exact q
      · walk_at "x"
        walk_at "is"
        walk_at "f"
        walk_at "is"
        walk_at "f"
        walk_at "is"
        walk_at "f"
        walk_at "is"
        walk_at "f"
        walk_at "is"
        walk_at "t"
        walk_at "is"
        walk_at "t"
        refine x_Eq rfl ?_
        rw [decide_eq_true rfl]
        exact q
      · walk_at "x"
        walk_at "is"
        walk_at "f"
        walk_at "is"
        walk_at "f"
        walk_at "is"
        walk_at "t"
        walk_at "is"
        walk_at "t"
        rw [decide_eq_true rfl]
        exact q
      · walk_at "x"
        walk_at "is"
        walk_at "f"
        walk_at "is"
        walk_at "f"
        walk_at "is"
        walk_at "f"
        walk_at "is"
        walk_at "f"
        walk_at "is"
        walk_at "f"
        rw [decide_eq_true rfl]
        exact q
      · rcases id hab with ⟨h1, h2⟩ | ⟨h1, h2⟩
        · walk_at "x"
          walk_at "is"
          walk_at "t"
          walk_at "is"
          walk_at "f"
          refine x_len (sq_of h1) ?_
          walk_at "x"
          refine x_len (sq_of h2) ?_
          walk_at "x"
          rw [hl, decide_eq_true rfl]
          walk_at "f"
          exact ⟨a, b, xs, ys, rfl, hab, hl, hz, he, q⟩
        · walk_at "x"
          walk_at "is"
          walk_at "f"
          walk_at "is"
          walk_at "t"
          walk_at "is"
          walk_at "f"
          refine x_lenT (st_of h1) ?_
          walk_at "x"
          refine x_lenT (st_of h2) ?_
          walk_at "x"
          rw [hl, decide_eq_true rfl]
          walk_at "f"
          exact ⟨a, b, xs, ys, rfl, hab, hl, hz, he, q⟩


end
end Br
namespace Br
open PySem PySem.Spec PyProof.Rows L2
local macro_rules | `(tactic| walk_at "x1") => `(tactic| (with_reducible first
  | refine Br.x_seq ?_ | refine Br.x_set ?_ | refine Br.x_asg ?_ | refine Br.x_next ?_ | refine Br.x_ret ?_ | refine Br.x_retN ?_ | refine Br.x_drop ?_ | refine Br.x_if ?_ | refine Br.x_brk ?_ | refine Br.x_cont ?_
  | refine Br.x_c ?_ | refine Br.x_op ?_ | refine Br.x_un ?_ | refine Br.x_I0 ?_ | refine Br.x_U ?_ | refine Br.x_EqI ?_ | refine Br.x_NeI ?_ | refine Br.x_EqB ?_ | refine Br.x_iN ?_ | refine Br.x_int1 ?_ | refine Br.x_min2 ?_ | refine Br.x_max2 ?_ | refine Br.x_nN ?_ | refine Br.x_ifE ?_
  | refine Br.x_test (b := ()) ?_ | refine Br.x_tB ?_ | refine Br.x_bl ?_ | refine Br.x_and ?_ | refine Br.x_or ?_ | refine Br.x_not ?_ | refine Br.x_andV ?_ | refine Br.x_orV ?_ | refine Br.x_notV ?_ | refine Br.x_blP ?_
  | refine Br.x_nil ?_ | refine Br.x_cons ?_ | refine Br.x_call ?_ | refine Br.x_CB ?_ | refine Br.x_BM ?_ | refine Br.x_tup ?_ | refine Br.x_lst ?_ | refine Br.x_chain ?_ | refine Br.x_par ?_ | refine Br.x_gSub ?_ | refine Br.x_gName ?_ | refine Br.x_fld ?_ | refine Br.x_fldS ?_ | refine Br.x_match ?_ | refine Br.x_else ?_ | refine Br.x_noCase ?_))
local macro_rules | `(tactic| walk_at "xv") => `(tactic| ((with_reducible refine' Br.x_var ?hvar ?_); (case hvar => rfl)))
local macro_rules | `(tactic| walk_at "xd") => `(tactic| (dsimp only [List.set_cons_zero, List.set_cons_succ, List.cons_append, List.nil_append, List.append_nil]))
local macro_rules | `(tactic| walk_at "xi") => `(tactic| ((with_reducible refine Br.x_I ?hside ?_); (case hside => first | exact Br.mul_r (by decide) (by decide) | exact Br.mul_l (by decide) (by decide) | exact Br.mul_l (by omega) (by omega) | exact Br.mul_r (by omega) (by omega) | (show (0 : Int) < _; first | decide | omega) | exact ⟨by decide, by decide⟩ | exact ⟨by omega, by omega⟩ | exact ⟨by decide, by decide, by decide⟩)))
local macro_rules | `(tactic| walk_at "x") => `(tactic| (repeat (first | walk_at "x1" | walk_at "xv" | walk_at "xi" | walk_at "xd")))
local macro_rules | `(tactic| walk_at "start") => `(tactic| (simp only [L2.start, List.map_cons, List.map_nil, List.length_cons, List.length_nil, Nat.reduceAdd, Nat.reduceSub, List.replicate, List.cons_append, List.nil_append, List.append_nil]))
local macro_rules | `(tactic| walk_at "isi") => `(tactic| first
  | refine Br.x_isi (b := true) (.base (.int _)) (by decide +kernel) ?_ | refine Br.x_isi (b := false) (.base (.int _)) (by decide +kernel) ?_
  | refine Br.x_isi (b := true) (.base (.bl _)) (by decide +kernel) ?_ | refine Br.x_isi (b := false) (.base (.bl _)) (by decide +kernel) ?_
  | refine Br.x_isi (b := false) (.base .non) (by decide +kernel) ?_
  | refine Br.x_isi (b := true) (.base (.str _)) (by decide +kernel) ?_ | refine Br.x_isi (b := false) (.base (.str _)) (by decide +kernel) ?_
  | refine Br.x_isi (b := true) (.base (.tup (by assumption))) (by decide +kernel) ?_ | refine Br.x_isi (b := false) (.base (.tup (by assumption))) (by decide +kernel) ?_
  | refine Br.x_isi (b := true) (.base (.lst (by assumption))) (by decide +kernel) ?_ | refine Br.x_isi (b := false) (.base (.lst (by assumption))) (by decide +kernel) ?_)
local macro_rules | `(tactic| walk_at "f") => `(tactic| (refine L2.iteF ?_; walk_at "x"))
local macro_rules | `(tactic| walk_at "t") => `(tactic| (refine L2.iteT ?_; walk_at "x"))
local macro_rules | `(tactic| walk_at "is") => `(tactic| (walk_at "isi"; walk_at "x"))
local macro_rules | `(tactic| walk_at "xb") => `(tactic| (simp only [Br.bindS, List.set_cons_zero, List.set_cons_succ]; walk_at "x"))

section
variable {P : Program} {w : World} {K : PySem.W.Frag} {mg : Str → Option Value} {base : Heap}

open Br.F
abbrev RetH (d n : Addr) (P : V → Hp → Prop) (H : Hp) (Q : VK) : Prop := ∀ v H', P v H' → Dr H' d n → Keep d H H' → Q v H'
theorem keep_tups {d n : Addr} {H H' : Hp} (k : Keep d H H') (h : Dr H d n) : Tups H H' := by
  obtain ⟨_, _, h, _⟩ := h
  exact Tups.keep k h
theorem wrap_mod {x : Int} {c : Nat} (h0 : 0 ≤ x) (h1 : x < 2 * (c : Int)) : (x % (c : Int) = x ∧ x < c) ∨ (x % (c : Int) = x - c ∧ (c : Int) ≤ x) := by
  by_cases h : x < c
  · exact .inl ⟨Int.emod_eq_of_lt h0 h, h⟩
  · refine .inr ⟨?_, by omega⟩
    rw [← Int.sub_emod_right, Int.emod_eq_of_lt (by omega) (by omega)]
theorem wrap_ne {t c : Nat} {k : Int} (ht : t < c) (h0 : 0 ≤ k) (h1 : k < (c : Int) - 1) : ∃ j : Nat, ((t : Int) + 1 + k) % (c : Int) = (j : Int) ∧ j < c ∧ j ≠ t := by
  rcases wrap_mod (x := (t : Int) + 1 + k) (c := c) (by omega) (by omega) with ⟨e, h⟩ | ⟨e, h⟩
  · exact ⟨((t : Int) + 1 + k).toNat, by omega, by omega, by omega⟩
  · exact ⟨((t : Int) + 1 + k - c).toNat, by omega, by omega, by omega⟩
theorem wrap_two {t c : Nat} {o l : Int} (ht : t < c) (h0 : 1 ≤ o) (h1 : o < l) (h2 : l < c) : ∃ a b : Nat, ((t : Int) + o) % (c : Int) = (a : Int) ∧ ((t : Int) + l) % (c : Int) = (b : Int) ∧ a < c ∧ b < c ∧ t ≠ a ∧ t ≠ b ∧ a ≠ b := by
  rcases wrap_mod (x := (t : Int) + o) (c := c) (by omega) (by omega) with ⟨e, h⟩ | ⟨e, h⟩ <;> rcases wrap_mod (x := (t : Int) + l) (c := c) (by omega) (by omega) with ⟨e2, h2⟩ | ⟨e2, h2⟩
  · exact ⟨((t : Int) + o).toNat, ((t : Int) + l).toNat, by omega, by omega, by omega, by omega, by omega, by omega, by omega⟩
  · exact ⟨((t : Int) + o).toNat, ((t : Int) + l - c).toNat, by omega, by omega, by omega, by omega, by omega, by omega, by omega⟩
  · omega
  · exact ⟨((t : Int) + o - c).toNat, ((t : Int) + l - c).toNat, by omega, by omega, by omega, by omega, by omega, by omega, by omega⟩
theorem gcd_pred {m : Int} : Int.gcd (m - 1) m = 1 := by
  have h1 := Int.gcd_dvd_left (a := m - 1) (b := m)
  have h2 := Int.gcd_dvd_right (a := m - 1) (b := m)
  have h3 : ((Int.gcd (m - 1) m : Nat) : Int) ∣ ((1 : Nat) : Int) := by
    have := Int.dvd_sub h2 h1
    rw [show m - (m - 1) = ((1 : Nat) : Int) by omega] at this
    exact this
  exact Nat.dvd_one.mp (Int.ofNat_dvd.mp h3)

def sp_law_unit (K : PySem.W.Frag) : Sp := fun vs H Q _ => ∃ (d n : Addr) (m : Nat), vs = [.ref d, .int (m : Int)] ∧ 2 ≤ m ∧ m ≤ 1000000000 ∧ Dr H d n ∧ RetD d n (fun v => ∃ z : Int, v = .int z ∧ 0 ≤ z ∧ z < m ∧ Int.gcd z m = 1) H Q
theorem ok_law_unit (T : Txt K mg) : FnOk P w K mg base CX0 5 T.a_law_unit T.fd_law_unit ["draws", "modulus"] (sp_law_unit K) := by
  refine T.F_law_unit.ok sc_law_unit (fun vs H Q E h => ?_) (fun cdv A outer s H vs Q E hr h => ?_)
  · obtain ⟨d, n, m, rfl, _⟩ := h
    rfl
  · obtain ⟨d, n, m, rfl, m2, m9, hD, q⟩ := h
    refine ⟨_, (pss_cons (ps_for PassesOwn.never rfl (pi_range1 (by rfl) T.m_range (pa_cons pe_int pa_nil)) (pg_name (i := 2) sc_law_unit.nd rfl (Or.inl rfl))
      (pss_cons (ps_set (i := 3) sc_law_unit.nd rfl (.inl rfl) (pe_call (ok_law_number T) hr (by rfl) T.g_law_number T.F_law_number.kp T.b_law_number .nil pass0 (pa_cons (pv 0) (pa_cons (pv 1) pa_nil))))
      (pss_one (ps_if (pt_cmpR op_eq (pe_call (ok_law_gcd T) (hr.mono (by decide)) (by rfl) T.g_law_gcd T.F_law_gcd.kp T.b_law_gcd .nil pass0 (pa_cons (pv 3) (pa_cons (pv 1) pa_nil))) pe_int (nomark _))
      (pss_one (ps_ret (pv 3)))
      pss_nil))))
      (pss_one (ps_ret (pe_op op_sub (pv 1) pe_int)))), ?_⟩
    walk_at "start"
    walk_at "x"
    refine x_forR1 30 (fun i σ' H' => Dr H' d n ∧ Keep d H H' ∧ ∃ v2 v3, σ' = [some (.ref d), some (.int (m : Int)), v2, v3]) (fun R r => r) (by decide) (by decide) ⟨hD, Keep.refl _ _, _, _, rfl⟩ ?_ ?_
    · rintro i σ' H1 hi ⟨hD, hk, v2, v3, rfl⟩
      walk_at "x"
      refine ⟨d, n, _, rfl, by omega, hD, ?_⟩
      rintro _ H2 ⟨z, rfl, z0, z1⟩ hD2 hk2
      walk_at "x"
      refine ⟨z, m, rfl, z0, by omega, by omega, by omega, ?_⟩
      walk_at "x"
      refine x_ite (fun hc => ?_) (fun hc => ?_)
      · walk_at "x"
        exact q _ _ ⟨z, rfl, z0, z1, by omega⟩ hD2 (hk.trans hk2)
      · walk_at "x"
        exact ⟨hD2, hk.trans hk2, _, _, rfl⟩
    · rintro σ' H1 ⟨hD, hk, v2, v3, rfl⟩
      walk_at "x"
      exact q _ _ ⟨_, rfl, by omega, by omega, gcd_pred⟩ hD hk


theorem eightP {v : V} (h : v ∈ ([.int 2, .int 3, .int 5, .int 7, .int 11, .int 13, .int 101, .int 999999937] : List V)) : ∃ p : Nat, v = .int (p : Int) ∧ IsPrime p ∧ p ≤ 1000000000 := by
  have h' : v = .int 2 ∨ v = .int 3 ∨ v = .int 5 ∨ v = .int 7 ∨ v = .int 11 ∨ v = .int 13 ∨ v = .int 101 ∨ v = .int 999999937 := by simpa using h
  rcases h' with rfl | rfl | rfl | rfl | rfl | rfl | rfl | rfl
  · exact ⟨2, rfl, p2, by decide⟩
  · exact ⟨3, rfl, p3, by decide⟩
  · exact ⟨5, rfl, p5, by decide⟩
  · exact ⟨7, rfl, p7, by decide⟩
  · exact ⟨11, rfl, p11, by decide⟩
  · exact ⟨13, rfl, p13, by decide⟩
  · exact ⟨101, rfl, p101, by decide⟩
  · exact ⟨999999937, rfl, pBig, by decide⟩
def sp_law_prime (K : PySem.W.Frag) : Sp := fun vs H Q _ => ∃ (d n : Addr), vs = [.ref d] ∧ Dr H d n ∧ RetD d n (fun v => ∃ p : Nat, v = .int (p : Int) ∧ IsPrime p ∧ p ≤ 1000000000) H Q
theorem ok_law_prime (T : Txt K mg) : FnOk P w K mg base CX0 3 T.a_law_prime T.fd_law_prime ["draws"] (sp_law_prime K) := by
  refine T.F_law_prime.ok sc_law_prime (fun vs H Q E h => ?_) (fun cdv A outer s H vs Q E hr h => ?_)
  · obtain ⟨d, n, rfl, _⟩ := h
    rfl
  · obtain ⟨d, n, rfl, hD, q⟩ := h
    refine ⟨_, (pss_one (ps_ret (pe_ix (r := rIxL K) ix_list (pe_lst (pa_cons pe_int (pa_cons pe_int (pa_cons pe_int (pa_cons pe_int (pa_cons pe_int (pa_cons pe_int (pa_cons pe_int (pa_cons pe_int pa_nil))))))))) (pe_op op_mod (pe_call (ok_law_draw T) hr (by rfl) T.g_law_draw T.F_law_draw.kp T.b_law_draw .nil pass0 (pa_cons (pv 0) pa_nil)) pe_int) (fun _ _ => rfl)))), ?_⟩
    walk_at "start"
    walk_at "x"
    refine ⟨by show 8 ≤ sizeLine; decide, fun u hu => ?_⟩
    have hne := hD.new hu
    have hk := Same.keep (d := d) (same_upd (o := .lst [.int 2, .int 3, .int 5, .int 7, .int 11, .int 13, .int 101, .int 999999937]) hu)
    have hD := hD.upd0 (o := .lst [.int 2, .int 3, .int 5, .int 7, .int 11, .int 13, .int 101, .int 999999937]) hu
    walk_at "x"
    refine ⟨d, n, rfl, hD, ?_⟩
    rintro _ H3 ⟨z, rfl, hz0, hz1⟩ hD3 hk3
    walk_at "x"
    obtain ⟨v, hv, hm⟩ := at_lt (xs := [.int 2, .int 3, .int 5, .int 7, .int 11, .int 13, .int 101, .int 999999937]) (i := z % 8) (Int.emod_nonneg _ (by decide)) (Int.emod_lt_of_pos z (show (0 : Int) < 8 by decide))
    refine x_ixL (sq_of (hk3 _ _ upd_same hne)) hv ?_
    exact q _ _ (eightP hm) hD3 (hk.trans hk3)


def RowsJ (H0 : Hp) (p n : Nat) (d nn o : Addr) (i : Nat) (H : Hp) : Prop := Dr H d nn ∧ Keep d H0 H ∧ o ≠ d ∧ o ≠ nn ∧ ∃ (as : List Addr) (t : List (List Int)), H o = some (.lst (as.map V.ref)) ∧ as.length = i ∧ t.length = i ∧
  (∀ (k : Nat) r b, t[k]? = some r → as[k]? = some b → H b = some (.tup (r.map V.int))) ∧ ∀ (k : Nat) r, t[k]? = some r → r.length = n ∧ Rg 0 p r
def sp_law_table (K : PySem.W.Frag) : Sp := fun vs H Q _ => ∃ (d n : Addr) (p : Nat), vs = [.ref d, .int (p : Int)] ∧ 2 ≤ p ∧ Dr H d n ∧ RetH d n (fun v H' => ∃ (l : Addr) (t : List (List Int)), v = .ref l ∧ TbAt H' l t ∧ IsTab p t ∧ t.length ≤ 4) H Q
theorem ok_law_table (T : Txt K mg) : FnOk P w K mg base CX0 5 T.a_law_table T.fd_law_table ["draws", "prime"] (sp_law_table K) := by
  refine T.F_law_table.ok sc_law_table (fun vs H Q E h => ?_) (fun cdv A outer s H vs Q E hr h => ?_)
  · obtain ⟨d, n, p, rfl, _⟩ := h
    rfl
  · obtain ⟨d, nn, p, rfl, hp2, hD, q⟩ := h
    refine ⟨_, (pss_cons (ps_set (i := 2) sc_law_table.nd rfl (.inr rfl) (pe_op op_add pe_int (pe_op op_mod (pe_call (ok_law_draw T) (hr.mono (by decide)) (by rfl) T.g_law_draw T.F_law_draw.kp T.b_law_draw .nil pass0 (pa_cons (pv 0) pa_nil)) (pe_callB (id := "min") (r := rMin2) (cr_min2 rfl) (by rfl) T.m_min (by decide +kernel) (pa_cons (pv 1) (pa_cons pe_int pa_nil))))))
      (pss_one (ps_ret (pe_callTy (T := "tuple") (r := rTupOf K) cr_tup_of (by rfl) T.m_tuple (by decide +kernel) (pa_cons (pe_lc (own := [("i", 3)]) (g := gName 3) (tt := tYes) rfl sc_law_table.nd (pi_range1 (by rfl) T.m_range (pa_cons (pv 2) pa_nil)) (blkOk_by (N := N_law_table) (sc := defScope s_law_table) (by decide +kernel)) (fun _ _ _ _ _ => (pg_name (i := 3) sc_law_table.nd rfl (Or.inl rfl))) (fun _ _ _ _ _ => pts_nil) (fun _ _ _ _ _ => (pe_callTy (T := "tuple") (r := rTupOf K) cr_tup_of (by rfl) T.m_tuple (by decide +kernel) (pa_cons (pe_lc (own := [("j", 4)]) (g := gName 4) (tt := tYes) rfl sc_law_table.nd (pi_range1 (by rfl) T.m_range (pa_cons (pv 2) pa_nil)) (blkOk_by (by kernel_rfl)) (fun _ _ _ _ _ => (pg_name (i := 4) sc_law_table.nd rfl (Or.inl rfl))) (fun _ _ _ _ _ => pts_nil) (fun _ _ _ _ _ => (pe_call (ok_law_number T) hr (by rfl) T.g_law_number T.F_law_number.kp T.b_law_number .nil pass0 (pa_cons (pv 0) (pa_cons (pv 1) pa_nil))))) pa_nil)))) pa_nil))))), ?_⟩
    walk_at "start"
    walk_at "x"
    refine ⟨d, nn, rfl, hD, ?_⟩
    rintro _ H5 ⟨y, rfl, hy0, hy1⟩ hD5 hk5
    have hmin : ∃ m : Nat, (if 4 < (p : Int) then (4 : Int) else p) = (m : Int) ∧ 2 ≤ m ∧ m ≤ p ∧ m ≤ 4 := by
      split
      · exact ⟨4, rfl, by decide, by omega, by decide⟩
      · exact ⟨p, rfl, hp2, by omega, by omega⟩
    obtain ⟨m, em, m2, mp, m8⟩ := hmin
    walk_at "x"
    rw [em]
    have ym0 : 0 ≤ y % (m : Int) := Int.emod_nonneg _ (by omega)
    have ym1 : y % (m : Int) < m := Int.emod_lt_of_pos _ (by omega)
    walk_at "x"
    obtain ⟨n, hn⟩ : ∃ n : Nat, 1 + y % (m : Int) = (n : Int) := ⟨(1 + y % (m : Int)).toNat, by omega⟩
    rw [hn]
    have hn1 : 1 ≤ n := by omega
    have hn4 : n ≤ 4 := by omega
    have hnp : n ≤ p := by omega
    refine x_lcR1 (n : Int) (fun o k H' => RowsJ H5 p n d nn o k H') (fun R r => ⟨_, rfl, r⟩) (by omega) (by omega) (fun o ho => ⟨hD5.upd0 ho, Same.keep (same_upd ho), hD5.new ho, hD5.newN ho, [], [], upd_same, rfl, rfl, fun k r b h _ => by simp at h, fun k r h => by simp at h⟩) (fun x => rfl) ?_ ?_
    · rintro o k H6 ho hk ⟨hD6, hk6, hod, hon, as, t, hO, hal, htl, hrow, hrz⟩
      walk_at "x"
      refine x_lcR1 (n : Int) (fun c j H' => Dr H' d nn ∧ c ≠ d ∧ c ≠ nn ∧ Keep d H6 H' ∧ ∃ row : List Int, H' c = some (.lst (row.map V.int)) ∧ row.length = j ∧ Rg 0 p row) (fun R r => ⟨_, rfl, r⟩) (by omega) (by omega) (fun c hc => ⟨hD6.upd0 hc, hD6.new hc, hD6.newN hc, Same.keep (same_upd hc), [], upd_same, rfl, .nil⟩) (fun x => rfl) ?_ ?_
      · rintro c j H7 hc hj ⟨hD7, hcd, hcn, hk7, row, hR, hrl, hrg⟩
        walk_at "x"
        refine ⟨d, nn, (p : Int), rfl, by omega, hD7, ?_⟩
        rintro _ H8 ⟨z, rfl, hz0, hz1⟩ hD8 hk8
        refine ⟨_, hk8 _ _ hR hcd, lt_line (by rw [List.length_map]; omega), hD8.upd hcd hcn, hcd, hcn, kput (hk7.trans hk8) hc, row ++ [z], map_app, by rw [List.length_append, hrl]; rfl, hrg.snoc hz0 hz1⟩
      · rintro c H7 hc ⟨hD7, hcd, hcn, hk7, row, hR, hrl, hrg⟩
        walk_at "x"
        refine x_tupL (sq_of hR) fun l hll => ?_
        have hO7 := hk7 _ _ hO hod
        have hlo : o ≠ l := ne_of_none hO7 hll
        have hld := hD7.new hll
        have hln := hD7.newN hll
        have hl6 : H6 l = none := hk7.free hD7 hll
        have hl5 : H5 l = none := hk6.free hD6 hl6
        refine ⟨as.map V.ref, by rw [upd_ne hlo]; exact hO7, lt_line (by rw [List.length_map]; omega), (hD7.upd0 hll).upd hod hon, kput (kput (hk6.trans hk7) hl5) ho, hod, hon, as ++ [l], t ++ [row], by rw [upd_same, List.map_append]; rfl, by rw [List.length_append, hal]; rfl, by rw [List.length_append, htl]; rfl, fun k2 r b e1 e2 => ?_, fun k2 r e1 => ?_⟩
        · rcases snoc_at htl e1 with ⟨h1, e1⟩ | ⟨rfl, rfl⟩
          · rcases snoc_at hal e2 with ⟨h2, e2⟩ | ⟨rfl, rfl⟩
            · have hb7 := keep_tups hk7 hD6 _ _ (hrow k2 r b e1 e2)
              rw [upd_ne (ne_of hb7 hO7 (by intro z; cases z)), upd_ne (ne_of_none hb7 hll)]
              exact hb7
            · omega
          · rcases snoc_at hal e2 with ⟨h2, e2⟩ | ⟨_, rfl⟩
            · omega
            · rw [upd_ne hlo.symm, upd_same]
        · rcases snoc_at htl e1 with ⟨h1, e1⟩ | ⟨rfl, rfl⟩
          · exact hrz k2 r e1
          · exact ⟨by omega, hrg⟩
    · rintro o H6 ho ⟨hD6, hk6, hod, hon, as, t, hO, hal, htl, hrow, hrz⟩
      walk_at "x"
      refine x_tupL (sq_of hO) fun l hll => ?_
      have htl : t.length = n := by omega
      have hI : IsTab p t := ⟨by omega, by omega, fun k r e => ⟨by rw [htl]; exact (hrz k r e).1, (hrz k r e).2⟩⟩
      refine q _ _ ⟨l, t, rfl, ⟨as, upd_same, by omega, fun k r b e1 e2 => by rw [upd_ne (ne_of_none (hrow k r b e1 e2) hll)]; exact hrow k r b e1 e2⟩, hI, by omega⟩ (hD6.upd0 hll) (kput (hk5.trans hk6) (hk5.free hD5 (hk6.free hD6 hll)))


def sp_law_factor (K : PySem.W.Frag) : Sp := fun vs H Q _ => ∃ (d n : Addr) (t c i : Nat), vs = [.ref d, .int (t : Int), .int (c : Int), .int (i : Int)] ∧ t < c ∧ c ≤ 60 ∧ i ≤ 60 ∧ (1 < c ∨ 0 < i) ∧ Dr H d n ∧ RetH d n (fun v H' => ∃ (b : Addr) (f : Fac), v = .ref b ∧ FacAt H' b f ∧ FacOk c i t f) H Q
theorem max_one {i : Nat} (h : 0 < i) : (if (i : Int) > 1 then (i : Int) else 1) = (i : Int) := by
  split <;> omega
theorem ok_law_factor (T : Txt K mg) : FnOk P w K mg base CX0 3 T.a_law_factor T.fd_law_factor ["draws", "target", "cells", "inputs"] (sp_law_factor K) := by
  refine T.F_law_factor.ok sc_law_factor (fun vs H Q E h => ?_) (fun cdv A outer s H vs Q E hr h => ?_)
  · obtain ⟨d, n, t, c, i, rfl, _⟩ := h
    rfl
  · obtain ⟨d, n, t, c, i, rfl, htc, c60, i60, hor, hD, q⟩ := h
    refine ⟨_, (pss_cons (ps_if (PW.pt (pw_and (pt_cmpR op_gt (pv 2) pe_int (nomark _)) (pw_and1 (PW.pt (pw_or (pt_cmpR op_eq (pv 3) pe_int (nomark _)) (pw_or1 (pt_cmpR op_eq (pe_op op_mod (pe_call (ok_law_draw T) hr (by rfl) T.g_law_draw T.F_law_draw.kp T.b_law_draw .nil pass0 (pa_cons (pv 0) pa_nil)) pe_int) pe_int (nomark _))))))))
      (pss_one (ps_ret (pe_tup (pa_cons pe_str (pa_cons (pe_op op_mod (pe_op op_add (pe_op op_add (pv 1) pe_int) (pe_op op_mod (pe_call (ok_law_draw T) hr (by rfl) T.g_law_draw T.F_law_draw.kp T.b_law_draw .nil pass0 (pa_cons (pv 0) pa_nil)) (pe_op op_sub (pv 2) pe_int))) (pv 2)) pa_nil)))))
      pss_nil)
      (pss_one (ps_ret (pe_tup (pa_cons pe_str (pa_cons (pe_op op_mod (pe_call (ok_law_draw T) hr (by rfl) T.g_law_draw T.F_law_draw.kp T.b_law_draw .nil pass0 (pa_cons (pv 0) pa_nil)) (pe_callB (id := "max") (r := rMax2) (cr_max2 rfl) (by rfl) T.m_max (by decide +kernel) (pa_cons pe_int (pa_cons (pv 3) pa_nil)))) pa_nil)))))), ?_⟩
    have one : ∀ (H1 : Hp), 1 < c → Dr H1 d n → Keep d H H1 → ∀ y : Int, ∀ p, H1 p = none → Q (.ref p) (upd H1 p (.tup [.str "cell", .int (((t : Int) + 1 + y % ((c : Int) - 1)) % (c : Int))])) := fun H1 hc hD1 hk1 y p hp => by
      obtain ⟨j, ej, jc, jt⟩ := wrap_ne htc (Int.emod_nonneg y (show (c : Int) - 1 ≠ 0 by omega)) (Int.emod_lt_of_pos y (show (0 : Int) < (c : Int) - 1 by omega))
      rw [ej]
      exact q _ _ ⟨p, .cell j, rfl, upd_same, ⟨jc, jt⟩⟩ (hD1.upd0 hp) (kput hk1 (hk1.free hD1 hp))
    have two : ∀ (H1 : Hp), 0 < i → Dr H1 d n → Keep d H H1 → ∀ y : Int, ∀ p, H1 p = none → Q (.ref p) (upd H1 p (.tup [.str "input", .int (y % (i : Int))])) := fun H1 hi hD1 hk1 y p hp => by
      obtain ⟨j, ej, jc⟩ : ∃ j : Nat, y % (i : Int) = (j : Int) ∧ j < i := ⟨(y % (i : Int)).toNat, by have := Int.emod_nonneg y (show (i : Int) ≠ 0 by omega); omega, by have := Int.emod_lt_of_pos y (show (0 : Int) < i by omega); omega⟩
      rw [ej]
      exact q _ _ ⟨p, .inp j, rfl, upd_same, jc⟩ (hD1.upd0 hp) (kput hk1 (hk1.free hD1 hp))
    walk_at "start"
    walk_at "x"
    refine x_ite (fun hc => ?_) (fun hc => ?_)
    · walk_at "x"
      refine x_ite (fun hi => ?_) (fun hi => ?_)
      · walk_at "t"
        refine ⟨d, n, rfl, hD, ?_⟩
        rintro _ H1 ⟨y, rfl, y0, y1⟩ hD1 hk1
        walk_at "x"
        exact ⟨by show 2 ≤ sizeLine; decide, one H1 (by omega) hD1 hk1 y⟩
      · walk_at "x"
        refine ⟨d, n, rfl, hD, ?_⟩
        rintro _ H1 ⟨z, rfl, z0, z1⟩ hD1 hk1
        walk_at "x"
        refine x_ite (fun hz => ?_) (fun hz => ?_)
        · walk_at "x"
          refine ⟨d, n, rfl, hD1, ?_⟩
          rintro _ H2 ⟨y, rfl, y0, y1⟩ hD2 hk2
          walk_at "x"
          exact ⟨by show 2 ≤ sizeLine; decide, one H2 (by omega) hD2 (hk1.trans hk2) y⟩
        · walk_at "x"
          refine ⟨d, n, rfl, hD1, ?_⟩
          rintro _ H2 ⟨y, rfl, y0, y1⟩ hD2 hk2
          walk_at "x"
          rw [max_one (by omega)]
          walk_at "x"
          exact ⟨by show 2 ≤ sizeLine; decide, two H2 (by omega) hD2 (hk1.trans hk2) y⟩
    · walk_at "f"
      refine ⟨d, n, rfl, hD, ?_⟩
      rintro _ H2 ⟨y, rfl, y0, y1⟩ hD2 hk2
      walk_at "x"
      rw [max_one (by omega)]
      walk_at "x"
      exact ⟨by show 2 ≤ sizeLine; decide, two H2 (by omega) hD2 hk2 y⟩


end
end Br
namespace Br
open PySem PySem.Spec PyProof.Rows L2
local macro_rules | `(tactic| walk_at "x1") => `(tactic| (with_reducible first
  | refine Br.x_seq ?_ | refine Br.x_set ?_ | refine Br.x_asg ?_ | refine Br.x_next ?_ | refine Br.x_ret ?_ | refine Br.x_retN ?_ | refine Br.x_drop ?_ | refine Br.x_if ?_ | refine Br.x_brk ?_ | refine Br.x_cont ?_
  | refine Br.x_c ?_ | refine Br.x_op ?_ | refine Br.x_un ?_ | refine Br.x_I0 ?_ | refine Br.x_U ?_ | refine Br.x_EqI ?_ | refine Br.x_NeI ?_ | refine Br.x_EqB ?_ | refine Br.x_iN ?_ | refine Br.x_int1 ?_ | refine Br.x_min2 ?_ | refine Br.x_max2 ?_ | refine Br.x_nN ?_ | refine Br.x_ifE ?_
  | refine Br.x_test (b := ()) ?_ | refine Br.x_tB ?_ | refine Br.x_bl ?_ | refine Br.x_and ?_ | refine Br.x_or ?_ | refine Br.x_not ?_ | refine Br.x_andV ?_ | refine Br.x_orV ?_ | refine Br.x_notV ?_ | refine Br.x_blP ?_
  | refine Br.x_nil ?_ | refine Br.x_cons ?_ | refine Br.x_call ?_ | refine Br.x_CB ?_ | refine Br.x_BM ?_ | refine Br.x_tup ?_ | refine Br.x_lst ?_ | refine Br.x_chain ?_ | refine Br.x_par ?_ | refine Br.x_gSub ?_ | refine Br.x_gName ?_ | refine Br.x_fld ?_ | refine Br.x_fldS ?_ | refine Br.x_match ?_ | refine Br.x_else ?_ | refine Br.x_noCase ?_))
local macro_rules | `(tactic| walk_at "xv") => `(tactic| ((with_reducible refine' Br.x_var ?hvar ?_); (case hvar => rfl)))
local macro_rules | `(tactic| walk_at "xd") => `(tactic| (dsimp only [List.set_cons_zero, List.set_cons_succ, List.cons_append, List.nil_append, List.append_nil]))
local macro_rules | `(tactic| walk_at "xi") => `(tactic| ((with_reducible refine Br.x_I ?hside ?_); (case hside => first | exact Br.mul_r (by decide) (by decide) | exact Br.mul_l (by decide) (by decide) | exact Br.mul_l (by omega) (by omega) | exact Br.mul_r (by omega) (by omega) | (show (0 : Int) < _; first | decide | omega) | exact ⟨by decide, by decide⟩ | exact ⟨by omega, by omega⟩ | exact ⟨by decide, by decide, by decide⟩)))
local macro_rules | `(tactic| walk_at "x") => `(tactic| (repeat (first | walk_at "x1" | walk_at "xv" | walk_at "xi" | walk_at "xd")))
local macro_rules | `(tactic| walk_at "start") => `(tactic| (simp only [L2.start, List.map_cons, List.map_nil, List.length_cons, List.length_nil, Nat.reduceAdd, Nat.reduceSub, List.replicate, List.cons_append, List.nil_append, List.append_nil]))
local macro_rules | `(tactic| walk_at "isi") => `(tactic| first
  | refine Br.x_isi (b := true) (.base (.int _)) (by decide +kernel) ?_ | refine Br.x_isi (b := false) (.base (.int _)) (by decide +kernel) ?_
  | refine Br.x_isi (b := true) (.base (.bl _)) (by decide +kernel) ?_ | refine Br.x_isi (b := false) (.base (.bl _)) (by decide +kernel) ?_
  | refine Br.x_isi (b := false) (.base .non) (by decide +kernel) ?_
  | refine Br.x_isi (b := true) (.base (.str _)) (by decide +kernel) ?_ | refine Br.x_isi (b := false) (.base (.str _)) (by decide +kernel) ?_
  | refine Br.x_isi (b := true) (.base (.tup (by assumption))) (by decide +kernel) ?_ | refine Br.x_isi (b := false) (.base (.tup (by assumption))) (by decide +kernel) ?_
  | refine Br.x_isi (b := true) (.base (.lst (by assumption))) (by decide +kernel) ?_ | refine Br.x_isi (b := false) (.base (.lst (by assumption))) (by decide +kernel) ?_)
local macro_rules | `(tactic| walk_at "f") => `(tactic| (refine L2.iteF ?_; walk_at "x"))
local macro_rules | `(tactic| walk_at "t") => `(tactic| (refine L2.iteT ?_; walk_at "x"))
local macro_rules | `(tactic| walk_at "is") => `(tactic| (walk_at "isi"; walk_at "x"))
local macro_rules | `(tactic| walk_at "xb") => `(tactic| (simp only [Br.bindS, List.set_cons_zero, List.set_cons_succ]; walk_at "x"))

section
variable {P : Program} {w : World} {K : PySem.W.Frag} {mg : Str → Option Value} {base : Heap}

open Br.F
theorem x_lcPre {σ : L2.St} {H : Hp} {Q : VK} {ta : TE} {j : Nat} {te : TE} {vs : List Nat} (h : ta σ H fun v H1 => tLc (iRng1 (tCons (tC v) tNil)) (gName j) tYes te vs σ H1 Q) : tLc (iRng1 (tCons ta tNil)) (gName j) tYes te vs σ H Q := h

def FacsI (H0 : Hp) (t c i : Nat) (d nn o : Addr) (k : Nat) (H : Hp) : Prop := Dr H d nn ∧ Keep d H0 H ∧ o ≠ d ∧ o ≠ nn ∧ ∃ (as : List Addr) (fs : List Fac), H o = some (.lst (as.map V.ref)) ∧ as.length = k ∧ fs.length = k ∧ (∀ (j : Nat) x b, fs[j]? = some x → as[j]? = some b → FacAt H b x) ∧ ∀ f, f ∈ fs → FacOk c i t f
def sp_law_step (K : PySem.W.Frag) : Sp := fun vs H Q _ => ∃ (d n : Addr) (m c i : Nat) (pr : Bool), vs = [.ref d, .int (m : Int), .int (c : Int), .int (i : Int), .bl pr] ∧ 2 ≤ m ∧ m ≤ 1000000000 ∧ 1 ≤ c ∧ c ≤ 60 ∧ i ≤ 60 ∧ (pr = true → IsPrime m) ∧ Dr H d n ∧
  RetH d n (fun v H' => ∃ (b : Addr) (s : Stp), v = .ref b ∧ StpAt H' b s ∧ StpOk m c i s) H Q
theorem ok_law_step (T : Txt K mg) : FnOk P w K mg base CX0 6 T.a_law_step T.fd_law_step ["draws", "modulus", "cells", "inputs", "prime"] (sp_law_step K) := by
  refine T.F_law_step.ok sc_law_step (fun vs H Q E h => ?_) (fun cdv A outer s H vs Q E hr h => ?_)
  · obtain ⟨d, n, m, c, i, pr, rfl, _⟩ := h
    rfl
  · obtain ⟨d, n, m, c, i, pr, rfl, m2, m9, c1, c60, i60, hpr, hD, q⟩ := h
    refine ⟨_, (pss_cons (ps_set (i := 5) sc_law_step.nd rfl (.inl rfl) (pe_op op_mod (pe_call (ok_law_draw T) (hr.mono (by decide)) (by rfl) T.g_law_draw T.F_law_draw.kp T.b_law_draw .nil pass0 (pa_cons (pv 0) pa_nil)) pe_int))
      (pss_cons (ps_set (i := 6) sc_law_step.nd rfl (.inr rfl) (pe_op op_mod (pe_call (ok_law_draw T) (hr.mono (by decide)) (by rfl) T.g_law_draw T.F_law_draw.kp T.b_law_draw .nil pass0 (pa_cons (pv 0) pa_nil)) (pv 2)))
      (Evl.pss_cut (ps_if (PW.pt (pw_and (pt_cmpR op_eq (pv 5) pe_int (nomark _)) (pw_and1 (pt_cmpR op_gt (pv 2) pe_int (nomark _)))))
      (pss_one (ps_ret (pe_tup (pa_cons pe_str (pa_cons (pv 6) (pa_cons (pe_op op_mod (pe_op op_add (pe_op op_add (pv 6) pe_int) (pe_op op_mod (pe_call (ok_law_draw T) (hr.mono (by decide)) (by rfl) T.g_law_draw T.F_law_draw.kp T.b_law_draw .nil pass0 (pa_cons (pv 0) pa_nil)) (pe_op op_sub (pv 2) pe_int))) (pv 2)) pa_nil))))))
      pss_nil)
      (pss_cons (ps_if (pt_cmpR op_eq (pv 5) pe_int (nomark _))
      (pss_one (ps_ret (pe_tup (pa_cons pe_str (pa_cons (pv 6) (pa_cons (pe_call (ok_law_unit T) hr (by rfl) T.g_law_unit T.F_law_unit.kp T.b_law_unit .nil pass0 (pa_cons (pv 0) (pa_cons (pv 1) pa_nil))) pa_nil))))))
      pss_nil)
      (Evl.pss_cut (ps_if (PW.pt (pw_and (pt_cmpR op_eq (pv 5) pe_int (nomark _)) (pw_and (pt_val (pv 4)) (pw_and1 (pt_cmpR op_gt (pv 2) pe_int (nomark _))))))
      (pss_cons (ps_set (i := 7) sc_law_step.nd rfl (.inl rfl) (pe_op op_add pe_int (pe_op op_mod (pe_call (ok_law_draw T) (hr.mono (by decide)) (by rfl) T.g_law_draw T.F_law_draw.kp T.b_law_draw .nil pass0 (pa_cons (pv 0) pa_nil)) (pe_op op_sub (pv 2) pe_int))))
      (pss_cons (ps_set (i := 8) sc_law_step.nd rfl (.inl rfl) (pe_op op_add (pe_op op_add (pv 7) pe_int) (pe_op op_mod (pe_call (ok_law_draw T) (hr.mono (by decide)) (by rfl) T.g_law_draw T.F_law_draw.kp T.b_law_draw .nil pass0 (pa_cons (pv 0) pa_nil)) (pe_op op_sub (pe_op op_sub (pv 2) pe_int) (pv 7)))))
      (pss_cons (ps_set (i := 9) sc_law_step.nd rfl (.inl rfl) (pe_tup (pa_cons (pe_op op_mod (pe_op op_add (pv 6) (pv 7)) (pv 2)) (pa_cons (pe_op op_mod (pe_op op_add (pv 6) (pv 8)) (pv 2)) pa_nil))))
      (Evl.pss_cut (ps_if (pt_cmpR op_eq (pe_op op_mod (pe_call (ok_law_draw T) (hr.mono (by decide)) (by rfl) T.g_law_draw T.F_law_draw.kp T.b_law_draw .nil pass0 (pa_cons (pv 0) pa_nil)) pe_int) pe_int (nomark _))
      (pss_one (ps_set (i := 9) sc_law_step.nd rfl (.inl rfl) (pe_tup (pa_cons (pe_ix (r := rIxT K) ix_tup (pv 9) pe_int (fun _ _ => rfl)) (pa_cons (pe_ix (r := rIxT K) ix_tup (pv 9) pe_int (fun _ _ => rfl)) pa_nil)))))
      pss_nil)
      (pss_cons (ps_set (i := 10) sc_law_step.nd rfl (.inl rfl) (pe_ix (r := rIxL K) ix_list (pe_lst (pa_cons pe_int (pa_cons (pe_op op_sub (pv 1) pe_int) pa_nil))) (pe_op op_mod (pe_call (ok_law_draw T) (hr.mono (by decide)) (by rfl) T.g_law_draw T.F_law_draw.kp T.b_law_draw .nil pass0 (pa_cons (pv 0) pa_nil)) pe_int) (fun _ _ => rfl)))
      (pss_one (ps_ret (pe_tup (pa_cons pe_str (pa_cons (pv 6) (pa_cons (pv 10) (pa_cons (pe_call (ok_law_table T) hr (by rfl) T.g_law_table T.F_law_table.kp T.b_law_table .nil pass0 (pa_cons (pv 0) (pa_cons (pv 1) pa_nil))) (pa_cons (pe_ix (r := rIxT K) ix_tup (pv 9) pe_int (fun _ _ => rfl)) (pa_cons (pe_ix (r := rIxT K) ix_tup (pv 9) pe_int (fun _ _ => rfl)) pa_nil))))))))))))))
      pss_nil)
      (pss_cons (ps_set (i := 11) sc_law_step.nd rfl (.inl rfl) (pe_lst pa_nil))
      (Evl.pss_cut (ps_if (PW.pt (pw_or (pt_cmpR op_gt (pv 2) pe_int (nomark _)) (pw_or1 (pt_cmpR op_gt (pv 3) pe_int (nomark _)))))
      (pss_one (ps_setLc (i := 11) (own := [("k", 12)]) (g := gName 12) (tt := tYes) rfl sc_law_step.nd rfl rfl (sw_true rfl rfl rfl (by decide +kernel)) (pi_range1 (by rfl) T.m_range (pa_cons (pe_op op_mod (pe_call (ok_law_draw T) (hr.mono (by decide)) (by rfl) T.g_law_draw T.F_law_draw.kp T.b_law_draw .nil pass0 (pa_cons (pv 0) pa_nil)) pe_int) pa_nil)) (blkOk_by (N := N_law_step) (sc := defScope s_law_step) (by decide +kernel)) (fun _ _ _ _ _ => (pg_name (i := 12) sc_law_step.nd rfl (Or.inl rfl))) (fun _ _ _ _ _ => pts_nil) (fun _ _ _ _ _ => (pe_call (ok_law_factor T) (hr.mono (by decide)) (by rfl) T.g_law_factor T.F_law_factor.kp T.b_law_factor .nil pass0 (pa_cons (pv 0) (pa_cons (pv 6) (pa_cons (pv 2) (pa_cons (pv 3) pa_nil))))))))
      pss_nil)
      (pss_one (ps_ret (pe_tup (pa_cons pe_str (pa_cons (pv 6) (pa_cons (pe_call (ok_law_number T) (hr.mono (by decide)) (by rfl) T.g_law_number T.F_law_number.kp T.b_law_number .nil pass0 (pa_cons (pv 0) (pa_cons (pv 1) pa_nil))) (pa_cons (pe_callTy (T := "tuple") (r := rTupOf K) cr_tup_of (by rfl) T.m_tuple (by decide +kernel) (pa_cons (pv 11) pa_nil)) pa_nil)))))))))))))), ?_⟩
    walk_at "start"
    walk_at "x"
    refine ⟨d, n, rfl, hD, ?_⟩
    rintro _ H1 ⟨z, rfl, z0, z1⟩ hD1 hk1
    walk_at "x"
    refine ⟨d, n, rfl, hD1, ?_⟩
    rintro _ H2 ⟨y, rfl, y0, y1⟩ hD2 hk2
    have hk2 := hk1.trans hk2
    walk_at "x"
    obtain ⟨t, et, htc⟩ := cast_lt (x := y % (c : Int)) (c := c) (Int.emod_nonneg y (show (c : Int) ≠ 0 by omega)) (Int.emod_lt_of_pos y (show (0 : Int) < (c : Int) by omega))
    rw [et]
    refine x_cut (fun σ' H' => [some (V.ref d), some (.int (m : Int)), some (.int (c : Int)), some (.int (i : Int)), some (.bl pr), some (.int (z % 8)), some (.int (t : Int)), none, none, none, none, none, none] = σ' ∧ H2 = H') ?_ ?_
    · walk_at "x"
      refine x_ite (fun h0 => ?_) (fun h0 => ?_)
      · walk_at "x"
        refine x_ite (fun h1 => ?_) (fun h1 => ?_)
        · walk_at "x"
          refine ⟨d, n, rfl, hD2, ?_⟩
          rintro _ H3 ⟨w, rfl, w0, w1⟩ hD3 hk3
          walk_at "x"
          refine ⟨by show 3 ≤ sizeLine; decide, fun p hp => ?_⟩
          obtain ⟨j, ej, jc, jt⟩ := wrap_ne htc (Int.emod_nonneg w (show (c : Int) - 1 ≠ 0 by omega)) (Int.emod_lt_of_pos w (show (0 : Int) < (c : Int) - 1 by omega))
          rw [ej]
          exact q _ _ ⟨p, .swap t j, rfl, upd_same, ⟨htc, jc, jt.symm⟩⟩ (hD3.upd0 hp) (kput (hk2.trans hk3) (hk2.free hD2 (hk3.free hD3 hp)))
        · walk_at "x"
          exact ⟨rfl, rfl⟩
      · walk_at "f"
        exact ⟨rfl, rfl⟩
    rintro _ _ ⟨rfl, rfl⟩
    walk_at "x"
    refine x_ite (fun h1 => ?_) (fun h1 => ?_)
    · walk_at "x"
      refine ⟨d, n, m, rfl, m2, m9, hD2, ?_⟩
      rintro _ H3 ⟨u, rfl, u0, u1, ug⟩ hD3 hk3
      walk_at "x"
      refine ⟨by show 3 ≤ sizeLine; decide, fun p hp => ?_⟩
      exact q _ _ ⟨p, .scale t u, rfl, upd_same, ⟨htc, u0, u1, ug⟩⟩ (hD3.upd0 hp) (kput (hk2.trans hk3) (hk2.free hD2 (hk3.free hD3 hp)))
    walk_at "x"
    refine x_cut (fun σ' H' => [some (V.ref d), some (.int (m : Int)), some (.int (c : Int)), some (.int (i : Int)), some (.bl pr), some (.int (z % 8)), some (.int (t : Int)), none, none, none, none, none, none] = σ' ∧ H2 = H') ?_ ?_
    · walk_at "x"
      refine x_ite (fun h2 => ?_) (fun h2 => ?_)
      · walk_at "x"
        refine x_iteB (fun hp => ?_) (fun hp => ?_)
        · walk_at "x"
          refine x_ite (fun h3 => ?_) (fun h3 => ?_)
          · walk_at "x"
            refine ⟨d, n, rfl, hD2, ?_⟩
            rintro _ H3 ⟨w, rfl, w0, w1⟩ hD3 hk3
            have hk3 := hk2.trans hk3
            walk_at "x"
            obtain ⟨o, eo, o1, o2⟩ : ∃ o : Int, 1 + w % ((c : Int) - 2) = o ∧ 1 ≤ o ∧ o ≤ (c : Int) - 2 := ⟨_, rfl, by have := Int.emod_nonneg w (show (c : Int) - 2 ≠ 0 by omega); omega, by have := Int.emod_lt_of_pos w (show (0 : Int) < (c : Int) - 2 by omega); omega⟩
            rw [eo]
            refine ⟨d, n, rfl, hD3, ?_⟩
            rintro _ H4 ⟨x, rfl, x0, x1⟩ hD4 hk4
            have hk4 := hk3.trans hk4
            walk_at "x"
            obtain ⟨l, el, l1, l2⟩ : ∃ l : Int, o + 1 + x % ((c : Int) - 1 - o) = l ∧ o < l ∧ l < (c : Int) := ⟨_, rfl, by have := Int.emod_nonneg x (show (c : Int) - 1 - o ≠ 0 by omega); omega, by have := Int.emod_lt_of_pos x (show (0 : Int) < (c : Int) - 1 - o by omega); omega⟩
            rw [el]
            refine ⟨by show 2 ≤ sizeLine; decide, fun p hp0 => ?_⟩
            obtain ⟨a, b, ea, eb, ac, bc, ta, tb, ab⟩ := wrap_two htc o1 l1 l2
            rw [ea, eb]
            have hD5 := hD4.upd0 (o := .tup [.int (a : Int), .int (b : Int)]) hp0
            have hk5 := kput (o := .tup [.int (a : Int), .int (b : Int)]) hk4 (hk4.free hD4 hp0)
            walk_at "x"
            refine x_cut (fun σ' H' => ∃ (p : Addr) (a b : Nat), [some (V.ref d), some (.int (m : Int)), some (.int (c : Int)), some (.int (i : Int)), some (.bl pr), some (.int (z % 8)), some (.int (t : Int)), some (.int o), some (.int l), some (.ref p), none, none, none] = σ' ∧ Dr H' d n ∧ Keep d H H' ∧ H' p = some (.tup [.int (a : Int), .int (b : Int)]) ∧ a < c ∧ b < c ∧ t ≠ a ∧ t ≠ b ∧ a ≠ b) ?_ ?_
            · walk_at "x"
              refine ⟨d, n, rfl, hD5, ?_⟩
              rintro _ H6 ⟨v, rfl, v0, v1⟩ hD6 hk6
              have hp6 := keep_tups hk6 hD5 _ _ upd_same
              have hk6 := hk5.trans hk6
              walk_at "x"
              refine x_ite (fun hv => ?_) (fun hv => ?_)
              · walk_at "x"
                refine x_ixT (v := .int (b : Int)) (st_of hp6) (atI_nat (j := 1) rfl) ?_
                walk_at "x"
                refine x_ixT (v := .int (a : Int)) (st_of hp6) (atI_nat (j := 0) rfl) ?_
                walk_at "x"
                refine ⟨by show 2 ≤ sizeLine; decide, fun p2 hp2 => ?_⟩
                walk_at "x"
                exact ⟨p2, b, a, rfl, hD6.upd0 hp2, kput hk6 (hk6.free hD6 hp2), upd_same, bc, ac, tb, ta, ab.symm⟩
              · walk_at "x"
                exact ⟨p, a, b, rfl, hD6, hk6, hp6, ac, bc, ta, tb, ab⟩
            clear hp0 hD5 hk5 ea eb
            clear ac bc ta tb ab
            rintro _ H6 ⟨p, a, b, rfl, hD6, hk6, hp6, ac, bc, ta, tb, ab⟩
            walk_at "x"
            refine ⟨by show 2 ≤ sizeLine; decide, fun u hu => ?_⟩
            have hne := hD6.new hu
            have hp7 := same_upd (o := .lst [.int 1, .int ((m : Int) - 1)]) hu _ _ hp6
            have hk7 := kput (o := .lst [.int 1, .int ((m : Int) - 1)]) hk6 (hk6.free hD6 hu)
            have hD7 := hD6.upd0 (o := .lst [.int 1, .int ((m : Int) - 1)]) hu
            walk_at "x"
            refine ⟨d, n, rfl, hD7, ?_⟩
            rintro _ H8 ⟨v, rfl, v0, v1⟩ hD8 hk8
            have hp8 := keep_tups hk8 hD7 _ _ hp7
            walk_at "x"
            obtain ⟨g, hv, hm⟩ := at_lt (xs := [.int 1, .int ((m : Int) - 1)]) (i := v % 2) (Int.emod_nonneg _ (by decide)) (Int.emod_lt_of_pos v (show (0 : Int) < 2 by decide))
            refine x_ixL (sq_of (hk8 _ _ upd_same hne)) hv ?_
            have hk8 := hk7.trans hk8
            obtain ⟨g, rfl, hg⟩ : ∃ g' : Int, g = .int g' ∧ (g' = 1 ∨ g' = (m : Int) - 1) := by
              have hm' : g = .int 1 ∨ g = .int ((m : Int) - 1) := by simpa using hm
              rcases hm' with e | e
              · exact ⟨_, e, .inl rfl⟩
              · exact ⟨_, e, .inr rfl⟩
            walk_at "x"
            refine ⟨d, n, m, rfl, m2, hD8, ?_⟩
            rintro _ H9 ⟨f, tbl, rfl, hT, hI, hl4⟩ hD9 hk9
            have hp9 := keep_tups hk9 hD8 _ _ hp8
            have hk9 := hk8.trans hk9
            walk_at "x"
            refine x_ixT (v := .int (a : Int)) (st_of hp9) (atI_nat (j := 0) rfl) ?_
            walk_at "x"
            refine x_ixT (v := .int (b : Int)) (st_of hp9) (atI_nat (j := 1) rfl) ?_
            walk_at "x"
            refine ⟨by show 6 ≤ sizeLine; decide, fun r hr0 => ?_⟩
            exact q _ _ ⟨r, .tab t g tbl a b, rfl, ⟨f, upd_same, hT.tups (Tups.same (same_upd hr0))⟩, ⟨htc, ac, bc, ta, tb, ab, hg, hI, by omega, hpr hp⟩⟩ (hD9.upd0 hr0) (kput hk9 (hk9.free hD9 hr0))
          · walk_at "x"
            exact ⟨rfl, rfl⟩
        · walk_at "f"
          exact ⟨rfl, rfl⟩
      · walk_at "f"
        exact ⟨rfl, rfl⟩
    rintro _ _ ⟨rfl, rfl⟩
    walk_at "x"
    refine ⟨Nat.zero_le _, fun o ho => ?_⟩
    have hD3 := hD2.upd0 (o := .lst []) ho
    have hk3 := kput (o := .lst []) hk2 (hk2.free hD2 ho)
    walk_at "x"
    refine x_cut (fun σ' H' => ∃ o : Addr, [some (V.ref d), some (.int (m : Int)), some (.int (c : Int)), some (.int (i : Int)), some (.bl pr), some (.int (z % 8)), some (.int (t : Int)), none, none, none, none, some (.ref o), none] = σ' ∧ ∃ k, k ≤ 3 ∧ FacsI H t c i d n o k H') ?_ ?_
    · have body : ∀ R : VK, (1 < c ∨ 0 < i) → (∀ (o : Addr) (k : Nat) (H' : Hp), k ≤ 3 → FacsI H t c i d n o k H' → R (.ref o) H') → ∀ (v : Int) (H4 : Hp), 0 ≤ v → Dr H4 d n → Keep d H H4 → ∀ te : TE, (∀ (w : Int) (H5 : Hp) (R : VK), Dr H5 d n → RetH d n (fun v H' => ∃ (b : Addr) (f : Fac), v = .ref b ∧ FacAt H' b f ∧ FacOk c i t f) H5 R → te [some (V.ref d), some (.int (m : Int)), some (.int (c : Int)), some (.int (i : Int)), some (.bl pr), some (.int (z % 8)), some (.int (t : Int)), none, none, none, none, some (.ref o), some (.int w)] H5 R) →
          tLc (iRng1 (tCons (tC (.int (v % 4))) tNil)) (gName 12) tYes te [12] [some (V.ref d), some (.int (m : Int)), some (.int (c : Int)), some (.int (i : Int)), some (.bl pr), some (.int (z % 8)), some (.int (t : Int)), none, none, none, none, some (.ref o), none] H4 R := by
        intro R hor fin v H4 v0 hD4 hk4 te hte
        have w0 := Int.emod_nonneg v (show (4 : Int) ≠ 0 by decide)
        have w1 := Int.emod_lt_of_pos v (show (0 : Int) < 4 by decide)
        refine x_lcR1 (v % 4) (fun o k H' => FacsI H t c i d n o k H') (fun R r => r) (by omega) (by omega) (fun o ho => ⟨hD4.upd0 ho, kput hk4 (hk4.free hD4 ho), hD4.new ho, hD4.newN ho, [], [], upd_same, rfl, rfl, fun j x b h _ => by simp at h, fun f h => by simp at h⟩) (fun x => rfl) ?_ ?_
        · rintro o k H5 ho5 hk ⟨hD5, hk5, hod, hon, as, fs, hO, hal, hfl, hat, hok⟩
          refine hte _ _ _ hD5 ?_
          rintro _ H6 ⟨b, f, rfl, hf, hfo⟩ hD6 hk6
          have hO6 := hk6 _ _ hO hod
          refine ⟨_, hO6, lt_line (by rw [List.length_map]; omega), hD6.upd hod hon, kput (hk5.trans hk6) (hk4.free hD4 ho5), hod, hon, as ++ [b], fs ++ [f], by rw [upd_same, List.map_append]; rfl, by rw [List.length_append, hal]; rfl, by rw [List.length_append, hfl]; rfl, ?_, ?_⟩
          · intro j x b' e1 e2
            have hT : Tups H5 (upd H6 o (.lst (as.map V.ref ++ [V.ref b]))) := (keep_tups hk6 hD5).put (no_tupL hO6)
            have hT2 : Tups H6 (upd H6 o (.lst (as.map V.ref ++ [V.ref b]))) := (Tups.refl H6).put (no_tupL hO6)
            rcases snoc_at hfl e1 with ⟨h1, e1⟩ | ⟨rfl, rfl⟩
            · rcases snoc_at hal e2 with ⟨h2, e2⟩ | ⟨rfl, rfl⟩
              · exact (hat j x b' e1 e2).tups hT
              · omega
            · rcases snoc_at hal e2 with ⟨h2, e2⟩ | ⟨_, rfl⟩
              · omega
              · exact hf.tups hT2
          · intro x hx
            rcases List.mem_append.mp hx with hx | hx
            · exact hok x hx
            · rw [List.mem_singleton.mp hx]; exact hfo
        · rintro o H5 ho5 hI
          exact fin o _ H5 (by omega) hI
      have fin : ∀ (o : Addr) (k : Nat) (H' : Hp), k ≤ 3 → FacsI H t c i d n o k H' → ∃ o' : Addr, [some (V.ref d), some (.int (m : Int)), some (.int (c : Int)), some (.int (i : Int)), some (.bl pr), some (.int (z % 8)), some (.int (t : Int)), none, none, none, none, some (.ref o'), none] = [some (V.ref d), some (.int (m : Int)), some (.int (c : Int)), some (.int (i : Int)), some (.bl pr), some (.int (z % 8)), some (.int (t : Int)), none, none, none, none, some (.ref o), none] ∧ ∃ k, k ≤ 3 ∧ FacsI H t c i d n o' k H' := fun o k H' hk hI => ⟨o, rfl, k, hk, hI⟩
      walk_at "x"
      refine x_ite (fun h1 => ?_) (fun h1 => ?_)
      · walk_at "t"
        refine x_lcPre ?_
        walk_at "x"
        refine ⟨d, n, rfl, hD3, ?_⟩
        rintro _ H4 ⟨v, rfl, v0, v1⟩ hD4 hk4
        walk_at "x"
        refine body _ (.inl (by omega)) (fun o k H' hk hI => ?_) v H4 v0 hD4 (hk3.trans hk4) _ (fun w H5 R hD5 hR => ?_)
        · walk_at "x"
          exact fin o k H' hk hI
        · walk_at "x"
          exact ⟨d, n, t, c, i, rfl, htc, c60, i60, .inl (by omega), hD5, hR⟩
      · walk_at "x"
        refine x_ite (fun h2 => ?_) (fun h2 => ?_)
        · walk_at "x"
          refine x_lcPre ?_
          walk_at "x"
          refine ⟨d, n, rfl, hD3, ?_⟩
          rintro _ H4 ⟨v, rfl, v0, v1⟩ hD4 hk4
          walk_at "x"
          refine body _ (.inr (by omega)) (fun o k H' hk hI => ?_) v H4 v0 hD4 (hk3.trans hk4) _ (fun w H5 R hD5 hR => ?_)
          · walk_at "x"
            exact fin o k H' hk hI
          · walk_at "x"
            exact ⟨d, n, t, c, i, rfl, htc, c60, i60, .inr (by omega), hD5, hR⟩
        · walk_at "x"
          exact ⟨o, rfl, 0, by omega, hD3, hk3, hD2.new ho, hD2.newN ho, [], [], upd_same, rfl, rfl, fun j x b h _ => by simp at h, fun f h => by simp at h⟩
    clear hD3 hk3 ho
    rintro _ H4 ⟨o, rfl, k, hk, hD4, hk4, hod, hon, as, fs, hO, hal, hfl, hat, hok⟩
    walk_at "x"
    refine ⟨d, n, _, rfl, by omega, hD4, ?_⟩
    rintro _ H5 ⟨u, rfl, u0, u1⟩ hD5 hk5
    walk_at "x"
    refine x_tupL (sq_of (hk5 _ _ hO hod)) fun r hr0 => ?_
    walk_at "x"
    refine ⟨by show 4 ≤ sizeLine; decide, fun p hp => ?_⟩
    have hT : Tups H4 (upd (upd H5 r (.tup (as.map V.ref))) p (.tup [.str "add", .int (t : Int), .int u, .ref r])) := (keep_tups hk5 hD4).trans (Tups.same ((same_upd hr0).trans (same_upd hp)))
    exact q _ _ ⟨p, .add t u fs, rfl, ⟨r, as, upd_same, same_upd hp _ _ upd_same, by omega, fun j x b e1 e2 => (hat j x b e1 e2).tups hT⟩, ⟨htc, u0, u1, by omega, hok⟩⟩ ((hD5.upd0 hr0).upd0 hp) (kput (kput (hk4.trans hk5) (hk4.free hD4 (hk5.free hD5 hr0))) (hk4.free hD4 (hk5.free hD5 ((same_upd hr0).free hp))))


end
end Br
namespace Br
open PySem PySem.Spec PyProof.Rows L2
local macro_rules | `(tactic| walk_at "x1") => `(tactic| (with_reducible first
  | refine Br.x_seq ?_ | refine Br.x_set ?_ | refine Br.x_asg ?_ | refine Br.x_next ?_ | refine Br.x_ret ?_ | refine Br.x_retN ?_ | refine Br.x_drop ?_ | refine Br.x_if ?_ | refine Br.x_brk ?_ | refine Br.x_cont ?_
  | refine Br.x_c ?_ | refine Br.x_op ?_ | refine Br.x_un ?_ | refine Br.x_I0 ?_ | refine Br.x_U ?_ | refine Br.x_EqI ?_ | refine Br.x_NeI ?_ | refine Br.x_EqB ?_ | refine Br.x_iN ?_ | refine Br.x_int1 ?_ | refine Br.x_min2 ?_ | refine Br.x_max2 ?_ | refine Br.x_nN ?_ | refine Br.x_ifE ?_
  | refine Br.x_test (b := ()) ?_ | refine Br.x_tB ?_ | refine Br.x_bl ?_ | refine Br.x_and ?_ | refine Br.x_or ?_ | refine Br.x_not ?_ | refine Br.x_andV ?_ | refine Br.x_orV ?_ | refine Br.x_notV ?_ | refine Br.x_blP ?_
  | refine Br.x_nil ?_ | refine Br.x_cons ?_ | refine Br.x_call ?_ | refine Br.x_CB ?_ | refine Br.x_BM ?_ | refine Br.x_tup ?_ | refine Br.x_lst ?_ | refine Br.x_chain ?_ | refine Br.x_par ?_ | refine Br.x_gSub ?_ | refine Br.x_gName ?_ | refine Br.x_fld ?_ | refine Br.x_fldS ?_ | refine Br.x_match ?_ | refine Br.x_else ?_ | refine Br.x_noCase ?_))
local macro_rules | `(tactic| walk_at "xv") => `(tactic| ((with_reducible refine' Br.x_var ?hvar ?_); (case hvar => rfl)))
local macro_rules | `(tactic| walk_at "xd") => `(tactic| (dsimp only [List.set_cons_zero, List.set_cons_succ, List.cons_append, List.nil_append, List.append_nil]))
local macro_rules | `(tactic| walk_at "xi") => `(tactic| ((with_reducible refine Br.x_I ?hside ?_); (case hside => first | exact Br.mul_r (by decide) (by decide) | exact Br.mul_l (by decide) (by decide) | exact Br.mul_l (by omega) (by omega) | exact Br.mul_r (by omega) (by omega) | (show (0 : Int) < _; first | decide | omega) | exact ⟨by decide, by decide⟩ | exact ⟨by omega, by omega⟩ | exact ⟨by decide, by decide, by decide⟩)))
local macro_rules | `(tactic| walk_at "x") => `(tactic| (repeat (first | walk_at "x1" | walk_at "xv" | walk_at "xi" | walk_at "xd")))
local macro_rules | `(tactic| walk_at "start") => `(tactic| (simp only [L2.start, List.map_cons, List.map_nil, List.length_cons, List.length_nil, Nat.reduceAdd, Nat.reduceSub, List.replicate, List.cons_append, List.nil_append, List.append_nil]))
local macro_rules | `(tactic| walk_at "isi") => `(tactic| first
  | refine Br.x_isi (b := true) (.base (.int _)) (by decide +kernel) ?_ | refine Br.x_isi (b := false) (.base (.int _)) (by decide +kernel) ?_
  | refine Br.x_isi (b := true) (.base (.bl _)) (by decide +kernel) ?_ | refine Br.x_isi (b := false) (.base (.bl _)) (by decide +kernel) ?_
  | refine Br.x_isi (b := false) (.base .non) (by decide +kernel) ?_
  | refine Br.x_isi (b := true) (.base (.str _)) (by decide +kernel) ?_ | refine Br.x_isi (b := false) (.base (.str _)) (by decide +kernel) ?_
  | refine Br.x_isi (b := true) (.base (.tup (by assumption))) (by decide +kernel) ?_ | refine Br.x_isi (b := false) (.base (.tup (by assumption))) (by decide +kernel) ?_
  | refine Br.x_isi (b := true) (.base (.lst (by assumption))) (by decide +kernel) ?_ | refine Br.x_isi (b := false) (.base (.lst (by assumption))) (by decide +kernel) ?_)
local macro_rules | `(tactic| walk_at "f") => `(tactic| (refine L2.iteF ?_; walk_at "x"))
local macro_rules | `(tactic| walk_at "t") => `(tactic| (refine L2.iteT ?_; walk_at "x"))
local macro_rules | `(tactic| walk_at "is") => `(tactic| (walk_at "isi"; walk_at "x"))
local macro_rules | `(tactic| walk_at "xb") => `(tactic| (simp only [Br.bindS, List.set_cons_zero, List.set_cons_succ]; walk_at "x"))

section
variable {P : Program} {w : World} {K : PySem.W.Frag} {mg : Str → Option Value} {base : Heap}

open Br.F
def mdl (m c i : Int) (L : Addr) : List (Key × V) := [(.inr "modulus", .int m), (.inr "cells", .int c), (.inr "inputs", .int i), (.inr "steps", .ref L)]
theorem mdl_m {m c i : Int} {L : Addr} : valV (mdl m c i L) (.inr "modulus") = some (.int m) := rfl
theorem mdl_c {m c i : Int} {L : Addr} : valV (mdl m c i L) (.inr "cells") = some (.int c) := rfl
theorem mdl_i {m c i : Int} {L : Addr} : valV (mdl m c i L) (.inr "inputs") = some (.int i) := rfl
theorem mdl_s {m c i : Int} {L : Addr} : valV (mdl m c i L) (.inr "steps") = some (.ref L) := rfl
theorem mdl_mk {m c i : Int} {L : Addr} : mergeK [] (mdl m c i L) = mdl m c i L := rfl
section
variable {σ : L2.St} {H : Hp} {D : Ends} {Q : VK}
theorem x_disp {trs : List (TE × TE)} (h : ∀ p, H p = none → tPairs trs σ (upd H p (.dK [])) fun ps H2 => H2 p = some (.dK []) ∧ ∃ kvs : List (Key × V), ps = kvs.map (fun kv => (kV kv.1, kv.2)) ∧ kvs.length ≤ 15 ∧ Q (.ref p) (upd H2 p (.dK (mergeK [] kvs)))) : tDisp trs σ H Q := h
theorem x_pair0 {R : List (V × V) → Hp → Prop} (h : R [] H) : tPairs [] σ H R := h
theorem x_pair {R : List (V × V) → Hp → Prop} {tk tv : TE} {r : List (TE × TE)} (h : tk σ H fun x H1 => tv σ H1 fun y H2 => tPairs r σ H2 fun ps H3 => R ((x, y) :: ps) H3) : tPairs ((tk, tv) :: r) σ H R := h
theorem x_dgVC {i : Nat} {a : Addr} {z : Str} {v : V} {kvs : List (Key × V)} (hσ : σ[i]? = some (some (.ref a))) (hD : H a = some (.dK kvs)) (e : valV kvs (.inr z) = some v) (q : Q v H) : tDGet (tVar i) (tC (.str z)) σ H Q :=
  ⟨.ref a, hσ, a, v, rfl, .inl ⟨kvs, .inr z, .inl hD, rfl, e.symm⟩, q⟩
theorem x_make {C : Addr} {sp : Sp} {dvs : List V} {E : XK} {t : TA} (h : t σ H fun vs H1 => ∀ x dx, H1 x = none → H1 dx = none → dx ≠ x → sp (.ref x :: (vs ++ dvs)) (upd (upd H1 dx (.own x)) x (.ins C dx [])) (fun v H2 => v = .non ∧ Q (.ref x) H2) E) : tMake C sp dvs E t σ H Q := h
theorem x_meth {C : Addr} {m : Str} {sp : Sp} {dvs : List V} {E : XK} {ta : TE} {t : TA} (h : ta σ H fun x H1 => ∃ a dx fs, x = .ref a ∧ H1 a = some (.ins C dx fs) ∧ fs.lookup m = none ∧ t σ H1 fun vs H2 => sp (x :: (vs ++ dvs)) H2 Q E) : tMeth C m sp dvs E ta t σ H Q := h
end
/-- the law's model of a program -/
structure MdAt (H : Hp) (d D L : Addr) (as : List Addr) (ss : List Stp) (m c i : Nat) : Prop where
  dk : H D = some (.dK (mdl m c i L))
  lst : H L = some (.lst (as.map V.ref))
  ne : L ≠ d
  st : StpsAt H as ss
  ok : PrOk ss m c i
theorem MdAt.same {H H' : Hp} {d D L : Addr} {as : List Addr} {ss : List Stp} {m c i : Nat} (h : MdAt H d D L as ss m c i) (s : Same H H') : MdAt H' d D L as ss m c i := ⟨s _ _ h.dk, s _ _ h.lst, h.ne, h.st.tups (Tups.same s), h.ok⟩
theorem Keep.notL {d n b : Addr} {H H' : Hp} {o : HO} (k : Keep d H H') (h : Dr H d n) (e : H b = some o) (ho : ∀ xs, o ≠ .lst xs) : H' b = some o := by
  obtain ⟨_, _, h, _⟩ := h
  exact k _ _ e (ne_of e h (ho _))
theorem PrAt.keep {K : PySem.W.Frag} {C : Addr} {H H' : Hp} {d n p L : Addr} {as : List Addr} {ss : List Stp} {m c i : Nat} (h : PrAt K C H p L as ss m c i) (hL : L ≠ d) (hD : Dr H d n) (k : Keep d H H') : PrAt K C H' p L as ss m c i := by
  obtain ⟨dx, h1, h2⟩ := h.ob
  exact ⟨⟨dx, k.notL hD h1 (by intro _ z; cases z), h2⟩, k _ _ h.lst hL, h.st.tups (keep_tups k hD)⟩

theorem MdAt.keep {H H' : Hp} {d n D L : Addr} {as : List Addr} {ss : List Stp} {m c i : Nat} (h : MdAt H d D L as ss m c i) (hD : Dr H d n) (k : Keep d H H') : MdAt H' d D L as ss m c i :=
  ⟨k.notL hD h.dk (by intro _ z; cases z), k _ _ h.lst h.ne, h.ne, h.st.tups (keep_tups k hD), h.ok⟩

def StepsI (H0 : Hp) (m c i : Nat) (d nn o : Addr) (k : Nat) (H : Hp) : Prop := Dr H d nn ∧ Keep d H0 H ∧ o ≠ d ∧ o ≠ nn ∧ ∃ (as : List Addr) (ss : List Stp), H o = some (.lst (as.map V.ref)) ∧ StpsAt H as ss ∧ ss.length = k ∧ ∀ s, s ∈ ss → StpOk m c i s
def sp_law_program (K : PySem.W.Frag) : Sp := fun vs H Q _ => ∃ (d n : Addr) (mo : Nat), vs = [.ref d, .int (mo : Int)] ∧ mo ≤ 20000 ∧ Dr H d n ∧
  RetH d n (fun v H' => ∃ (D L : Addr) (as : List Addr) (ss : List Stp) (m c i : Nat), v = .ref D ∧ MdAt H' d D L as ss m c i ∧ ss.length ≤ mo) H Q
theorem ok_law_program (T : Txt K mg) : FnOk P w K mg base CX0 7 T.a_law_program T.fd_law_program ["draws", "most"] (sp_law_program K) := by
  refine T.F_law_program.ok sc_law_program (fun vs H Q E h => ?_) (fun cdv A outer s H vs Q E hr h => ?_)
  · obtain ⟨d, n, mo, rfl, _⟩ := h
    rfl
  · obtain ⟨d, n, mo, rfl, hmo, hD, q⟩ := h
    refine ⟨_, (pss_cons (ps_set (i := 2) sc_law_program.nd rfl (.inr rfl) (pe_cmpR op_eq (pe_op op_mod (pe_call (ok_law_draw T) (hr.mono (by decide)) (by rfl) T.g_law_draw T.F_law_draw.kp T.b_law_draw .nil pass0 (pa_cons (pv 0) pa_nil)) pe_int) pe_int (nomark _)))
      (pss_cons (ps_set (i := 3) sc_law_program.nd rfl (.inr rfl) (pe_call (ok_law_modulus T) (hr.mono (by decide)) (by rfl) T.g_law_modulus T.F_law_modulus.kp T.b_law_modulus .nil pass0 (pa_cons (pv 0) pa_nil)))
      (Evl.pss_cut (ps_if (pt_val (pv 2))
      (pss_one (ps_set (i := 3) sc_law_program.nd rfl (.inr rfl) (pe_call (ok_law_prime T) (hr.mono (by decide)) (by rfl) T.g_law_prime T.F_law_prime.kp T.b_law_prime .nil pass0 (pa_cons (pv 0) pa_nil))))
      pss_nil)
      (pss_cons (ps_set (i := 4) sc_law_program.nd rfl (.inr rfl) (pe_ix (r := rIxL K) ix_list (pe_lst (pa_cons pe_int (pa_cons pe_int (pa_cons pe_int (pa_cons pe_int (pa_cons pe_int (pa_cons pe_int pa_nil))))))) (pe_op op_mod (pe_call (ok_law_draw T) (hr.mono (by decide)) (by rfl) T.g_law_draw T.F_law_draw.kp T.b_law_draw .nil pass0 (pa_cons (pv 0) pa_nil)) pe_int) (fun _ _ => rfl)))
      (pss_cons (ps_set (i := 5) sc_law_program.nd rfl (.inr rfl) (pe_ix (r := rIxL K) ix_list (pe_lst (pa_cons pe_int (pa_cons pe_int (pa_cons pe_int (pa_cons pe_int pa_nil))))) (pe_op op_mod (pe_call (ok_law_draw T) (hr.mono (by decide)) (by rfl) T.g_law_draw T.F_law_draw.kp T.b_law_draw .nil pass0 (pa_cons (pv 0) pa_nil)) pe_int) (fun _ _ => rfl)))
      (pss_cons (ps_set (i := 6) sc_law_program.nd rfl (.inl rfl) (pe_op op_mod (pe_call (ok_law_draw T) (hr.mono (by decide)) (by rfl) T.g_law_draw T.F_law_draw.kp T.b_law_draw .nil pass0 (pa_cons (pv 0) pa_nil)) (pe_op op_add (pv 1) pe_int)))
      (pss_cons (ps_setLc (i := 7) (own := [("k", 8)]) (g := gName 8) (tt := tYes) rfl sc_law_program.nd rfl rfl (sw_true rfl rfl rfl (by decide +kernel)) (pi_range1 (by rfl) T.m_range (pa_cons (pv 6) pa_nil)) (blkOk_by (N := N_law_program) (sc := defScope s_law_program) (by decide +kernel)) (fun _ _ _ _ _ => (pg_name (i := 8) sc_law_program.nd rfl (Or.inl rfl))) (fun _ _ _ _ _ => pts_nil) (fun _ _ _ _ _ => (pe_call (ok_law_step T) hr (by rfl) T.g_law_step T.F_law_step.kp T.b_law_step .nil pass0 (pa_cons (pv 0) (pa_cons (pv 3) (pa_cons (pv 4) (pa_cons (pv 5) (pa_cons (pv 2) pa_nil))))))))
      (pss_one (ps_ret (pe_disp (pps_cons pe_str (pv 3) (pps_cons pe_str (pv 4) (pps_cons pe_str (pv 5) (pps_cons pe_str (pv 7) pps_nil)))) rfl rfl (fun h => nomatch h) (by decide))))))))))), ?_⟩
    walk_at "start"
    walk_at "x"
    refine ⟨d, n, rfl, hD, ?_⟩
    rintro _ H1 ⟨z, rfl, z0, z1⟩ hD1 hk1
    walk_at "x"
    generalize decide (z % 2 = 0) = b
    refine ⟨d, n, rfl, hD1, ?_⟩
    rintro _ H2 ⟨m0, rfl, m0l, m0u⟩ hD2 hk2
    have hk2 := hk1.trans hk2
    walk_at "x"
    refine x_cut (fun σ' H' => ∃ m : Nat, [some (V.ref d), some (.int (mo : Int)), some (.bl b), some (.int (m : Int)), none, none, none, none, none] = σ' ∧ Dr H' d n ∧ Keep d H H' ∧ 2 ≤ m ∧ m ≤ 1000000000 ∧ (b = true → IsPrime m)) ?_ ?_
    · walk_at "x"
      refine x_iteB (fun hb => ?_) (fun hb => ?_)
      · walk_at "x"
        refine ⟨d, n, rfl, hD2, ?_⟩
        rintro _ H3 ⟨m, rfl, hm, hm9⟩ hD3 hk3
        walk_at "x"
        exact ⟨m, rfl, hD3, hk2.trans hk3, hm.1, hm9, fun _ => hm⟩
      · walk_at "x"
        obtain ⟨m, rfl⟩ : ∃ m : Nat, m0 = (m : Int) := ⟨m0.toNat, by omega⟩
        exact ⟨m, rfl, hD2, hk2, by omega, by omega, fun h => by rw [hb] at h; cases h⟩
    rintro _ H3 ⟨m, rfl, hD3, hk3, m2, m9, hpr⟩
    walk_at "x"
    refine ⟨by show 6 ≤ sizeLine; decide, fun u hu => ?_⟩
    have hne := hD3.new hu
    have hk4 := kput (o := .lst [.int 1, .int 2, .int 3, .int 3, .int 4, .int 60]) hk3 (hk3.free hD3 hu)
    have hD4 := hD3.upd0 (o := .lst [.int 1, .int 2, .int 3, .int 3, .int 4, .int 60]) hu
    walk_at "x"
    refine ⟨d, n, rfl, hD4, ?_⟩
    rintro _ H5 ⟨y, rfl, y0, y1⟩ hD5 hk5
    walk_at "x"
    obtain ⟨g, hv, hm⟩ := at_lt (xs := [.int 1, .int 2, .int 3, .int 3, .int 4, .int 60]) (i := y % 6) (Int.emod_nonneg _ (by decide)) (Int.emod_lt_of_pos y (show (0 : Int) < 6 by decide))
    refine x_ixL (sq_of (hk5 _ _ upd_same hne)) hv ?_
    have hk5 := hk4.trans hk5
    obtain ⟨c, rfl, c1, c60⟩ : ∃ c : Nat, g = .int (c : Int) ∧ 1 ≤ c ∧ c ≤ 60 := by
      simp only [List.mem_cons, List.not_mem_nil, or_false] at hm
      rcases hm with rfl | rfl | rfl | rfl | rfl | rfl
      · exact ⟨1, rfl, by decide, by decide⟩
      · exact ⟨2, rfl, by decide, by decide⟩
      · exact ⟨3, rfl, by decide, by decide⟩
      · exact ⟨3, rfl, by decide, by decide⟩
      · exact ⟨4, rfl, by decide, by decide⟩
      · exact ⟨60, rfl, by decide, by decide⟩
    clear hu hne hv hm
    walk_at "x"
    refine ⟨by show 4 ≤ sizeLine; decide, fun u hu => ?_⟩
    have hne := hD5.new hu
    have hk6 := kput (o := .lst [.int 0, .int 1, .int 2, .int 60]) hk5 (hk5.free hD5 hu)
    have hD6 := hD5.upd0 (o := .lst [.int 0, .int 1, .int 2, .int 60]) hu
    walk_at "x"
    refine ⟨d, n, rfl, hD6, ?_⟩
    rintro _ H7 ⟨w, rfl, w0, w1⟩ hD7 hk7
    walk_at "x"
    obtain ⟨g, hv, hm⟩ := at_lt (xs := [.int 0, .int 1, .int 2, .int 60]) (i := w % 4) (Int.emod_nonneg _ (by decide)) (Int.emod_lt_of_pos w (show (0 : Int) < 4 by decide))
    refine x_ixL (sq_of (hk7 _ _ upd_same hne)) hv ?_
    have hk7 := hk6.trans hk7
    obtain ⟨i, rfl, i60⟩ : ∃ i : Nat, g = .int (i : Int) ∧ i ≤ 60 := by
      simp only [List.mem_cons, List.not_mem_nil, or_false] at hm
      rcases hm with rfl | rfl | rfl | rfl
      · exact ⟨0, rfl, by decide⟩
      · exact ⟨1, rfl, by decide⟩
      · exact ⟨2, rfl, by decide⟩
      · exact ⟨60, rfl, by decide⟩
    clear hu hne hv hm
    walk_at "x"
    refine ⟨d, n, rfl, hD7, ?_⟩
    rintro _ H8 ⟨x, rfl, x0, x1⟩ hD8 hk8
    have hk8 := hk7.trans hk8
    walk_at "x"
    obtain ⟨N, eN, hN⟩ := cast_lt (x := x % ((mo : Int) + 1)) (c := mo + 1) (Int.emod_nonneg x (show (mo : Int) + 1 ≠ 0 by omega)) (by have := Int.emod_lt_of_pos x (show (0 : Int) < (mo : Int) + 1 by omega); omega)
    rw [eN]
    refine x_lcR1 (N : Int) (fun o k H' => StepsI H m c i d n o k H') (fun R r => ⟨_, rfl, r⟩) (by omega) (by omega) (fun o ho => ⟨hD8.upd0 ho, kput hk8 (hk8.free hD8 ho), hD8.new ho, hD8.newN ho, [], [], upd_same, ⟨rfl, fun j x b h _ => by simp at h⟩, rfl, fun f h => by simp at h⟩) (fun x => rfl) ?_ ?_
    · rintro o k H9 ho9 hk ⟨hD9, hk9, hod, hon, as, ss, hO, hst, hsl, hok⟩
      walk_at "x"
      refine ⟨d, n, m, c, i, b, rfl, m2, m9, c1, c60, i60, hpr, hD9, ?_⟩
      rintro _ HA ⟨a, s, rfl, hs, hso⟩ hDA hkA
      have hOA := hkA _ _ hO hod
      have hT : Tups H9 (upd HA o (.lst (as.map V.ref ++ [V.ref a]))) := (keep_tups hkA hD9).put (no_tupL hOA)
      have hT2 : Tups HA (upd HA o (.lst (as.map V.ref ++ [V.ref a]))) := (Tups.refl HA).put (no_tupL hOA)
      refine ⟨_, hOA, lt_line (by rw [List.length_map, hst.1]; omega), hDA.upd hod hon, kput (hk9.trans hkA) (hk8.free hD8 ho9), hod, hon, as ++ [a], ss ++ [s], by rw [upd_same, List.map_append]; rfl, (hst.tups hT).snoc (hs.tups hT2), by rw [List.length_append, hsl]; rfl, ?_⟩
      intro x hx
      rcases List.mem_append.mp hx with hx | hx
      · exact hok x hx
      · rw [List.mem_singleton.mp hx]; exact hso
    · rintro o H9 ho9 ⟨hD9, hk9, hod, hon, as, ss, hO, hst, hsl, hok⟩
      walk_at "x"
      refine x_disp fun p hp => ?_
      refine x_pair ?_
      walk_at "x"
      refine x_pair ?_
      walk_at "x"
      refine x_pair ?_
      walk_at "x"
      refine x_pair ?_
      walk_at "x"
      refine x_pair0 ?_
      refine ⟨upd_same, mdl m c i o, rfl, Nat.le_of_ble_eq_true rfl, ?_⟩
      rw [mdl_mk]
      have hpd := hD9.new hp
      have hpn := hD9.newN hp
      have hpo : o ≠ p := ne_of_none hO hp
      have hT : Tups H9 (upd (upd H9 p (.dK [])) p (.dK (mdl m c i o))) := (Tups.same (same_upd (o := .dK []) hp)).put (fun xs e => by rw [upd_same] at e; cases e)
      exact q _ _ ⟨p, o, as, ss, m, c, i, rfl, ⟨upd_same, by rw [upd_ne hpo, upd_ne hpo]; exact hO, hod, hst.tups hT, ⟨m2, m9, c1, c60, i60, by omega, hok⟩⟩, by omega⟩ ((hD9.upd hpd hpn).upd hpd hpn) (kput (kput hk9 (hk9.free hD9 hp)) (hk9.free hD9 hp))


def sp_law_made (C : Addr) (K : PySem.W.Frag) : Sp := fun vs H Q _ => ∃ (d D L : Addr) (as : List Addr) (ss : List Stp) (m c i : Nat), vs = [.ref D] ∧ MdAt H d D L as ss m c i ∧
  ∀ (p L' : Addr) (H' : Hp), H L' = none → Same H H' → PrAt K C H' p L' as ss m c i → Q (.ref p) H'
theorem ok_law_made (T : Txt K mg) : FnOk P w K mg base CX0 8 T.a_law_made T.fd_law_made ["model"] (sp_law_made T.C_Program K) := by
  refine T.F_law_made.ok sc_law_made (fun vs H Q E h => ?_) (fun cdv A outer s H vs Q E hr h => ?_)
  · obtain ⟨d, D, L, as, ss, m, c, i, rfl, _⟩ := h
    rfl
  · obtain ⟨d, D, L, as, ss, m, c, i, rfl, hM, q⟩ := h
    have hC : PC K T.C_Program := ⟨T.cl_Program, T.na_Program_modulus, T.na_Program_cells, T.na_Program_inputs, T.na_Program_steps⟩
    refine ⟨_, (pss_one (ps_ret (pe_make T.mk_Program (ok_Program___init T) (hr.mono (by decide)) (by rfl) T.gc_Program T.b_Program___init .nil pass0 (pa_cons (pe_dget (hu_of hr) (pv 0) pe_str (fun _ _ => rfl)) (pa_cons (pe_dget (hu_of hr) (pv 0) pe_str (fun _ _ => rfl)) (pa_cons (pe_dget (hu_of hr) (pv 0) pe_str (fun _ _ => rfl)) (pa_cons (pe_callTy (T := "list") (r := rListOf K) cr_list_of (by rfl) T.m_list (by decide +kernel) (pa_cons (pe_dget (hu_of hr) (pv 0) pe_str (fun _ _ => rfl)) pa_nil)) pa_nil))))))), ?_⟩
    walk_at "start"
    walk_at "x"
    refine x_make ?_
    walk_at "x"
    refine x_dgVC rfl hM.dk mdl_m ?_
    walk_at "x"
    refine x_dgVC rfl hM.dk mdl_c ?_
    walk_at "x"
    refine x_dgVC rfl hM.dk mdl_i ?_
    walk_at "x"
    refine x_dgVC rfl hM.dk mdl_s ?_
    walk_at "x"
    refine x_listL (sq_of hM.lst) fun L0 hL0 => ?_
    walk_at "x"
    intro x dx hx hdx hne
    walk_at "x"
    have s0 : Same H (upd H L0 (.lst (as.map V.ref))) := same_upd hL0
    have hl0 : (upd H L0 (.lst (as.map V.ref))) L0 = some (.lst (as.map V.ref)) := upd_same
    generalize upd H L0 (.lst (as.map V.ref)) = H1 at s0 hl0 hx hdx
    have s1 : ∀ b o, H1 b = some o → (upd (upd H1 dx (.own x)) x (.ins T.C_Program dx [])) b = some o := fun b o e => by
      rw [upd_ne (ne_of_none e hx), upd_ne (ne_of_none e hdx)]
      exact e
    refine ⟨x, T.C_Program, dx, L0, as, ss, m, c, i, rfl, upd_same, hC, s1 _ _ hl0, hM.st.tups (fun b xs e => s1 _ _ (s0 _ _ e)), hM.ok, fun L' H' hL' keep hP => ⟨rfl, ?_⟩⟩
    have s2 : Same H H' := fun b o e => keep b o (s1 _ _ (s0 _ _ e)) (ne_of_none (s0 _ _ e) hx)
    refine q x L' H' ?_ s2 hP
    cases e : H L' with
    | none => rfl
    | some o =>
      rw [s1 _ _ (s0 _ _ e)] at hL'
      cases hL'


def sp_law_memory (K : PySem.W.Frag) : Sp := fun vs H Q _ => ∃ (d n D L : Addr) (as : List Addr) (ss : List Stp) (m c i : Nat), vs = [.ref d, .ref D] ∧ MdAt H d D L as ss m c i ∧ Dr H d n ∧
  ∀ (l : Addr) (xs : List Int) (H' : Hp), H l = none → l ≠ d → H' l = some (.lst (xs.map V.int)) → Mem m c xs → Dr H' d n → Keep d H H' → Q (.ref l) H'
theorem ok_law_memory (T : Txt K mg) : FnOk P w K mg base CX0 5 T.a_law_memory T.fd_law_memory ["draws", "model"] (sp_law_memory K) := by
  refine T.F_law_memory.ok sc_law_memory (fun vs H Q E h => ?_) (fun cdv A outer s H vs Q E hr h => ?_)
  · obtain ⟨d, n, D, L, as, ss, m, c, i, rfl, _⟩ := h
    rfl
  · obtain ⟨d, n, D, L, as, ss, m, c, i, rfl, hM, hD, q⟩ := h
    have m2 := hM.ok.m2
    have c60 := hM.ok.c60
    refine ⟨_, (pss_one (ps_ret (pe_lc (own := [("k", 2)]) (g := gName 2) (tt := tYes) rfl sc_law_memory.nd (pi_range1 (by rfl) T.m_range (pa_cons (pe_dget (hu_of hr) (pv 1) pe_str (fun _ _ => rfl)) pa_nil)) (blkOk_by (N := N_law_memory) (sc := defScope s_law_memory) (by decide +kernel)) (fun _ _ _ _ _ => (pg_name (i := 2) sc_law_memory.nd rfl (Or.inl rfl))) (fun _ _ _ _ _ => pts_nil) (fun _ _ _ _ _ => (pe_call (ok_law_number T) hr (by rfl) T.g_law_number T.F_law_number.kp T.b_law_number .nil pass0 (pa_cons (pv 0) (pa_cons (pe_dget (hu_of hr) (pv 1) pe_str (fun _ _ => rfl)) pa_nil))))))), ?_⟩
    walk_at "start"
    walk_at "x"
    refine x_lcR1 (c : Int) (fun o k H' => Dr H' d n ∧ Keep d H H' ∧ o ≠ d ∧ o ≠ n ∧ ∃ xs : List Int, H' o = some (.lst (xs.map V.int)) ∧ xs.length = k ∧ Rg 0 m xs) (fun R r => x_dgVC rfl hM.dk mdl_c r) (by omega) (by omega) (fun o ho => ⟨hD.upd0 ho, Same.keep (same_upd ho), hD.new ho, hD.newN ho, [], upd_same, rfl, .nil⟩) (fun x => rfl) ?_ ?_
    · rintro o k H1 ho hk ⟨hD1, hk1, hod, hon, xs, hO, hl, hr⟩
      walk_at "x"
      have hM1 := hM.keep hD hk1
      refine x_dgVC rfl hM1.dk mdl_m ?_
      walk_at "x"
      refine ⟨d, n, _, rfl, by omega, hD1, ?_⟩
      rintro _ H2 ⟨z, rfl, z0, z1⟩ hD2 hk2
      exact ⟨_, hk2 _ _ hO hod, lt_line (by rw [List.length_map]; omega), hD2.upd hod hon, kput (hk1.trans hk2) ho, hod, hon, xs ++ [z], map_app, by rw [List.length_append, hl]; rfl, hr.snoc z0 z1⟩
    · rintro o H1 ho ⟨hD1, hk1, hod, hon, xs, hO, hl, hr⟩
      exact q o xs H1 ho hod hO ⟨by omega, hr⟩ hD1 hk1


def sp_law_given (K : PySem.W.Frag) : Sp := fun vs H Q _ => ∃ (d n D L : Addr) (as : List Addr) (ss : List Stp) (m c i : Nat), vs = [.ref d, .ref D] ∧ MdAt H d D L as ss m c i ∧ Dr H d n ∧
  ∀ (l : Addr) (xs : List Int) (H' : Hp), H l = none → l ≠ d → H' l = some (.lst (xs.map V.int)) → Mem m i xs → Dr H' d n → Keep d H H' → Q (.ref l) H'
theorem ok_law_given (T : Txt K mg) : FnOk P w K mg base CX0 5 T.a_law_given T.fd_law_given ["draws", "model"] (sp_law_given K) := by
  refine T.F_law_given.ok sc_law_given (fun vs H Q E h => ?_) (fun cdv A outer s H vs Q E hr h => ?_)
  · obtain ⟨d, n, D, L, as, ss, m, c, i, rfl, _⟩ := h
    rfl
  · obtain ⟨d, n, D, L, as, ss, m, c, i, rfl, hM, hD, q⟩ := h
    have m2 := hM.ok.m2
    have i60 := hM.ok.i60
    refine ⟨_, (pss_one (ps_ret (pe_lc (own := [("k", 2)]) (g := gName 2) (tt := tYes) rfl sc_law_given.nd (pi_range1 (by rfl) T.m_range (pa_cons (pe_dget (hu_of hr) (pv 1) pe_str (fun _ _ => rfl)) pa_nil)) (blkOk_by (N := N_law_given) (sc := defScope s_law_given) (by decide +kernel)) (fun _ _ _ _ _ => (pg_name (i := 2) sc_law_given.nd rfl (Or.inl rfl))) (fun _ _ _ _ _ => pts_nil) (fun _ _ _ _ _ => (pe_call (ok_law_number T) hr (by rfl) T.g_law_number T.F_law_number.kp T.b_law_number .nil pass0 (pa_cons (pv 0) (pa_cons (pe_dget (hu_of hr) (pv 1) pe_str (fun _ _ => rfl)) pa_nil))))))), ?_⟩
    walk_at "start"
    walk_at "x"
    refine x_lcR1 (i : Int) (fun o k H' => Dr H' d n ∧ Keep d H H' ∧ o ≠ d ∧ o ≠ n ∧ ∃ xs : List Int, H' o = some (.lst (xs.map V.int)) ∧ xs.length = k ∧ Rg 0 m xs) (fun R r => x_dgVC rfl hM.dk mdl_i r) (by omega) (by omega) (fun o ho => ⟨hD.upd0 ho, Same.keep (same_upd ho), hD.new ho, hD.newN ho, [], upd_same, rfl, .nil⟩) (fun x => rfl) ?_ ?_
    · rintro o k H1 ho hk ⟨hD1, hk1, hod, hon, xs, hO, hl, hr⟩
      walk_at "x"
      have hM1 := hM.keep hD hk1
      refine x_dgVC rfl hM1.dk mdl_m ?_
      walk_at "x"
      refine ⟨d, n, _, rfl, by omega, hD1, ?_⟩
      rintro _ H2 ⟨z, rfl, z0, z1⟩ hD2 hk2
      exact ⟨_, hk2 _ _ hO hod, lt_line (by rw [List.length_map]; omega), hD2.upd hod hon, kput (hk1.trans hk2) ho, hod, hon, xs ++ [z], map_app, by rw [List.length_append, hl]; rfl, hr.snoc z0 z1⟩
    · rintro o H1 ho ⟨hD1, hk1, hod, hon, xs, hO, hl, hr⟩
      exact q o xs H1 ho hod hO ⟨by omega, hr⟩ hD1 hk1


end
end Br
namespace Br
open PySem PySem.Spec PyProof.Rows L2
local macro_rules | `(tactic| walk_at "x1") => `(tactic| (with_reducible first
  | refine Br.x_seq ?_ | refine Br.x_set ?_ | refine Br.x_asg ?_ | refine Br.x_next ?_ | refine Br.x_ret ?_ | refine Br.x_retN ?_ | refine Br.x_drop ?_ | refine Br.x_if ?_ | refine Br.x_brk ?_ | refine Br.x_cont ?_
  | refine Br.x_c ?_ | refine Br.x_op ?_ | refine Br.x_un ?_ | refine Br.x_I0 ?_ | refine Br.x_U ?_ | refine Br.x_EqI ?_ | refine Br.x_NeI ?_ | refine Br.x_EqB ?_ | refine Br.x_iN ?_ | refine Br.x_int1 ?_ | refine Br.x_min2 ?_ | refine Br.x_max2 ?_ | refine Br.x_nN ?_ | refine Br.x_ifE ?_
  | refine Br.x_test (b := ()) ?_ | refine Br.x_tB ?_ | refine Br.x_bl ?_ | refine Br.x_and ?_ | refine Br.x_or ?_ | refine Br.x_not ?_ | refine Br.x_andV ?_ | refine Br.x_orV ?_ | refine Br.x_notV ?_ | refine Br.x_blP ?_
  | refine Br.x_nil ?_ | refine Br.x_cons ?_ | refine Br.x_call ?_ | refine Br.x_CB ?_ | refine Br.x_BM ?_ | refine Br.x_tup ?_ | refine Br.x_lst ?_ | refine Br.x_chain ?_ | refine Br.x_par ?_ | refine Br.x_gSub ?_ | refine Br.x_gName ?_ | refine Br.x_fld ?_ | refine Br.x_fldS ?_ | refine Br.x_match ?_ | refine Br.x_else ?_ | refine Br.x_noCase ?_))
local macro_rules | `(tactic| walk_at "xv") => `(tactic| ((with_reducible refine' Br.x_var ?hvar ?_); (case hvar => rfl)))
local macro_rules | `(tactic| walk_at "xd") => `(tactic| (dsimp only [List.set_cons_zero, List.set_cons_succ, List.cons_append, List.nil_append, List.append_nil]))
local macro_rules | `(tactic| walk_at "xi") => `(tactic| ((with_reducible refine Br.x_I ?hside ?_); (case hside => first | exact Br.mul_r (by decide) (by decide) | exact Br.mul_l (by decide) (by decide) | exact Br.mul_l (by omega) (by omega) | exact Br.mul_r (by omega) (by omega) | (show (0 : Int) < _; first | decide | omega) | exact ⟨by decide, by decide⟩ | exact ⟨by omega, by omega⟩ | exact ⟨by decide, by decide, by decide⟩)))
local macro_rules | `(tactic| walk_at "x") => `(tactic| (repeat (first | walk_at "x1" | walk_at "xv" | walk_at "xi" | walk_at "xd")))
local macro_rules | `(tactic| walk_at "start") => `(tactic| (simp only [L2.start, List.map_cons, List.map_nil, List.length_cons, List.length_nil, Nat.reduceAdd, Nat.reduceSub, List.replicate, List.cons_append, List.nil_append, List.append_nil]))
local macro_rules | `(tactic| walk_at "isi") => `(tactic| first
  | refine Br.x_isi (b := true) (.base (.int _)) (by decide +kernel) ?_ | refine Br.x_isi (b := false) (.base (.int _)) (by decide +kernel) ?_
  | refine Br.x_isi (b := true) (.base (.bl _)) (by decide +kernel) ?_ | refine Br.x_isi (b := false) (.base (.bl _)) (by decide +kernel) ?_
  | refine Br.x_isi (b := false) (.base .non) (by decide +kernel) ?_
  | refine Br.x_isi (b := true) (.base (.str _)) (by decide +kernel) ?_ | refine Br.x_isi (b := false) (.base (.str _)) (by decide +kernel) ?_
  | refine Br.x_isi (b := true) (.base (.tup (by assumption))) (by decide +kernel) ?_ | refine Br.x_isi (b := false) (.base (.tup (by assumption))) (by decide +kernel) ?_
  | refine Br.x_isi (b := true) (.base (.lst (by assumption))) (by decide +kernel) ?_ | refine Br.x_isi (b := false) (.base (.lst (by assumption))) (by decide +kernel) ?_)
local macro_rules | `(tactic| walk_at "f") => `(tactic| (refine L2.iteF ?_; walk_at "x"))
local macro_rules | `(tactic| walk_at "t") => `(tactic| (refine L2.iteT ?_; walk_at "x"))
local macro_rules | `(tactic| walk_at "is") => `(tactic| (walk_at "isi"; walk_at "x"))
local macro_rules | `(tactic| walk_at "xb") => `(tactic| (simp only [Br.bindS, List.set_cons_zero, List.set_cons_succ]; walk_at "x"))

section
variable {P : Program} {w : World} {K : PySem.W.Frag} {mg : Str → Option Value} {base : Heap}

open Br.F


/-- a list of values of any kind, or a tuple; apart from the draws -/
inductive NumsAt (d : Addr) (H : Hp) : V → Option (List V) → Prop
  | lst (l : Addr) (xs : List V) (h : H l = some (.lst xs)) (hd : l ≠ d) (hn : xs.length ≤ 200) (ho : ∀ x, x ∈ xs → Odd H x ∧ x ≠ .ref d) : NumsAt d H (.ref l) (some xs)
  | tup (l : Addr) (xs : List V) (h : H l = some (.tup xs)) : NumsAt d H (.ref l) none
theorem Odd.keep {d : Addr} {H H' : Hp} {v : V} (h : Odd H v) (hv : v ≠ .ref d) (k : Keep d H H') : Odd H' v := by
  cases h with
  | int i => exact .int i
  | bl b => exact .bl b
  | non => exact .non
  | str x => exact .str x
  | tup a xs h => exact .tup a xs (k _ _ h fun e => hv (by rw [e]))
  | lst a xs h => exact .lst a xs (k _ _ h fun e => hv (by rw [e]))
theorem NumsAt.keep {d n : Addr} {H H' : Hp} {v : V} {o : Option (List V)} (h : NumsAt d H v o) (hD : Dr H d n) (k : Keep d H H') : NumsAt d H' v o := by
  cases h with
  | lst l xs h hd hn ho => exact .lst l xs (k _ _ h hd) hd hn fun x hx => ⟨(ho x hx).1.keep (ho x hx).2 k, (ho x hx).2⟩
  | tup l xs h =>
    obtain ⟨_, _, h2, _⟩ := hD
    exact .tup l xs (k _ _ h (ne_of h h2 (by intro z; cases z)))
theorem NumsAt.ints {d l : Addr} {H : Hp} {ns : List Int} (h : H l = some (.lst (ns.map V.int))) (hd : l ≠ d) (hn : ns.length ≤ 100) : NumsAt d H (.ref l) (some (ns.map V.int)) :=
  .lst l _ h hd (by rw [List.length_map]; omega) fun x hx => by
    obtain ⟨z, _, rfl⟩ := List.mem_map.mp hx
    exact ⟨.int z, by intro e; cases e⟩
/-- do they belong to a program -/
def belF (o : Option (List V)) (n m : Int) : Bool := match o with
  | some xs => decide ((xs.length : Int) = n) && xs.all fun x => isB x m
  | none => false



end
end Br
namespace Br
open PySem PySem.Spec PyProof.Rows L2
local macro_rules | `(tactic| walk_at "x1") => `(tactic| (with_reducible first
  | refine Br.x_seq ?_ | refine Br.x_set ?_ | refine Br.x_asg ?_ | refine Br.x_next ?_ | refine Br.x_ret ?_ | refine Br.x_retN ?_ | refine Br.x_drop ?_ | refine Br.x_if ?_ | refine Br.x_brk ?_ | refine Br.x_cont ?_
  | refine Br.x_c ?_ | refine Br.x_op ?_ | refine Br.x_un ?_ | refine Br.x_I0 ?_ | refine Br.x_U ?_ | refine Br.x_EqI ?_ | refine Br.x_NeI ?_ | refine Br.x_EqB ?_ | refine Br.x_iN ?_ | refine Br.x_int1 ?_ | refine Br.x_min2 ?_ | refine Br.x_max2 ?_ | refine Br.x_nN ?_ | refine Br.x_ifE ?_
  | refine Br.x_test (b := ()) ?_ | refine Br.x_tB ?_ | refine Br.x_bl ?_ | refine Br.x_and ?_ | refine Br.x_or ?_ | refine Br.x_not ?_ | refine Br.x_andV ?_ | refine Br.x_orV ?_ | refine Br.x_notV ?_ | refine Br.x_blP ?_
  | refine Br.x_nil ?_ | refine Br.x_cons ?_ | refine Br.x_call ?_ | refine Br.x_CB ?_ | refine Br.x_BM ?_ | refine Br.x_tup ?_ | refine Br.x_lst ?_ | refine Br.x_chain ?_ | refine Br.x_par ?_ | refine Br.x_gSub ?_ | refine Br.x_gName ?_ | refine Br.x_fld ?_ | refine Br.x_fldS ?_ | refine Br.x_match ?_ | refine Br.x_else ?_ | refine Br.x_noCase ?_))
local macro_rules | `(tactic| walk_at "xv") => `(tactic| ((with_reducible refine' Br.x_var ?hvar ?_); (case hvar => rfl)))
local macro_rules | `(tactic| walk_at "xd") => `(tactic| (dsimp only [List.set_cons_zero, List.set_cons_succ, List.cons_append, List.nil_append, List.append_nil]))
local macro_rules | `(tactic| walk_at "xi") => `(tactic| ((with_reducible refine Br.x_I ?hside ?_); (case hside => first | exact Br.mul_r (by decide) (by decide) | exact Br.mul_l (by decide) (by decide) | exact Br.mul_l (by omega) (by omega) | exact Br.mul_r (by omega) (by omega) | (show (0 : Int) < _; first | decide | omega) | exact ⟨by decide, by decide⟩ | exact ⟨by omega, by omega⟩ | exact ⟨by decide, by decide, by decide⟩)))
local macro_rules | `(tactic| walk_at "x") => `(tactic| (repeat (first | walk_at "x1" | walk_at "xv" | walk_at "xi" | walk_at "xd")))
local macro_rules | `(tactic| walk_at "start") => `(tactic| (simp only [L2.start, List.map_cons, List.map_nil, List.length_cons, List.length_nil, Nat.reduceAdd, Nat.reduceSub, List.replicate, List.cons_append, List.nil_append, List.append_nil]))
local macro_rules | `(tactic| walk_at "isi") => `(tactic| first
  | refine Br.x_isi (b := true) (.base (.int _)) (by decide +kernel) ?_ | refine Br.x_isi (b := false) (.base (.int _)) (by decide +kernel) ?_
  | refine Br.x_isi (b := true) (.base (.bl _)) (by decide +kernel) ?_ | refine Br.x_isi (b := false) (.base (.bl _)) (by decide +kernel) ?_
  | refine Br.x_isi (b := false) (.base .non) (by decide +kernel) ?_
  | refine Br.x_isi (b := true) (.base (.str _)) (by decide +kernel) ?_ | refine Br.x_isi (b := false) (.base (.str _)) (by decide +kernel) ?_
  | refine Br.x_isi (b := true) (.base (.tup (by assumption))) (by decide +kernel) ?_ | refine Br.x_isi (b := false) (.base (.tup (by assumption))) (by decide +kernel) ?_
  | refine Br.x_isi (b := true) (.base (.lst (by assumption))) (by decide +kernel) ?_ | refine Br.x_isi (b := false) (.base (.lst (by assumption))) (by decide +kernel) ?_)
local macro_rules | `(tactic| walk_at "f") => `(tactic| (refine L2.iteF ?_; walk_at "x"))
local macro_rules | `(tactic| walk_at "t") => `(tactic| (refine L2.iteT ?_; walk_at "x"))
local macro_rules | `(tactic| walk_at "is") => `(tactic| (walk_at "isi"; walk_at "x"))
local macro_rules | `(tactic| walk_at "xb") => `(tactic| (simp only [Br.bindS, List.set_cons_zero, List.set_cons_succ]; walk_at "x"))

section
variable {P : Program} {w : World} {K : PySem.W.Frag} {mg : Str → Option Value} {base : Heap}

open Br.F
theorem Mem.odd {m n : Nat} {xs : List Int} (h : Mem m n xs) : (decide (((xs.map V.int).length : Int) = (n : Int)) && (xs.map V.int).all fun x => isB x (m : Int)) = true := by
  rw [List.length_map, h.len, decide_eq_true rfl, Bool.true_and, List.all_eq_true]
  intro x hx
  obtain ⟨z, hz, rfl⟩ := List.mem_map.mp hx
  exact isB_int (h.rg z hz).1 (h.rg z hz).2
theorem applyC_snoc {cs : List (Nat × Int)} {x : Nat × Int} {mv : List Int} : applyC (cs ++ [x]) mv = (applyC cs mv).set x.1 x.2 := by
  unfold applyC
  rw [List.foldl_append]
  rfl
theorem applyC_len {cs : List (Nat × Int)} : ∀ {mv : List Int}, (applyC cs mv).length = mv.length := by
  induction cs with
  | nil => intro mv; rfl
  | cons x cs ih => intro mv; exact ih.trans (List.length_set ..)
theorem map_set {xs : List Int} {i : Nat} {z : Int} : (xs.map V.int).set i (.int z) = (xs.set i z).map V.int := by rw [List.map_set]


def sp_performed (K : PySem.W.Frag) : Sp := fun vs H Q _ => ∃ (L mo io : Addr) (as : List Addr) (ss : List Stp) (m c i : Nat) (mv iv : List Int), vs = [.ref L, .ref mo, .ref io, .int (m : Int)] ∧ SqL K H L (as.map V.ref) ∧ StpsAt H as ss ∧ PrOk ss m c i ∧ SqL K H mo (mv.map V.int) ∧ H io = some (.lst (iv.map V.int)) ∧ Mem m c mv ∧ Mem m i iv ∧
  ∀ l H', H l = none → Same H H' → H' l = some (.lst ((runF m iv ss mv).map V.int)) → Q (.ref l) H'
theorem ok_performed (T : Txt K mg) : FnOk P w K mg base CX0 5 T.a_performed T.fd_performed ["steps", "memory", "given", "modulus"] (sp_performed K) := by
  refine T.F_performed.ok sc_performed (fun vs H Q E h => ?_) (fun cdv A outer s H vs Q E hr h => ?_)
  · obtain ⟨L, mo, io, as, ss, m, c, i, mv, iv, rfl, _⟩ := h
    rfl
  · obtain ⟨L, mo, io, as, ss, m, c, i, mv, iv, rfl, hL, hst, ok, hm, hi, mm, mi, q⟩ := h
    have hm1 : 1 ≤ m := Nat.le_trans (by decide) ok.m2
    have m2 := ok.m2
    have m9 := ok.m9
    have c60 := ok.c60
    have i60 := ok.i60
    refine ⟨_, (pss_cons (ps_set (i := 4) sc_performed.nd rfl (.inl rfl) (pe_callTy (T := "list") (r := rListOf K) cr_list_of (by rfl) T.m_list (by decide +kernel) (pa_cons (pv 1) pa_nil)))
      (pss_cons (ps_for PassesOwn.never rfl (pi_list (pv 0)) (pg_name (i := 5) sc_performed.nd rfl (Or.inl rfl))
      (pss_cons (ps_set (i := 6) sc_performed.nd rfl (.inl rfl) (pe_call (ok_changes T) hr (by rfl) T.g_changes T.F_changes.kp T.b_changes .nil pass0 (pa_cons (pv 5) (pa_cons (pv 4) (pa_cons (pv 2) (pa_cons (pv 3) pa_nil))))))
      (pss_one (ps_for PassesOwn.never rfl (pi_list (pv 6)) (pg_tup rfl (pgs_cons (pg_name (i := 7) sc_performed.nd rfl (Or.inl rfl)) (pgs_cons (pg_name (i := 8) sc_performed.nd rfl (Or.inl rfl)) pgs_nil)))
      (pss_one (ps_asg (pv 8) (pg_sub (pv 4) (pv 7) set_list)))))))
      (pss_one (ps_ret (pv 4))))), ?_⟩
    walk_at "start"
    walk_at "x"
    refine x_listL hm fun l hl => ?_
    have hl0 := hl
    have s3 := same_upd (o := .lst (mv.map V.int)) hl
    have hl3 : (upd H l (.lst (mv.map V.int))) l = some (.lst (mv.map V.int)) := upd_same
    generalize upd H l (.lst (mv.map V.int)) = H3 at s3 hl3
    walk_at "x"
    refine x_forL (p := L) (as.map V.ref) (fun k σ' H' => ∃ v4 v5 v6 v7, σ' = [some (.ref L), some (.ref mo), some (.ref io), some (.int (m : Int)), some (.ref l), v4, v5, v6, v7] ∧ Same H H' ∧ H' l = some (.lst ((runF m iv (ss.take k) mv).map V.int)))
      (fun R r => by walk_at "x"; exact r) (s3.seq hL) ⟨_, _, _, _, rfl, s3, hl3⟩ (fun k σ' H' _ z => by obtain ⟨_, _, _, _, _, z, _⟩ := z; exact z.seq hL) ?_ ?_
    · rintro k x σ' H4 hx ⟨v4, v5, v6, v7, rfl, s4, hl4⟩
      obtain ⟨b, hb, rfl⟩ := map_getR hx
      obtain ⟨s, hs1, hs2⟩ := hst.get hb
      have oks := ok.ok s (List.mem_of_getElem? hs1)
      have mr : Mem m c (runF m iv (ss.take k) mv) := runF_mem hm1 mm fun s hs => ok.ok s (List.mem_of_mem_take hs)
      walk_at "x"
      refine ⟨b, l, io, s, c, i, m, _, iv, rfl, hs2.tups (Tups.same s4), oks, hl4, s4 _ _ hi, mr, mi, m2, m9, fun lc cs H5 hlc s5 hch hap hcl hcc => ?_⟩
      have hlc' : lc ≠ l := fun e => by rw [e, hl4] at hlc; cases hlc
      have hl5 := s5 _ _ hl4
      obtain ⟨bs, hb1, hb2, hb3⟩ := hch
      walk_at "x"
      refine x_forL (p := lc) (bs.map V.ref) (fun j σ' H' => ∃ v6 v7, σ' = [some (.ref L), some (.ref mo), some (.ref io), some (.int (m : Int)), some (.ref l), some (.ref b), some (.ref lc), v6, v7] ∧ Keep l H5 H' ∧ H' l = some (.lst ((applyC (cs.take j) (runF m iv (ss.take k) mv)).map V.int)))
        (fun R r => by walk_at "x"; exact r) (sq_of hb1) ⟨_, _, rfl, Keep.refl _ _, hl5⟩ (fun j σ' H' _ z => by obtain ⟨_, _, _, z, _⟩ := z; exact sq_of (z _ _ hb1 hlc')) ?_ ?_
      · rintro j x σ' H6 hx ⟨v6, v7, rfl, k6, hl6⟩
        obtain ⟨o, ho, rfl⟩ := map_getR hx
        have hj : j < cs.length := by
          have := (List.getElem?_eq_some_iff.mp ho).1
          omega
        have gj := List.getElem?_eq_getElem hj
        have hcj := hcc _ (List.getElem_mem hj)
        generalize cs[j] = w at gj hcj
        have h5 := hb3 j w o gj ho
        have h6 := k6 _ _ h5 (ne_of h5 hl5 (by intro z; cases z))
        refine x_gTup2 (st_of h6) ?_
        walk_at "x"
        have hlen : ((applyC (cs.take j) (runF m iv (ss.take k) mv)).map V.int).length = c := by rw [List.length_map, applyC_len, mr.len]
        refine x_subL (k := w.1) hl6 (by rw [hlen]; exact ixN_nat hcj) ?_
        walk_at "x"
        refine ⟨_, _, rfl, k6.trans keep_upd, ?_⟩
        rw [upd_same, map_set, take_snoc gj, applyC_snoc]
      · rintro σ' H6 ⟨v6, v7, rfl, k6, hl6⟩
        refine ⟨_, _, _, _, rfl, same_keep hl0 (s4.trans s5) k6, ?_⟩
        rw [take_snoc hs1, runF_snoc, ← hap, hl6, List.length_map, hb2, List.take_length]
    · rintro σ' H4 ⟨v4, v5, v6, v7, rfl, s4, hl4⟩
      walk_at "x"
      refine q l _ hl0 s4 ?_
      rw [hl4, List.length_map, hst.1, List.take_length]


theorem NumsAt.same {d : Addr} {H H' : Hp} {v : V} {o : Option (List V)} (h : NumsAt d H v o) (k : Same H H') : NumsAt d H' v o := by
  cases h with
  | lst l xs h hd hn ho => exact .lst l xs (k _ _ h) hd hn fun x hx => ⟨(ho x hx).1.same k, (ho x hx).2⟩
  | tup l xs h => exact .tup l xs (k _ _ h)
theorem belF_mem {o : Option (List V)} {n m : Nat} (h : belF o (n : Int) (m : Int) = true) : ∃ ns : List Int, o = some (ns.map V.int) ∧ Mem m n ns := by
  cases o with
  | none => cases h
  | some xs =>
    have h : (decide ((xs.length : Int) = (n : Int)) && xs.all fun x => isB x (m : Int)) = true := h
    rw [Bool.and_eq_true, decide_eq_true_iff] at h
    have : ∀ xs : List V, (xs.all fun x => isB x (m : Int)) = true → ∃ ns : List Int, xs = ns.map V.int ∧ Rg 0 m ns := by
      intro xs
      induction xs with
      | nil => intro _; exact ⟨[], rfl, .nil⟩
      | cons x xs ih =>
        intro h
        rw [List.all_cons, Bool.and_eq_true] at h
        obtain ⟨ns, rfl, hr⟩ := ih h.2
        cases x with
        | int i =>
          have h1 : (decide (0 ≤ i) && decide (i < (m : Int))) = true := h.1
          rw [Bool.and_eq_true, decide_eq_true_iff, decide_eq_true_iff] at h1
          refine ⟨i :: ns, rfl, fun z hz => ?_⟩
          rcases List.mem_cons.mp hz with rfl | hz
          · exact h1
          · exact hr z hz
        | _ => cases h.1
    obtain ⟨ns, rfl, hr⟩ := this xs h.2
    exact ⟨ns, rfl, ⟨by have := h.1; rw [List.length_map] at this; omega, hr⟩⟩
/-- what are_numbers asks of them -/
theorem NumsAt.ask {d : Addr} {H : Hp} {v : V} {o : Option (List V)} {n m : Int} {Q : VK} {E : XK} {K : PySem.W.Frag} (h : NumsAt d H v o) (q : ∀ H', Same H H' → Q (.bl (belF o n m)) H') : sp_are_numbers K [v, .int n, .int m] H Q E := by
  cases h with
  | lst l xs h hd hn ho => exact ⟨_, n, m, rfl, .inl ⟨l, xs, rfl, h, by omega, fun x hx => (ho x hx).1, q⟩⟩
  | tup l xs h => exact ⟨_, n, m, rfl, .inr ⟨.tup _ _ h, (fun a ys e => by cases e; rw [h]; exact fun z => by cases z), q H (Same.refl _)⟩⟩

def sp_Program_run (CM : Addr) (K : PySem.W.Frag) : Sp := fun vs H Q E => ∃ (d C p L : Addr) (as : List Addr) (ss : List Stp) (m c i : Nat) (v1 v2 : V) (o1 o2 : Option (List V)), vs = [.ref p, v1, v2] ∧ PrAt K C H p L as ss m c i ∧ PrOk ss m c i ∧ NumsAt d H v1 o1 ∧ NumsAt d H v2 o2 ∧
  ((belF o1 (c : Int) (m : Int) && belF o2 (i : Int) (m : Int)) = false → ∀ H', Same H H' → E (.ref CM) none H') ∧
  (∀ (mo io : Addr) (mv iv : List Int), v1 = .ref mo → v2 = .ref io → H mo = some (.lst (mv.map V.int)) → H io = some (.lst (iv.map V.int)) → Mem m c mv → Mem m i iv →
    ∀ l H', H l = none → Same H H' → H' l = some (.lst ((runF m iv ss mv).map V.int)) → Q (.ref l) H')
theorem ok_Program_run (T : Txt K mg) : FnOk P w K mg base (L2.CX P w) 6 T.a_Program_run T.fd_Program_run ["self", "memory", "given"] (sp_Program_run T.E_BadMemory K) := by
  refine T.F_Program_run.okX sc_Program_run (fun vs H Q E h => ?_) (fun cdv A outer s H vs Q E hr h => ?_)
  · obtain ⟨d, C, p, L, as, ss, m, c, i, v1, v2, o1, o2, rfl, _⟩ := h
    rfl
  · obtain ⟨d, C, p, L, as, ss, m, c, i, v1, v2, o1, o2, rfl, hP, ok, hN1, hN2, hE, hQ⟩ := h
    have hm1 : 1 ≤ m := Nat.le_trans (by decide) ok.m2
    have m2 := ok.m2
    have m9 := ok.m9
    have c60 := ok.c60
    have i60 := ok.i60
    obtain ⟨dx, hp, hC⟩ := hP.ob
    refine ⟨_, (pss_cons (ps_if (pt_not (pt_val (pe_call (ok_are_numbers T) (hr.mono (by decide)) (by rfl) T.g_are_numbers T.F_are_numbers.kp T.b_are_numbers .nil pass0 (pa_cons (pv 1) (pa_cons (pe_fld (pv 0) rfl) (pa_cons (pe_fld (pv 0) rfl) pa_nil))))))
      (pss_one (ps_raise rfl (takes_of rfl rfl rfl rfl) (SkE.pmk_own1 PySem.F.excBase_ValueError T.xE_BadMemory T.gE_BadMemory T.kE_BadMemory (raises_own T.bE_BadMemory T.tE_BadMemory) (by exact rfl) (pe_joined (PJ.cons pe_str (PJ.cons (pe_fmt (pe_fld (pv 0) rfl)) (PJ.cons pe_str PJ.nil)))))))
      pss_nil)
      (pss_cons (ps_if (pt_not (pt_val (pe_call (ok_are_numbers T) (hr.mono (by decide)) (by rfl) T.g_are_numbers T.F_are_numbers.kp T.b_are_numbers .nil pass0 (pa_cons (pv 2) (pa_cons (pe_fld (pv 0) rfl) (pa_cons (pe_fld (pv 0) rfl) pa_nil))))))
      (pss_one (ps_raise rfl (takes_of rfl rfl rfl rfl) (SkE.pmk_own1 PySem.F.excBase_ValueError T.xE_BadMemory T.gE_BadMemory T.kE_BadMemory (raises_own T.bE_BadMemory T.tE_BadMemory) (by exact rfl) (pe_joined (PJ.cons pe_str (PJ.cons (pe_fmt (pe_fld (pv 0) rfl)) (PJ.cons pe_str PJ.nil)))))))
      pss_nil)
      (PSs.nox (pss_one (ps_ret (pe_call (ok_performed T) hr (by rfl) T.g_performed T.F_performed.kp T.b_performed .nil pass0 (pa_cons (pe_fld (pv 0) rfl) (pa_cons (pv 1) (pa_cons (pv 2) (pa_cons (pe_fld (pv 0) rfl) pa_nil)))))))))), ?_⟩
    walk_at "start"
    walk_at "x"
    refine x_fldR hp hC.cl hC.c progF_c ?_
    walk_at "x"
    refine x_fldR hp hC.cl hC.m progF_m ?_
    walk_at "x"
    refine hN1.ask fun H1 s1 => ?_
    walk_at "x"
    refine x_iteBN (fun h0 => ?_) (fun h0 => ?_)
    · refine ⟨_, rfl, by show (Str.empty ++ _).length ≤ _; rw [Str.length_append]; exact Nat.le_of_ble_eq_true rfl, ?_⟩
      refine x_fmt ?_
      walk_at "x"
      refine x_fldR (s1 _ _ hp) hC.cl hC.c progF_c ?_
      refine .inr ⟨_, rfl, log_nat (by omega), ⟨_, rfl, ?_, _, rfl, ?_, hE (by rw [h0, Bool.false_and]) H1 s1⟩⟩
      · rw [Str.length_append]
        have := len_nat (n := c) (by omega)
        exact Nat.le_trans (Nat.add_le_add_left this _) (Nat.le_of_ble_eq_true rfl)
      · rw [Str.length_append, Str.length_append]
        have := len_nat (n := c) (by omega)
        exact Nat.le_trans (Nat.add_le_add_right (Nat.add_le_add_left this _) _) (Nat.le_of_ble_eq_true rfl)
    walk_at "x"
    have hp1 := s1 _ _ hp
    refine x_fldR hp1 hC.cl hC.i progF_i ?_
    walk_at "x"
    refine x_fldR hp1 hC.cl hC.m progF_m ?_
    walk_at "x"
    refine (hN2.same s1).ask fun H2 s2 => ?_
    have s2 := s1.trans s2
    walk_at "x"
    refine x_iteBN (fun h1 => ?_) (fun h1 => ?_)
    · refine ⟨_, rfl, by show (Str.empty ++ _).length ≤ _; rw [Str.length_append]; exact Nat.le_of_ble_eq_true rfl, ?_⟩
      refine x_fmt ?_
      walk_at "x"
      refine x_fldR (s2 _ _ hp) hC.cl hC.i progF_i ?_
      refine .inr ⟨_, rfl, log_nat (by omega), ⟨_, rfl, ?_, _, rfl, ?_, hE (by rw [h1, Bool.and_false]) H2 s2⟩⟩
      · rw [Str.length_append]
        have := len_nat (n := i) (by omega)
        exact Nat.le_trans (Nat.add_le_add_left this _) (Nat.le_of_ble_eq_true rfl)
      · rw [Str.length_append, Str.length_append]
        have := len_nat (n := i) (by omega)
        exact Nat.le_trans (Nat.add_le_add_right (Nat.add_le_add_left this _) _) (Nat.le_of_ble_eq_true rfl)
    obtain ⟨mv, rfl, mm⟩ := belF_mem h0
    obtain ⟨iv, rfl, mi⟩ := belF_mem h1
    obtain ⟨mo, rfl, hm⟩ : ∃ mo, v1 = .ref mo ∧ H mo = some (.lst (mv.map V.int)) := by cases hN1 with | lst l xs h _ _ _ => exact ⟨l, rfl, h⟩
    obtain ⟨io, rfl, hi⟩ : ∃ io, v2 = .ref io ∧ H io = some (.lst (iv.map V.int)) := by cases hN2 with | lst l xs h _ _ _ => exact ⟨l, rfl, h⟩
    have q := hQ mo io mv iv rfl rfl hm hi mm mi
    walk_at "x"
    refine x_fldR (s2 _ _ hp) hC.cl hC.s progF_s ?_
    walk_at "x"
    refine x_fldR (s2 _ _ hp) hC.cl hC.m progF_m ?_
    walk_at "x"
    exact ⟨L, mo, io, as, ss, m, c, i, mv, iv, rfl, sq_of (s2 _ _ hP.lst), hP.st.tups (Tups.same s2), ok, sq_of (s2 _ _ hm), s2 _ _ hi, mm, mi, fun l H' hl hs hr => q l H' (s2.free hl) (s2.trans hs) hr⟩



end
end Br
namespace Br
open PySem PySem.Spec PyProof.Rows L2
local macro_rules | `(tactic| walk_at "x1") => `(tactic| (with_reducible first
  | refine Br.x_seq ?_ | refine Br.x_set ?_ | refine Br.x_asg ?_ | refine Br.x_next ?_ | refine Br.x_ret ?_ | refine Br.x_retN ?_ | refine Br.x_drop ?_ | refine Br.x_if ?_ | refine Br.x_brk ?_ | refine Br.x_cont ?_
  | refine Br.x_c ?_ | refine Br.x_op ?_ | refine Br.x_un ?_ | refine Br.x_I0 ?_ | refine Br.x_U ?_ | refine Br.x_EqI ?_ | refine Br.x_NeI ?_ | refine Br.x_EqB ?_ | refine Br.x_iN ?_ | refine Br.x_int1 ?_ | refine Br.x_min2 ?_ | refine Br.x_max2 ?_ | refine Br.x_nN ?_ | refine Br.x_ifE ?_
  | refine Br.x_test (b := ()) ?_ | refine Br.x_tB ?_ | refine Br.x_bl ?_ | refine Br.x_and ?_ | refine Br.x_or ?_ | refine Br.x_not ?_ | refine Br.x_andV ?_ | refine Br.x_orV ?_ | refine Br.x_notV ?_ | refine Br.x_blP ?_
  | refine Br.x_nil ?_ | refine Br.x_cons ?_ | refine Br.x_call ?_ | refine Br.x_CB ?_ | refine Br.x_BM ?_ | refine Br.x_tup ?_ | refine Br.x_lst ?_ | refine Br.x_chain ?_ | refine Br.x_par ?_ | refine Br.x_gSub ?_ | refine Br.x_gName ?_ | refine Br.x_fld ?_ | refine Br.x_fldS ?_ | refine Br.x_match ?_ | refine Br.x_else ?_ | refine Br.x_noCase ?_))
local macro_rules | `(tactic| walk_at "xv") => `(tactic| ((with_reducible refine' Br.x_var ?hvar ?_); (case hvar => rfl)))
local macro_rules | `(tactic| walk_at "xd") => `(tactic| (dsimp only [List.set_cons_zero, List.set_cons_succ, List.cons_append, List.nil_append, List.append_nil]))
local macro_rules | `(tactic| walk_at "xi") => `(tactic| ((with_reducible refine Br.x_I ?hside ?_); (case hside => first | exact Br.mul_r (by decide) (by decide) | exact Br.mul_l (by decide) (by decide) | exact Br.mul_l (by omega) (by omega) | exact Br.mul_r (by omega) (by omega) | (show (0 : Int) < _; first | decide | omega) | exact ⟨by decide, by decide⟩ | exact ⟨by omega, by omega⟩ | exact ⟨by decide, by decide, by decide⟩)))
local macro_rules | `(tactic| walk_at "x") => `(tactic| (repeat (first | walk_at "x1" | walk_at "xv" | walk_at "xi" | walk_at "xd")))
local macro_rules | `(tactic| walk_at "start") => `(tactic| (simp only [L2.start, List.map_cons, List.map_nil, List.length_cons, List.length_nil, Nat.reduceAdd, Nat.reduceSub, List.replicate, List.cons_append, List.nil_append, List.append_nil]))
local macro_rules | `(tactic| walk_at "isi") => `(tactic| first
  | refine Br.x_isi (b := true) (.base (.int _)) (by decide +kernel) ?_ | refine Br.x_isi (b := false) (.base (.int _)) (by decide +kernel) ?_
  | refine Br.x_isi (b := true) (.base (.bl _)) (by decide +kernel) ?_ | refine Br.x_isi (b := false) (.base (.bl _)) (by decide +kernel) ?_
  | refine Br.x_isi (b := false) (.base .non) (by decide +kernel) ?_
  | refine Br.x_isi (b := true) (.base (.str _)) (by decide +kernel) ?_ | refine Br.x_isi (b := false) (.base (.str _)) (by decide +kernel) ?_
  | refine Br.x_isi (b := true) (.base (.tup (by assumption))) (by decide +kernel) ?_ | refine Br.x_isi (b := false) (.base (.tup (by assumption))) (by decide +kernel) ?_
  | refine Br.x_isi (b := true) (.base (.lst (by assumption))) (by decide +kernel) ?_ | refine Br.x_isi (b := false) (.base (.lst (by assumption))) (by decide +kernel) ?_)
local macro_rules | `(tactic| walk_at "f") => `(tactic| (refine L2.iteF ?_; walk_at "x"))
local macro_rules | `(tactic| walk_at "t") => `(tactic| (refine L2.iteT ?_; walk_at "x"))
local macro_rules | `(tactic| walk_at "is") => `(tactic| (walk_at "isi"; walk_at "x"))
local macro_rules | `(tactic| walk_at "xb") => `(tactic| (simp only [Br.bindS, List.set_cons_zero, List.set_cons_succ]; walk_at "x"))

section
variable {P : Program} {w : World} {K : PySem.W.Frag} {mg : Str → Option Value} {base : Heap}

open Br.F

def sp_law_product (K : PySem.W.Frag) : Sp := fun vs H Q _ => ∃ (a f mo io : Addr) (as : List Addr) (fs : List Fac) (t c i m : Nat) (kf : Int) (mv iv : List Int), vs = [.ref a, .ref mo, .ref io, .int (m : Int)] ∧ H a = some (.tup [.str "add", .int (t : Int), .int kf, .ref f]) ∧ 0 ≤ kf ∧ kf < m ∧ H f = some (.tup (as.map V.ref)) ∧ as.length = fs.length ∧ (∀ (k : Nat) x b, fs[k]? = some x → as[k]? = some b → FacAt H b x) ∧
  (∀ x, x ∈ fs → FacOk c i t x) ∧ H mo = some (.lst (mv.map V.int)) ∧ H io = some (.lst (iv.map V.int)) ∧ Mem m c mv ∧ Mem m i iv ∧ 2 ≤ m ∧ m ≤ 1000000000 ∧ ∀ r : Int, 0 ≤ r → r < m → (m : Int) ∣ r - kf * prodV mv iv fs → Q (.int r) H
theorem prodV_one {mv iv : List Int} {f : Fac} : ∀ {fs : List Fac}, prodV mv iv (fs ++ [f]) = prodV mv iv fs * facV mv iv f
  | [] => by show facV mv iv f * 1 = 1 * facV mv iv f; rw [Int.mul_one, Int.one_mul]
  | x :: fs => by
    show facV mv iv x * prodV mv iv (fs ++ [f]) = facV mv iv x * prodV mv iv fs * facV mv iv f
    rw [prodV_one, Int.mul_assoc]
theorem ok_law_product (T : Txt K mg) : FnOk P w K mg base CX0 1 T.a_law_product T.fd_law_product ["step", "memory", "given", "modulus"] (sp_law_product K) := by
  refine T.F_law_product.ok sc_law_product (fun vs H Q E h => ?_) (fun cdv A outer s H vs Q E hr h => ?_)
  · obtain ⟨a, f, mo, io, as, fs, t, c, i, m, kf, mv, iv, rfl, _⟩ := h
    rfl
  · obtain ⟨a, f, mo, io, as, fs, t, c, i, m, kf, mv, iv, rfl, ha, kf0, kf1, hf, hl, hfa, ok, hm, hi, mm, mi, m2, m9, q⟩ := h
    refine ⟨_, (pss_cons (ps_set (i := 4) sc_law_product.nd rfl (.inl rfl) (pe_ix (r := rIxT K) ix_tup (pv 0) pe_int (fun _ _ => rfl)))
      (pss_cons (ps_for PassesOwn.never rfl (pi_tup (pe_ix (r := rIxT K) ix_tup (pv 0) pe_int (fun _ _ => rfl))) (pg_name (i := 5) sc_law_product.nd rfl (Or.inl rfl))
      (pss_one (ps_if (pt_cmpR op_eq (pe_ix (r := rIxT K) ix_tup (pv 5) pe_int (fun _ _ => rfl)) pe_str (nomark _))
      (pss_one (ps_set (i := 4) sc_law_product.nd rfl (.inl rfl) (pe_op op_mod (pe_callTy (T := "int") (r := rInt1) cr_int1 (by rfl) T.m_int (by decide +kernel) (pa_cons (pe_op op_mul (pv 4) (pe_ix (r := rIxL K) ix_list (pv 1) (pe_ix (r := rIxT K) ix_tup (pv 5) pe_int (fun _ _ => rfl)) (fun _ _ => rfl))) pa_nil)) (pv 3))))
      (pss_one (ps_set (i := 4) sc_law_product.nd rfl (.inl rfl) (pe_op op_mod (pe_callTy (T := "int") (r := rInt1) cr_int1 (by rfl) T.m_int (by decide +kernel) (pa_cons (pe_op op_mul (pv 4) (pe_ix (r := rIxL K) ix_list (pv 2) (pe_ix (r := rIxT K) ix_tup (pv 5) pe_int (fun _ _ => rfl)) (fun _ _ => rfl))) pa_nil)) (pv 3)))))))
      (pss_one (ps_ret (pv 4))))), ?_⟩
    walk_at "start"
    walk_at "x"
    refine x_ixT (v := .int kf) (st_of ha) (atI_nat (j := 2) rfl) ?_
    walk_at "x"
    refine x_forI (J := Itt K f) (n := (as.map V.ref).length) (G := fun H => SqT K H f (as.map V.ref)) (fun R r => by unfold iTup; walk_at "x"; exact x_ixT (v := .ref f) (st_of ha) (atI_nat (j := 3) rfl) ⟨f, rfl, ⟨_, st_of hf⟩, r⟩) walk_tup (fun k σ' H' => H = H' ∧ ∃ r v5, σ' = [some (.ref a), some (.ref mo), some (.ref io), some (.int (m : Int)), some (.int r), v5] ∧ 0 ≤ r ∧ r < m ∧ (m : Int) ∣ r - kf * prodV mv iv (fs.take k))
      ⟨rfl, kf, _, rfl, kf0, kf1, 0, by show kf - kf * 1 = _; rw [Int.mul_one, Int.sub_self]; rfl⟩ (fun k σ' H' _ z => by rw [← z.1]; exact st_of hf) ?_ ?_
    · rintro k x σ' H' H2 hk ⟨rfl, r, v5, rfl, r0, r1, rd⟩ ⟨rfl, hx⟩
      obtain ⟨b, hb, rfl⟩ := map_getR hx
      have hk : k < fs.length := by
        have := (List.getElem?_eq_some_iff.mp hb).1
        omega
      obtain ⟨y, hy⟩ : ∃ y, fs[k]? = some y := ⟨_, List.getElem?_eq_getElem hk⟩
      have oky := ok y (List.mem_of_getElem? hy)
      have hfy := hfa k y b hy hb
      have fin : ∀ z : Int, z = facV mv iv y → (m : Int) ∣ r * z % m - kf * prodV mv iv (fs.take (k + 1)) := fun z hz => by
        rw [take_snoc hy, prodV_one, ← hz, ← Int.mul_assoc]
        exact dvd_step rd
      cases y with
      | cell j =>
        have hfy : H2 b = some (.tup [.str "cell", .int (j : Int)]) := hfy
        obtain ⟨z, gz, ez, z0, z1⟩ := mm.get oky.1
        walk_at "x"
        refine x_ixT (v := .str "cell") (st_of hfy) (atI_nat (j := 0) rfl) ?_
        walk_at "x"
        refine x_Eq rfl ?_
        walk_at "x"
        rw [decide_eq_true rfl]
        walk_at "t"
        refine x_ixT (v := .int (j : Int)) (st_of hfy) (atI_nat (j := 1) rfl) ?_
        refine x_ixL (v := .int z) (sq_of hm) (atI_nat (by rw [List.getElem?_map, gz]; rfl)) ?_
        walk_at "x"
        exact ⟨rfl, _, _, rfl, Int.emod_nonneg _ (by omega), Int.emod_lt_of_pos _ (by omega), fin z ez.symm⟩
      | inp j =>
        have hfy : H2 b = some (.tup [.str "input", .int (j : Int)]) := hfy
        obtain ⟨z, gz, ez, z0, z1⟩ := mi.get (show j < i from oky)
        walk_at "x"
        refine x_ixT (v := .str "input") (st_of hfy) (atI_nat (j := 0) rfl) ?_
        walk_at "x"
        refine x_Eq rfl ?_
        walk_at "x"
        rw [decide_eq_false (by decide)]
        walk_at "f"
        refine x_ixT (v := .int (j : Int)) (st_of hfy) (atI_nat (j := 1) rfl) ?_
        refine x_ixL (v := .int z) (sq_of hi) (atI_nat (by rw [List.getElem?_map, gz]; rfl)) ?_
        walk_at "x"
        exact ⟨rfl, _, _, rfl, Int.emod_nonneg _ (by omega), Int.emod_lt_of_pos _ (by omega), fin z ez.symm⟩
    · rintro σ' H' ⟨rfl, r, v5, rfl, r0, r1, rd⟩
      walk_at "x"
      refine q r r0 r1 ?_
      rw [List.length_map, hl, List.take_length] at rd
      exact rd


theorem mod_cong1 {m : Nat} {a r c : Int} (h : (m : Int) ∣ r - c) : (a + r) % m = (a + c) % m := by
  refine Int.emod_eq_emod_iff_emod_sub_eq_zero.mpr (Int.emod_eq_zero_of_dvd ?_)
  have e : a + r - (a + c) = r - c := by omega
  rw [e]
  exact h
def sp_law_perform (K : PySem.W.Frag) : Sp := fun vs H Q _ => ∃ (a mo io : Addr) (s : Stp) (c i m : Nat) (mv iv : List Int), vs = [.ref a, .ref mo, .ref io, .int (m : Int)] ∧ StpAt H a s ∧ StpOk m c i s ∧ H mo = some (.lst (mv.map V.int)) ∧ H io = some (.lst (iv.map V.int)) ∧ Mem m c mv ∧ Mem m i iv ∧ 2 ≤ m ∧ m ≤ 1000000000 ∧
  ∀ H', Keep mo H H' → H' mo = some (.lst ((stepF m iv mv s).map V.int)) → Q .non H'
theorem ok_law_perform (T : Txt K mg) : FnOk P w K mg base CX0 4 T.a_law_perform T.fd_law_perform ["step", "memory", "given", "modulus"] (sp_law_perform K) := by
  refine T.F_law_perform.ok sc_law_perform (fun vs H Q E h => ?_) (fun cdv A outer s H vs Q E hr h => ?_)
  · obtain ⟨a, mo, io, s, c, i, m, mv, iv, rfl, _⟩ := h
    rfl
  · obtain ⟨a, mo, io, s, c, i, m, mv, iv, rfl, hs, ok, hm, hi, mm, mi, m2, m9, q⟩ := h
    have hlen : (mv.map V.int).length = c := by rw [List.length_map, mm.len]
    have fin : ∀ (t : Nat) (z : Int), mv.set t z = stepF m iv mv s → Q .non (upd H mo (.lst ((mv.map V.int).set t (.int z)))) := fun t z e => q _ keep_upd (by rw [upd_same, map_set, e])
    refine ⟨_, (pss_cons (ps_set (i := 4) sc_law_perform.nd rfl (.inl rfl) (pe_ix (r := rIxT K) ix_tup (pv 0) pe_int (fun _ _ => rfl)))
      (pss_one (ps_if (pt_cmpR op_eq (pe_ix (r := rIxT K) ix_tup (pv 0) pe_int (fun _ _ => rfl)) pe_str (nomark _))
      (pss_cons (ps_set (i := 5) sc_law_perform.nd rfl (.inl rfl) (pe_ix (r := rIxL K) ix_list (pv 1) (pv 4) (fun _ _ => rfl)))
      (pss_cons (ps_asg (pe_ix (r := rIxL K) ix_list (pv 1) (pe_ix (r := rIxT K) ix_tup (pv 0) pe_int (fun _ _ => rfl)) (fun _ _ => rfl)) (pg_sub (pv 1) (pv 4) set_list))
      (pss_one (ps_asg (pv 5) (pg_sub (pv 1) (pe_ix (r := rIxT K) ix_tup (pv 0) pe_int (fun _ _ => rfl)) set_list)))))
      (pss_one (ps_if (pt_cmpR op_eq (pe_ix (r := rIxT K) ix_tup (pv 0) pe_int (fun _ _ => rfl)) pe_str (nomark _))
      (pss_one (ps_asg (pe_op op_mod (pe_callTy (T := "int") (r := rInt1) cr_int1 (by rfl) T.m_int (by decide +kernel) (pa_cons (pe_op op_mul (pe_ix (r := rIxL K) ix_list (pv 1) (pv 4) (fun _ _ => rfl)) (pe_ix (r := rIxT K) ix_tup (pv 0) pe_int (fun _ _ => rfl))) pa_nil)) (pv 3)) (pg_sub (pv 1) (pv 4) set_list)))
      (pss_one (ps_if (pt_cmpR op_eq (pe_ix (r := rIxT K) ix_tup (pv 0) pe_int (fun _ _ => rfl)) pe_str (nomark _))
      (pss_one (ps_asg (pe_op op_mod (pe_callTy (T := "int") (r := rInt1) cr_int1 (by rfl) T.m_int (by decide +kernel) (pa_cons (pe_op op_add (pe_ix (r := rIxL K) ix_list (pv 1) (pv 4) (fun _ _ => rfl)) (pe_call (ok_law_product T) (hr.mono (by decide)) (by rfl) T.g_law_product T.F_law_product.kp T.b_law_product .nil pass0 (pa_cons (pv 0) (pa_cons (pv 1) (pa_cons (pv 2) (pa_cons (pv 3) pa_nil)))))) pa_nil)) (pv 3)) (pg_sub (pv 1) (pv 4) set_list)))
      (pss_cons (ps_set (i := 6) sc_law_perform.nd rfl (.inl rfl) (pe_call (ok_law_interpolated T) hr (by rfl) T.g_law_interpolated T.F_law_interpolated.kp T.b_law_interpolated .nil pass0 (pa_cons (pe_ix (r := rIxT K) ix_tup (pv 0) pe_int (fun _ _ => rfl)) (pa_cons (pv 3) (pa_cons (pe_ix (r := rIxL K) ix_list (pv 1) (pe_ix (r := rIxT K) ix_tup (pv 0) pe_int (fun _ _ => rfl)) (fun _ _ => rfl)) (pa_cons (pe_ix (r := rIxL K) ix_list (pv 1) (pe_ix (r := rIxT K) ix_tup (pv 0) pe_int (fun _ _ => rfl)) (fun _ _ => rfl)) pa_nil))))))
      (pss_one (ps_asg (pe_op op_mod (pe_callTy (T := "int") (r := rInt1) cr_int1 (by rfl) T.m_int (by decide +kernel) (pa_cons (pe_op op_add (pe_ix (r := rIxL K) ix_list (pv 1) (pv 4) (fun _ _ => rfl)) (pe_op op_mul (pe_ix (r := rIxT K) ix_tup (pv 0) pe_int (fun _ _ => rfl)) (pv 6))) pa_nil)) (pv 3)) (pg_sub (pv 1) (pv 4) set_list))))))))))), ?_⟩
    walk_at "start"
    walk_at "x"
    cases s with
    | add t k fs =>
      obtain ⟨f, as, h1, h2, h3, h4⟩ := hs
      obtain ⟨o1, o2, o3, o4, o5⟩ := ok
      obtain ⟨z, gz, ez, z0, z1⟩ := mm.get o1
      refine x_ixT (v := .int (t : Int)) (st_of h1) (atI_nat (j := 1) rfl) ?_
      walk_at "x"
      refine x_ixT (v := .str "add") (st_of h1) (atI_nat (j := 0) rfl) ?_
      walk_at "x"
      refine x_Eq rfl ?_
      walk_at "x"
      rw [decide_eq_false (by decide)]
      walk_at "f"
      refine x_ixT (v := .str "add") (st_of h1) (atI_nat (j := 0) rfl) ?_
      walk_at "x"
      refine x_Eq rfl ?_
      walk_at "x"
      rw [decide_eq_false (by decide)]
      walk_at "f"
      refine x_ixT (v := .str "add") (st_of h1) (atI_nat (j := 0) rfl) ?_
      walk_at "x"
      refine x_Eq rfl ?_
      walk_at "x"
      rw [decide_eq_true rfl]
      walk_at "t"
      refine x_ixL (v := .int z) (sq_of hm) (atI_nat (by rw [List.getElem?_map, gz]; rfl)) ?_
      walk_at "x"
      refine ⟨a, f, mo, io, as, fs, t, c, i, m, k, mv, iv, rfl, h1, o2, o3, h2, h3, h4, o5, hm, hi, mm, mi, m2, m9, fun r r0 r1 rd => ?_⟩
      walk_at "x"
      refine x_subL (k := t) hm (by rw [hlen]; exact ixN_nat o1) ?_
      walk_at "x"
      refine fin t _ ?_
      show mv.set t ((z + r) % m) = mv.set t ((mv.getD t 0 + k * prodV mv iv fs) % m)
      rw [ez, mod_cong1 rd]
    | scale t u =>
      have h1 : H a = some (.tup [.str "scale", .int (t : Int), .int u]) := hs
      obtain ⟨o1, o2, o3, o4⟩ := ok
      obtain ⟨z, gz, ez, z0, z1⟩ := mm.get o1
      refine x_ixT (v := .int (t : Int)) (st_of h1) (atI_nat (j := 1) rfl) ?_
      walk_at "x"
      refine x_ixT (v := .str "scale") (st_of h1) (atI_nat (j := 0) rfl) ?_
      walk_at "x"
      refine x_Eq rfl ?_
      walk_at "x"
      rw [decide_eq_false (by decide)]
      walk_at "f"
      refine x_ixT (v := .str "scale") (st_of h1) (atI_nat (j := 0) rfl) ?_
      walk_at "x"
      refine x_Eq rfl ?_
      walk_at "x"
      rw [decide_eq_true rfl]
      walk_at "t"
      refine x_ixL (v := .int z) (sq_of hm) (atI_nat (by rw [List.getElem?_map, gz]; rfl)) ?_
      walk_at "x"
      refine x_ixT (v := .int u) (st_of h1) (atI_nat (j := 2) rfl) ?_
      walk_at "x"
      refine x_subL (k := t) hm (by rw [hlen]; exact ixN_nat o1) ?_
      walk_at "x"
      refine fin t _ ?_
      show mv.set t (z * u % m) = mv.set t (mv.getD t 0 * u % m)
      rw [ez]
    | swap x y =>
      have h1 : H a = some (.tup [.str "swap", .int (x : Int), .int (y : Int)]) := hs
      obtain ⟨o1, o2, o3⟩ := ok
      obtain ⟨zx, gzx, ezx, _⟩ := mm.get o1
      obtain ⟨zy, gzy, ezy, _⟩ := mm.get o2
      refine x_ixT (v := .int (x : Int)) (st_of h1) (atI_nat (j := 1) rfl) ?_
      walk_at "x"
      refine x_ixT (v := .str "swap") (st_of h1) (atI_nat (j := 0) rfl) ?_
      walk_at "x"
      refine x_Eq rfl ?_
      walk_at "x"
      rw [decide_eq_true rfl]
      walk_at "t"
      refine x_ixL (v := .int zx) (sq_of hm) (atI_nat (by rw [List.getElem?_map, gzx]; rfl)) ?_
      walk_at "x"
      refine x_ixT (v := .int (y : Int)) (st_of h1) (atI_nat (j := 2) rfl) ?_
      refine x_ixL (v := .int zy) (sq_of hm) (atI_nat (by rw [List.getElem?_map, gzy]; rfl)) ?_
      walk_at "x"
      refine x_subL (k := x) hm (by rw [hlen]; exact ixN_nat o1) ?_
      walk_at "x"
      have hne : a ≠ mo := ne_of h1 hm (by intro z; cases z)
      refine x_ixT (v := .int (y : Int)) (st_of (by rw [upd_ne hne]; exact h1)) (atI_nat (j := 2) rfl) ?_
      refine x_subL (k := y) upd_same (by rw [List.length_set, hlen]; exact ixN_nat o2) ?_
      walk_at "x"
      refine q _ (keep_upd.trans keep_upd) ?_
      rw [upd_same, map_set, map_set]
      show some (HO.lst (((mv.set x zy).set y zx).map V.int)) = some (.lst (((mv.set x (mv.getD y 0)).set y (mv.getD x 0)).map V.int))
      rw [ezx, ezy]
    | tab t g tb x y =>
      obtain ⟨o, h1, as, ht1, ht2, ht3⟩ := hs
      obtain ⟨o1, o2, o3, o4, o5, o6, o7, o8, o9, o10⟩ := ok
      obtain ⟨z, gz, ez, z0, z1⟩ := mm.get o1
      obtain ⟨zx, gzx, ezx, zx0, zx1⟩ := mm.get o2
      obtain ⟨zy, gzy, ezy, zy0, zy1⟩ := mm.get o3
      refine x_ixT (v := .int (t : Int)) (st_of h1) (atI_nat (j := 1) rfl) ?_
      walk_at "x"
      refine x_ixT (v := .str "table") (st_of h1) (atI_nat (j := 0) rfl) ?_
      walk_at "x"
      refine x_Eq rfl ?_
      walk_at "x"
      rw [decide_eq_false (by decide)]
      walk_at "f"
      refine x_ixT (v := .str "table") (st_of h1) (atI_nat (j := 0) rfl) ?_
      walk_at "x"
      refine x_Eq rfl ?_
      walk_at "x"
      rw [decide_eq_false (by decide)]
      walk_at "f"
      refine x_ixT (v := .str "table") (st_of h1) (atI_nat (j := 0) rfl) ?_
      walk_at "x"
      refine x_Eq rfl ?_
      walk_at "x"
      rw [decide_eq_false (by decide)]
      walk_at "f"
      refine x_ixT (v := .ref o) (st_of h1) (atI_nat (j := 3) rfl) ?_
      walk_at "x"
      refine x_ixT (v := .int (x : Int)) (st_of h1) (atI_nat (j := 4) rfl) ?_
      refine x_ixL (v := .int zx) (sq_of hm) (atI_nat (by rw [List.getElem?_map, gzx]; rfl)) ?_
      walk_at "x"
      refine x_ixT (v := .int (y : Int)) (st_of h1) (atI_nat (j := 5) rfl) ?_
      refine x_ixL (v := .int zy) (sq_of hm) (atI_nat (by rw [List.getElem?_map, gzy]; rfl)) ?_
      walk_at "x"
      refine ⟨o, m, zx, zy, tb, rfl, ⟨as, st_of ht1, ht2, fun i r b e1 e2 => st_of (ht3 i r b e1 e2)⟩, o8, o9, o10, m9, zx0, zx1, zy0, zy1, fun v hv v0 v1 => ?_⟩
      have ev := hv.uniq o10 o8.le (ItpV.ok o10 o8.le)
      walk_at "x"
      refine x_ixL (v := .int z) (sq_of hm) (atI_nat (by rw [List.getElem?_map, gz]; rfl)) ?_
      walk_at "x"
      refine x_ixT (v := .int g) (st_of h1) (atI_nat (j := 2) rfl) ?_
      walk_at "x"
      refine x_subL (k := t) hm (by rw [hlen]; exact ixN_nat o1) ?_
      walk_at "x"
      refine fin t _ ?_
      show mv.set t ((z + g * v) % m) = mv.set t ((mv.getD t 0 + g * ItpV m tb (mv.getD x 0) (mv.getD y 0)) % m)
      rw [ez, ezx, ezy, ev]


def sp_law_ran (K : PySem.W.Frag) : Sp := fun vs H Q _ => ∃ (d D L mo io : Addr) (as : List Addr) (ss : List Stp) (m c i : Nat) (mv iv : List Int), vs = [.ref D, .ref mo, .ref io] ∧ MdAt H d D L as ss m c i ∧ H mo = some (.lst (mv.map V.int)) ∧ H io = some (.lst (iv.map V.int)) ∧ Mem m c mv ∧ Mem m i iv ∧
  ∀ l H', H l = none → Same H H' → H' l = some (.lst ((runF m iv ss mv).map V.int)) → Q (.ref l) H'
theorem ok_law_ran (T : Txt K mg) : FnOk P w K mg base CX0 5 T.a_law_ran T.fd_law_ran ["model", "memory", "given"] (sp_law_ran K) := by
  refine T.F_law_ran.ok sc_law_ran (fun vs H Q E h => ?_) (fun cdv A outer s H vs Q E hr h => ?_)
  · obtain ⟨d, D, L, mo, io, as, ss, m, c, i, mv, iv, rfl, _⟩ := h
    rfl
  · obtain ⟨d, D, L, mo, io, as, ss, m, c, i, mv, iv, rfl, hM, hm, hi, mm, mi, q⟩ := h
    have hm1 : 1 ≤ m := Nat.le_trans (by decide) hM.ok.m2
    refine ⟨_, (pss_cons (ps_set (i := 3) sc_law_ran.nd rfl (.inl rfl) (pe_callTy (T := "list") (r := rListOf K) cr_list_of (by rfl) T.m_list (by decide +kernel) (pa_cons (pv 1) pa_nil)))
      (pss_cons (ps_for PassesOwn.never rfl (pi_list (pe_dget (hu_of hr) (pv 0) pe_str (fun _ _ => rfl))) (pg_name (i := 4) sc_law_ran.nd rfl (Or.inl rfl))
      (pss_one (ps_expr (pe_call (ok_law_perform T) hr (by rfl) T.g_law_perform T.F_law_perform.kp T.b_law_perform .nil pass0 (pa_cons (pv 4) (pa_cons (pv 3) (pa_cons (pv 2) (pa_cons (pe_dget (hu_of hr) (pv 0) pe_str (fun _ _ => rfl)) pa_nil))))))))
      (pss_one (ps_ret (pv 3))))), ?_⟩
    walk_at "start"
    walk_at "x"
    refine x_listL (sq_of hm) fun l hl => ?_
    have s3 := same_upd (o := .lst (mv.map V.int)) hl
    have hl3 : (upd H l (.lst (mv.map V.int))) l = some (.lst (mv.map V.int)) := upd_same
    generalize upd H l (.lst (mv.map V.int)) = H3 at s3 hl3
    walk_at "x"
    refine x_forL (p := L) (as.map V.ref) (fun k σ' H' => ∃ v4, σ' = [some (.ref D), some (.ref mo), some (.ref io), some (.ref l), v4] ∧ Same H H' ∧ H' l = some (.lst ((runF m iv (ss.take k) mv).map V.int)))
      (fun R r => x_dgVC rfl (s3 _ _ hM.dk) mdl_s r) (sq_of (s3 _ _ hM.lst)) ⟨_, rfl, s3, hl3⟩ (fun k σ' H' _ z => by obtain ⟨_, _, z, _⟩ := z; exact sq_of (z _ _ hM.lst)) ?_ ?_
    · rintro k x σ' H4 hx ⟨v4, rfl, s4, hl4⟩
      obtain ⟨b, hb, rfl⟩ := map_getR hx
      obtain ⟨s, hs1, hs2⟩ := hM.st.get hb
      have oks := hM.ok.ok s (List.mem_of_getElem? hs1)
      have mr : Mem m c (runF m iv (ss.take k) mv) := runF_mem hm1 mm fun s hs => hM.ok.ok s (List.mem_of_mem_take hs)
      walk_at "x"
      refine x_dgVC rfl (s4 _ _ hM.dk) mdl_m ?_
      walk_at "x"
      refine ⟨b, l, io, s, c, i, m, _, iv, rfl, hs2.tups (Tups.same s4), oks, hl4, s4 _ _ hi, mr, mi, hM.ok.m2, hM.ok.m9, fun H5 k5 hl5 => ?_⟩
      walk_at "x"
      refine ⟨_, rfl, same_keep hl s4 k5, ?_⟩
      rw [take_snoc hs1, runF_snoc, hl5]
    · rintro σ' H4 ⟨v4, rfl, s4, hl4⟩
      walk_at "x"
      refine q l _ hl s4 ?_
      rw [hl4, List.length_map, hM.st.1, List.take_length]


end
end Br
namespace Br
open PySem PySem.Spec PyProof.Rows L2
local macro_rules | `(tactic| walk_at "x1") => `(tactic| (with_reducible first
  | refine Br.x_seq ?_ | refine Br.x_set ?_ | refine Br.x_asg ?_ | refine Br.x_next ?_ | refine Br.x_ret ?_ | refine Br.x_retN ?_ | refine Br.x_drop ?_ | refine Br.x_if ?_ | refine Br.x_brk ?_ | refine Br.x_cont ?_
  | refine Br.x_c ?_ | refine Br.x_op ?_ | refine Br.x_un ?_ | refine Br.x_I0 ?_ | refine Br.x_U ?_ | refine Br.x_EqI ?_ | refine Br.x_NeI ?_ | refine Br.x_EqB ?_ | refine Br.x_iN ?_ | refine Br.x_int1 ?_ | refine Br.x_min2 ?_ | refine Br.x_max2 ?_ | refine Br.x_nN ?_ | refine Br.x_ifE ?_
  | refine Br.x_test (b := ()) ?_ | refine Br.x_tB ?_ | refine Br.x_bl ?_ | refine Br.x_and ?_ | refine Br.x_or ?_ | refine Br.x_not ?_ | refine Br.x_andV ?_ | refine Br.x_orV ?_ | refine Br.x_notV ?_ | refine Br.x_blP ?_
  | refine Br.x_nil ?_ | refine Br.x_cons ?_ | refine Br.x_call ?_ | refine Br.x_CB ?_ | refine Br.x_BM ?_ | refine Br.x_tup ?_ | refine Br.x_lst ?_ | refine Br.x_chain ?_ | refine Br.x_par ?_ | refine Br.x_gSub ?_ | refine Br.x_gName ?_ | refine Br.x_fld ?_ | refine Br.x_fldS ?_ | refine Br.x_match ?_ | refine Br.x_else ?_ | refine Br.x_noCase ?_))
local macro_rules | `(tactic| walk_at "xv") => `(tactic| ((with_reducible refine' Br.x_var ?hvar ?_); (case hvar => rfl)))
local macro_rules | `(tactic| walk_at "xd") => `(tactic| (dsimp only [List.set_cons_zero, List.set_cons_succ, List.cons_append, List.nil_append, List.append_nil]))
local macro_rules | `(tactic| walk_at "xi") => `(tactic| ((with_reducible refine Br.x_I ?hside ?_); (case hside => first | exact Br.mul_r (by decide) (by decide) | exact Br.mul_l (by decide) (by decide) | exact Br.mul_l (by omega) (by omega) | exact Br.mul_r (by omega) (by omega) | (show (0 : Int) < _; first | decide | omega) | exact ⟨by decide, by decide⟩ | exact ⟨by omega, by omega⟩ | exact ⟨by decide, by decide, by decide⟩)))
local macro_rules | `(tactic| walk_at "x") => `(tactic| (repeat (first | walk_at "x1" | walk_at "xv" | walk_at "xi" | walk_at "xd")))
local macro_rules | `(tactic| walk_at "start") => `(tactic| (simp only [L2.start, List.map_cons, List.map_nil, List.length_cons, List.length_nil, Nat.reduceAdd, Nat.reduceSub, List.replicate, List.cons_append, List.nil_append, List.append_nil]))
local macro_rules | `(tactic| walk_at "isi") => `(tactic| first
  | refine Br.x_isi (b := true) (.base (.int _)) (by decide +kernel) ?_ | refine Br.x_isi (b := false) (.base (.int _)) (by decide +kernel) ?_
  | refine Br.x_isi (b := true) (.base (.bl _)) (by decide +kernel) ?_ | refine Br.x_isi (b := false) (.base (.bl _)) (by decide +kernel) ?_
  | refine Br.x_isi (b := false) (.base .non) (by decide +kernel) ?_
  | refine Br.x_isi (b := true) (.base (.str _)) (by decide +kernel) ?_ | refine Br.x_isi (b := false) (.base (.str _)) (by decide +kernel) ?_
  | refine Br.x_isi (b := true) (.base (.tup (by assumption))) (by decide +kernel) ?_ | refine Br.x_isi (b := false) (.base (.tup (by assumption))) (by decide +kernel) ?_
  | refine Br.x_isi (b := true) (.base (.lst (by assumption))) (by decide +kernel) ?_ | refine Br.x_isi (b := false) (.base (.lst (by assumption))) (by decide +kernel) ?_)
local macro_rules | `(tactic| walk_at "f") => `(tactic| (refine L2.iteF ?_; walk_at "x"))
local macro_rules | `(tactic| walk_at "t") => `(tactic| (refine L2.iteT ?_; walk_at "x"))
local macro_rules | `(tactic| walk_at "is") => `(tactic| (walk_at "isi"; walk_at "x"))
local macro_rules | `(tactic| walk_at "xb") => `(tactic| (simp only [Br.bindS, List.set_cons_zero, List.set_cons_succ]; walk_at "x"))

section
variable {P : Program} {w : World} {K : PySem.W.Frag} {mg : Str → Option Value} {base : Heap}

open Br
theorem DAt.odd {d : Addr} {H : Hp} {v : V} {e : PyData} (h : DAt d H v e) : Odd H v := by
  cases h with
  | non => exact .non
  | bl b => exact .bl b
  | int i => exact .int i
  | str x => exact .str x
  | lst hd h hs => exact .lst _ _ h
  | tup h hs => exact .tup _ _ h
theorem DAt.isB {d : Addr} {H : Hp} {v : V} {e : PyData} (h : DAt d H v e) {b : Int} : isB v b = isBD b e := by
  cases h <;> rfl
theorem range_allD {ds : List PyData} {f : PyData → Bool} : ((List.range ds.length).map fun i => f (ds.getD i .none)).all id = ds.all f := by
  have e : (List.range ds.length).map (fun i => f (ds.getD i .none)) = ds.map f := by
    apply List.ext_getElem?
    intro i
    rw [List.getElem?_map, List.getElem?_map]
    by_cases h : i < ds.length
    · rw [List.getElem?_range h, List.getElem?_eq_getElem h]
      show some (f (ds.getD i .none)) = some (f ds[i])
      rw [List.getD_eq_getElem?_getD, List.getElem?_eq_getElem h]; rfl
    · rw [List.getElem?_eq_none (by simpa using h), List.getElem?_eq_none (by simpa using h)]
      rfl
  rw [e, List.all_map]
  rfl
theorem getDD {ds : List PyData} {i : Nat} {e : PyData} (h : ds[i]? = some e) : ds.getD i .none = e := by rw [List.getD_eq_getElem?_getD, h]; rfl






end
end Br
namespace Br
open PySem PySem.Spec PyProof.Rows L2
local macro_rules | `(tactic| walk_at "x1") => `(tactic| (with_reducible first
  | refine Br.x_seq ?_ | refine Br.x_set ?_ | refine Br.x_asg ?_ | refine Br.x_next ?_ | refine Br.x_ret ?_ | refine Br.x_retN ?_ | refine Br.x_drop ?_ | refine Br.x_if ?_ | refine Br.x_brk ?_ | refine Br.x_cont ?_
  | refine Br.x_c ?_ | refine Br.x_op ?_ | refine Br.x_un ?_ | refine Br.x_I0 ?_ | refine Br.x_U ?_ | refine Br.x_EqI ?_ | refine Br.x_NeI ?_ | refine Br.x_EqB ?_ | refine Br.x_iN ?_ | refine Br.x_int1 ?_ | refine Br.x_min2 ?_ | refine Br.x_max2 ?_ | refine Br.x_nN ?_ | refine Br.x_ifE ?_
  | refine Br.x_test (b := ()) ?_ | refine Br.x_tB ?_ | refine Br.x_bl ?_ | refine Br.x_and ?_ | refine Br.x_or ?_ | refine Br.x_not ?_ | refine Br.x_andV ?_ | refine Br.x_orV ?_ | refine Br.x_notV ?_ | refine Br.x_blP ?_
  | refine Br.x_nil ?_ | refine Br.x_cons ?_ | refine Br.x_call ?_ | refine Br.x_CB ?_ | refine Br.x_BM ?_ | refine Br.x_tup ?_ | refine Br.x_lst ?_ | refine Br.x_chain ?_ | refine Br.x_par ?_ | refine Br.x_gSub ?_ | refine Br.x_gName ?_ | refine Br.x_fld ?_ | refine Br.x_fldS ?_ | refine Br.x_match ?_ | refine Br.x_else ?_ | refine Br.x_noCase ?_))
local macro_rules | `(tactic| walk_at "xv") => `(tactic| ((with_reducible refine' Br.x_var ?hvar ?_); (case hvar => rfl)))
local macro_rules | `(tactic| walk_at "xd") => `(tactic| (dsimp only [List.set_cons_zero, List.set_cons_succ, List.cons_append, List.nil_append, List.append_nil]))
local macro_rules | `(tactic| walk_at "xi") => `(tactic| ((with_reducible refine Br.x_I ?hside ?_); (case hside => first | exact Br.mul_r (by decide) (by decide) | exact Br.mul_l (by decide) (by decide) | exact Br.mul_l (by omega) (by omega) | exact Br.mul_r (by omega) (by omega) | (show (0 : Int) < _; first | decide | omega) | exact ⟨by decide, by decide⟩ | exact ⟨by omega, by omega⟩ | exact ⟨by decide, by decide, by decide⟩)))
local macro_rules | `(tactic| walk_at "x") => `(tactic| (repeat (first | walk_at "x1" | walk_at "xv" | walk_at "xi" | walk_at "xd")))
local macro_rules | `(tactic| walk_at "start") => `(tactic| (simp only [L2.start, List.map_cons, List.map_nil, List.length_cons, List.length_nil, Nat.reduceAdd, Nat.reduceSub, List.replicate, List.cons_append, List.nil_append, List.append_nil]))
local macro_rules | `(tactic| walk_at "isi") => `(tactic| first
  | refine Br.x_isi (b := true) (.base (.int _)) (by decide +kernel) ?_ | refine Br.x_isi (b := false) (.base (.int _)) (by decide +kernel) ?_
  | refine Br.x_isi (b := true) (.base (.bl _)) (by decide +kernel) ?_ | refine Br.x_isi (b := false) (.base (.bl _)) (by decide +kernel) ?_
  | refine Br.x_isi (b := false) (.base .non) (by decide +kernel) ?_
  | refine Br.x_isi (b := true) (.base (.str _)) (by decide +kernel) ?_ | refine Br.x_isi (b := false) (.base (.str _)) (by decide +kernel) ?_
  | refine Br.x_isi (b := true) (.base (.tup (by assumption))) (by decide +kernel) ?_ | refine Br.x_isi (b := false) (.base (.tup (by assumption))) (by decide +kernel) ?_
  | refine Br.x_isi (b := true) (.base (.lst (by assumption))) (by decide +kernel) ?_ | refine Br.x_isi (b := false) (.base (.lst (by assumption))) (by decide +kernel) ?_)
local macro_rules | `(tactic| walk_at "f") => `(tactic| (refine L2.iteF ?_; walk_at "x"))
local macro_rules | `(tactic| walk_at "t") => `(tactic| (refine L2.iteT ?_; walk_at "x"))
local macro_rules | `(tactic| walk_at "is") => `(tactic| (walk_at "isi"; walk_at "x"))
local macro_rules | `(tactic| walk_at "xb") => `(tactic| (simp only [Br.bindS, List.set_cons_zero, List.set_cons_succ]; walk_at "x"))

section
variable {P : Program} {w : World} {K : PySem.W.Frag} {mg : Str → Option Value} {base : Heap}

open Br

def sp_is_input (K : PySem.W.Frag) : Sp := fun vs H Q _ => ∃ (d : Addr) (v : V) (e : PyData), vs = [v] ∧ DAt d H v e ∧ Q (.bl (isBD 60 e)) H
theorem ok_is_input (T : Txt K mg) : FnOk P w K mg base CX0 2 T.a_is_input T.fd_is_input ["k"] (sp_is_input K) := by
  refine T.F_is_input.ok sc_is_input (fun vs H Q E h => ?_) (fun cdv A outer s H vs Q E hr h => ?_)
  · obtain ⟨d, v, e, rfl, _⟩ := h
    rfl
  · obtain ⟨d, v, e, rfl, hv, q⟩ := h
    refine ⟨_, (pss_one (ps_ret (pe_call (ok_is_below T) hr (by rfl) T.g_is_below T.F_is_below.kp T.b_is_below .nil pass0 (pa_cons (pv 0) (pa_cons (pe_glob (v := .int 60) (by rfl) T.c_MOST_INPUTS_nodes ⟨_, rfl⟩) pa_nil))))), ?_⟩
    walk_at "start"
    walk_at "x"
    refine ⟨v, _, rfl, hv.odd, ?_⟩
    rw [hv.isB]
    exact q


def sp_are_nodes (K : PySem.W.Frag) : Sp := fun vs H Q _ => ∃ (d : Addr) (v : V) (e : PyData), vs = [v] ∧ DAt d H v e ∧ ∀ H', Same H H' → Q (.bl (nodesD e)) H'
theorem ok_are_nodes (T : Txt K mg) : FnOk P w K mg base CX0 1 T.a_are_nodes T.fd_are_nodes ["source"] (sp_are_nodes K) := by
  refine T.F_are_nodes.ok sc_are_nodes (fun vs H Q E h => ?_) (fun cdv A outer s H vs Q E hr h => ?_)
  · obtain ⟨d, v, e, rfl, _⟩ := h
    rfl
  · obtain ⟨d, v, e, rfl, hv, q⟩ := h
    refine ⟨_, (pss_cons (ps_if (PW.pt (pw_or (pt_not (pt_val (pe_callB (id := "isinstance") (r := rIsi K) call_isi (by rfl) T.m_isinstance (by decide +kernel) (pa_cons (pv 0) (pa_cons (pe_bltn (v := .ty "tuple") (by rfl) T.m_tuple (by decide +kernel) rfl) pa_nil))))) (pw_or1 (pt_not (pt_chain op_le op_le pe_int (pe_callB (id := "len") (r := rLen K) cr_len (by rfl) T.m_len PySem.boot_len (pa_cons (pv 0) pa_nil)) (pe_glob (v := .int 200) (by rfl) T.c_MOST_NODES ⟨_, rfl⟩))))))
      (pss_one (ps_ret pe_bl))
      pss_nil)
      (pss_one (ps_ret (pe_callB (id := "all") (r := rAll K) (cr_all rfl) (by rfl) T.m_all (by decide +kernel) (pa_cons (pe_lc (own := [("node", 1)]) (g := gName 1) (tt := tYes) rfl sc_are_nodes.nd (pi_tup (pv 0)) (blkOk_by (N := N_are_nodes) (sc := defScope s_are_nodes) (by decide +kernel)) (fun _ _ _ _ _ => (pg_name (i := 1) sc_are_nodes.nd rfl (Or.inl rfl))) (fun _ _ _ _ _ => pts_nil) (fun _ _ _ _ _ => (pe_callB (id := "isinstance") (r := rIsi K) call_isi (by rfl) T.m_isinstance (by decide +kernel) (pa_cons (pv 1) (pa_cons (pe_bltn (v := .ty "tuple") (by rfl) T.m_tuple (by decide +kernel) rfl) pa_nil))))) pa_nil))))), ?_⟩
    walk_at "start"
    cases hv with
    | tup h hs =>
      rename_i a xs es
      have hlen := hs.len
      have ep : nodesD (.tuple es) = ((decide (1 ≤ es.length) && decide (es.length ≤ 200)) && es.all isTupD) := rfl
      walk_at "x"
      walk_at "is"
      walk_at "f"
      refine x_lenT (st_of h) ?_
      walk_at "x"
      refine x_ite (fun h1 => ?_) (fun h1 => ?_)
      · walk_at "x"
        refine x_iteN (fun h2 => ?_) (fun h2 => ?_)
        · walk_at "x"
          have e : nodesD (.tuple es) = false := by rw [ep, decide_eq_false (show ¬ es.length ≤ 200 by omega), Bool.and_false, Bool.false_and]
          rw [← e]
          exact q H (Same.refl _)
        · walk_at "x"
          refine x_lcB (xs := xs) (fun i => isTupD (es.getD i .none)) (J := Itt K a) (G := fun H => SqT K H a xs) (fun R r => ⟨_, rfl, a, rfl, ⟨xs, st_of h⟩, r⟩) walk_tup (by omega) (fun H' s => st_of (s _ _ h)) (fun x => rfl) ?_ ?_
          · intro i x H' s hx R hR
            obtain ⟨f, hf, hxf⟩ := hs.get hx
            rw [getDD hf] at hR
            have hxf := DAt.same s f hxf
            walk_at "x"
            cases hxf with
            | int i => walk_at "is"; exact hR H' (Same.refl _)
            | bl b => walk_at "is"; exact hR H' (Same.refl _)
            | non => walk_at "is"; exact hR H' (Same.refl _)
            | str z => walk_at "is"; exact hR H' (Same.refl _)
            | tup h hs => walk_at "is"; exact hR H' (Same.refl _)
            | lst hd h hs => walk_at "is"; exact hR H' (Same.refl _)
          · intro p H' hp s hP
            walk_at "x"
            refine x_all hP ?_
            rw [hlen, range_allD (f := isTupD)]
            have e : nodesD (.tuple es) = es.all isTupD := by rw [ep, decide_eq_true (show 1 ≤ es.length by omega), decide_eq_true (show es.length ≤ 200 by omega)]; rfl
            rw [← e]
            exact q H' s
      · walk_at "x"
        walk_at "t"
        have e : nodesD (.tuple es) = false := by rw [ep, decide_eq_false (show ¬ 1 ≤ es.length by omega), Bool.false_and, Bool.false_and]
        rw [← e]
        exact q H (Same.refl _)
    | int i =>
      walk_at "x"
      walk_at "is"
      walk_at "t"
      exact q H (Same.refl _)
    | bl b =>
      walk_at "x"
      walk_at "is"
      walk_at "t"
      exact q H (Same.refl _)
    | non =>
      walk_at "x"
      walk_at "is"
      walk_at "t"
      exact q H (Same.refl _)
    | str z =>
      walk_at "x"
      walk_at "is"
      walk_at "t"
      exact q H (Same.refl _)
    | lst hd h hs =>
      walk_at "x"
      walk_at "is"
      walk_at "t"
      exact q H (Same.refl _)


def sp_are_before (K : PySem.W.Frag) : Sp := fun vs H Q _ => ∃ (d r : Addr) (n : Int) (xs : List V) (es : List PyData), vs = [.int n, .ref r] ∧ H r = some (.tup xs) ∧ DAts d H xs es ∧ es.length ≤ 1000 ∧ ∀ H', Same H H' → Q (.bl (es.all (isBD n))) H'
theorem ok_are_before (T : Txt K mg) : FnR P w K mg base CX0 2 T.a_are_before (spStar 1 (sp_are_before K)) := by
  refine star_ok T.F_are_before T.b_are_before sc_are_before (fun cdv A outer s H vs Q E hr h => ?_)
  obtain ⟨d, r, n, xs, es, rfl, hr2, hs, hl, q⟩ := h
  have hlen := hs.len
  refine ⟨_, (pss_one (ps_ret (pe_callB (id := "all") (r := rAll K) (cr_all rfl) (by rfl) T.m_all (by decide +kernel) (pa_cons (pe_lc (own := [("reference", 2)]) (g := gName 2) (tt := tYes) rfl sc_are_before.nd (pi_tup (pv 1)) (blkOk_by (N := N_are_before) (sc := defScope s_are_before) (by decide +kernel)) (fun _ _ _ _ _ => (pg_name (i := 2) sc_are_before.nd rfl (Or.inl rfl))) (fun _ _ _ _ _ => pts_nil) (fun _ _ _ _ _ => (pe_call (ok_is_below T) hr (by rfl) T.g_is_below T.F_is_below.kp T.b_is_below .nil pass0 (pa_cons (pv 2) (pa_cons (pv 0) pa_nil))))) pa_nil)))), ?_⟩
  walk_at "start"
  walk_at "x"
  refine x_lcB (xs := xs) (fun i => isBD n (es.getD i .none)) (J := Itt K r) (G := fun H => SqT K H r xs) (fun R r2 => ⟨_, rfl, r, rfl, ⟨xs, st_of hr2⟩, r2⟩) walk_tup (by omega) (fun H' s => st_of (s _ _ hr2)) (fun x => rfl) ?_ ?_
  · intro i x H' s hx R hR
    obtain ⟨f, hf, hxf⟩ := hs.get hx
    rw [getDD hf] at hR
    have hxf := DAt.same s f hxf
    walk_at "x"
    refine ⟨x, _, rfl, hxf.odd, ?_⟩
    rw [hxf.isB]
    exact hR H' (Same.refl _)
  · intro p H' hp s hP
    walk_at "x"
    refine x_all hP ?_
    rw [hlen, range_allD (f := isBD n)]
    exact q H' s

/-- what a call of are_before asks -/
theorem before_call {K : PySem.W.Frag} {d : Addr} {H : Hp} {n : Int} {vs : List V} {es : List PyData} {Q : VK} {E : XK} (hs : DAts d H vs es) (hl : es.length ≤ 1000) (q : ∀ H', Same H H' → Q (.bl (es.all (isBD n))) H') : spStar 1 (sp_are_before K) (.int n :: vs) H Q E :=
  ⟨[.int n], vs, rfl, rfl, by rw [hs.len]; exact Nat.le_trans hl (by decide), fun p hp => ⟨d, p, n, vs, es, rfl, upd_same, DAts.same (same_upd hp) es hs, hl, fun H' s => q H' ((same_upd hp).trans s)⟩⟩

end
end Br
namespace Br
open PySem PySem.Spec PyProof.Rows L2
local macro_rules | `(tactic| walk_at "x1") => `(tactic| (with_reducible first
  | refine Br.x_seq ?_ | refine Br.x_set ?_ | refine Br.x_asg ?_ | refine Br.x_next ?_ | refine Br.x_ret ?_ | refine Br.x_retN ?_ | refine Br.x_drop ?_ | refine Br.x_if ?_ | refine Br.x_brk ?_ | refine Br.x_cont ?_
  | refine Br.x_c ?_ | refine Br.x_op ?_ | refine Br.x_un ?_ | refine Br.x_I0 ?_ | refine Br.x_U ?_ | refine Br.x_EqI ?_ | refine Br.x_NeI ?_ | refine Br.x_EqB ?_ | refine Br.x_iN ?_ | refine Br.x_int1 ?_ | refine Br.x_min2 ?_ | refine Br.x_max2 ?_ | refine Br.x_nN ?_ | refine Br.x_ifE ?_
  | refine Br.x_test (b := ()) ?_ | refine Br.x_tB ?_ | refine Br.x_bl ?_ | refine Br.x_and ?_ | refine Br.x_or ?_ | refine Br.x_not ?_ | refine Br.x_andV ?_ | refine Br.x_orV ?_ | refine Br.x_notV ?_ | refine Br.x_blP ?_
  | refine Br.x_nil ?_ | refine Br.x_cons ?_ | refine Br.x_call ?_ | refine Br.x_CB ?_ | refine Br.x_BM ?_ | refine Br.x_tup ?_ | refine Br.x_lst ?_ | refine Br.x_chain ?_ | refine Br.x_par ?_ | refine Br.x_gSub ?_ | refine Br.x_gName ?_ | refine Br.x_fld ?_ | refine Br.x_fldS ?_ | refine Br.x_match ?_ | refine Br.x_else ?_ | refine Br.x_noCase ?_))
local macro_rules | `(tactic| walk_at "xv") => `(tactic| ((with_reducible refine' Br.x_var ?hvar ?_); (case hvar => rfl)))
local macro_rules | `(tactic| walk_at "xd") => `(tactic| (dsimp only [List.set_cons_zero, List.set_cons_succ, List.cons_append, List.nil_append, List.append_nil]))
local macro_rules | `(tactic| walk_at "xi") => `(tactic| ((with_reducible refine Br.x_I ?hside ?_); (case hside => first | exact Br.mul_r (by decide) (by decide) | exact Br.mul_l (by decide) (by decide) | exact Br.mul_l (by omega) (by omega) | exact Br.mul_r (by omega) (by omega) | (show (0 : Int) < _; first | decide | omega) | exact ⟨by decide, by decide⟩ | exact ⟨by omega, by omega⟩ | exact ⟨by decide, by decide, by decide⟩)))
local macro_rules | `(tactic| walk_at "x") => `(tactic| (repeat (first | walk_at "x1" | walk_at "xv" | walk_at "xi" | walk_at "xd")))
local macro_rules | `(tactic| walk_at "start") => `(tactic| (simp only [L2.start, List.map_cons, List.map_nil, List.length_cons, List.length_nil, Nat.reduceAdd, Nat.reduceSub, List.replicate, List.cons_append, List.nil_append, List.append_nil]))
local macro_rules | `(tactic| walk_at "isi") => `(tactic| first
  | refine Br.x_isi (b := true) (.base (.int _)) (by decide +kernel) ?_ | refine Br.x_isi (b := false) (.base (.int _)) (by decide +kernel) ?_
  | refine Br.x_isi (b := true) (.base (.bl _)) (by decide +kernel) ?_ | refine Br.x_isi (b := false) (.base (.bl _)) (by decide +kernel) ?_
  | refine Br.x_isi (b := false) (.base .non) (by decide +kernel) ?_
  | refine Br.x_isi (b := true) (.base (.str _)) (by decide +kernel) ?_ | refine Br.x_isi (b := false) (.base (.str _)) (by decide +kernel) ?_
  | refine Br.x_isi (b := true) (.base (.tup (by assumption))) (by decide +kernel) ?_ | refine Br.x_isi (b := false) (.base (.tup (by assumption))) (by decide +kernel) ?_
  | refine Br.x_isi (b := true) (.base (.lst (by assumption))) (by decide +kernel) ?_ | refine Br.x_isi (b := false) (.base (.lst (by assumption))) (by decide +kernel) ?_)
local macro_rules | `(tactic| walk_at "f") => `(tactic| (refine L2.iteF ?_; walk_at "x"))
local macro_rules | `(tactic| walk_at "t") => `(tactic| (refine L2.iteT ?_; walk_at "x"))
local macro_rules | `(tactic| walk_at "is") => `(tactic| (walk_at "isi"; walk_at "x"))
local macro_rules | `(tactic| walk_at "xb") => `(tactic| (simp only [Br.bindS, List.set_cons_zero, List.set_cons_succ]; walk_at "x"))

section
variable {P : Program} {w : World} {K : PySem.W.Frag} {mg : Str → Option Value} {base : Heap}

open Br

def sp_is_node (K : PySem.W.Frag) : Sp := fun vs H Q _ => ∃ (d a : Addr) (n : Int) (es : List PyData), vs = [.ref a, .int n] ∧ DAt d H (.ref a) (.tuple es) ∧ Sh (.tuple es) ∧ ∀ H', Same H H' → Q (.bl (snodeD n (.tuple es))) H'
theorem sno_first {m : Int} {e0 : PyData} {es : List PyData} (h : ∀ w, e0 ≠ .str w) : snodeD m (.tuple (e0 :: es)) = false := by
  match e0, es, h with
  | .str w, _, h => exact absurd rfl (h w)
  | .none, [], _ => rfl
  | .none, [_], _ => rfl
  | .none, [_, _], _ => rfl
  | .none, _ :: _ :: _ :: _, _ => rfl
  | .bool _, [], _ => rfl
  | .bool _, [_], _ => rfl
  | .bool _, [_, _], _ => rfl
  | .bool _, _ :: _ :: _ :: _, _ => rfl
  | .int _, [], _ => rfl
  | .int _, [_], _ => rfl
  | .int _, [_, _], _ => rfl
  | .int _, _ :: _ :: _ :: _, _ => rfl
  | .list _, [], _ => rfl
  | .list _, [_], _ => rfl
  | .list _, [_, _], _ => rfl
  | .list _, _ :: _ :: _ :: _, _ => rfl
  | .tuple _, [], _ => rfl
  | .tuple _, [_], _ => rfl
  | .tuple _, [_, _], _ => rfl
  | .tuple _, _ :: _ :: _ :: _, _ => rfl
  | .dict _, [], _ => rfl
  | .dict _, [_], _ => rfl
  | .dict _, [_, _], _ => rfl
  | .dict _, _ :: _ :: _ :: _, _ => rfl
theorem ok_is_node (T : Txt K mg) : FnOk P w K mg base CX0 3 T.a_is_node T.fd_is_node ["node", "at"] (sp_is_node K) := by
  refine T.F_is_node.ok sc_is_node (fun vs H Q E h => ?_) (fun cdv A outer s H vs Q E hr h => ?_)
  · obtain ⟨d, a, n, es, rfl, _⟩ := h
    rfl
  · obtain ⟨d, a, n, es, rfl, hv, hsh, q⟩ := h
    cases hv with
    | tup ha hs =>
      rename_i xs
      have hsh := hsh.of_tup
      refine ⟨_, (pss_one (ps_match (pv 0) (pcs_seq rfl (op_eqD hr.units) (pcap_name 2 sc_is_node.nd rfl (.inl rfl) pcap_nil)
      (pss_one (ps_ret (pe_call (ok_is_below T) (hr.mono (by decide)) (by rfl) T.g_is_below T.F_is_below.kp T.b_is_below .nil pass0 (pa_cons (pv 2) (pa_cons (pe_glob (v := .int 1000000000) (by rfl) T.c_CONSTANTS_END ⟨_, rfl⟩) pa_nil)))))
      (pcs_seq rfl (op_eqD hr.units) (pcap_name 3 sc_is_node.nd rfl (.inl rfl) pcap_nil)
      (pss_one (ps_ret (pe_call (ok_is_input T) hr (by rfl) T.g_is_input T.F_is_input.kp T.b_is_input .nil pass0 (pa_cons (pv 3) pa_nil))))
      (pcs_seq rfl (op_eqD hr.units) (pcap_name 4 sc_is_node.nd rfl (.inl rfl) (pcap_name 5 sc_is_node.nd rfl (.inl rfl) pcap_nil))
      (pss_one (ps_ret (pe_callR (ok_are_before T) hr T.F_are_before.kp (by rfl) T.g_are_before pass0 (pa_cons (pv 1) (pa_cons (pv 4) (pa_cons (pv 5) pa_nil))))))
      (pcs_seq rfl (op_eqD hr.units) (pcap_name 4 sc_is_node.nd rfl (.inl rfl) (pcap_name 5 sc_is_node.nd rfl (.inl rfl) pcap_nil))
      (pss_one (ps_ret (pe_callR (ok_are_before T) hr T.F_are_before.kp (by rfl) T.g_are_before pass0 (pa_cons (pv 1) (pa_cons (pv 4) (pa_cons (pv 5) pa_nil))))))
      (pcs_seq rfl (op_eqD hr.units) (pcap_name 2 sc_is_node.nd rfl (.inl rfl) (pcap_name 4 sc_is_node.nd rfl (.inl rfl) pcap_nil))
      (pss_one (ps_ret (pe_and (pe_call (ok_is_below T) (hr.mono (by decide)) (by rfl) T.g_is_below T.F_is_below.kp T.b_is_below .nil pass0 (pa_cons (pv 2) (pa_cons (pe_glob (v := .int 1000000000) (by rfl) T.c_CONSTANTS_END ⟨_, rfl⟩) pa_nil))) (pe_one (pe_callR (ok_are_before T) hr T.F_are_before.kp (by rfl) T.g_are_before pass0 (pa_cons (pv 1) (pa_cons (pv 4) pa_nil)))))))
      (pcs_seq rfl (op_eqD hr.units) (pcap_name 4 sc_is_node.nd rfl (.inl rfl) (pcap_name 5 sc_is_node.nd rfl (.inl rfl) (pcap_name 6 sc_is_node.nd rfl (.inl rfl) pcap_nil)))
      (pss_one (ps_ret (pe_callR (ok_are_before T) hr T.F_are_before.kp (by rfl) T.g_are_before pass0 (pa_cons (pv 1) (pa_cons (pv 4) (pa_cons (pv 5) (pa_cons (pv 6) pa_nil)))))))
      (pcs_else (rest := _) (pss_one (ps_ret pe_bl))))))))))), ?_⟩
      walk_at "start"
      walk_at "x"
      refine x_caseD (st_of ha) hs hsh (by decide +kernel) (by decide) (fun y ys er h1 h2 h3 h4 => ?_) (fun c1 => ?_)
      · subst h2
        obtain ⟨k, rfl⟩ : ∃ k, er = [k] := by
          match er, h3 with
          | [k], _ => exact ⟨k, rfl⟩
        cases h4 with
        | cons h4 h5 =>
          cases h5
          walk_at "xb"
          rw [sn1, if_pos rfl] at q
          refine ⟨_, 1000000000, rfl, h4.odd, ?_⟩
          rw [h4.isB]
          exact q H (Same.refl _)
      refine x_caseD (st_of ha) hs hsh (by decide +kernel) (by decide) (fun y ys er h1 h2 h3 h4 => ?_) (fun c2 => ?_)
      · subst h2
        obtain ⟨k, rfl⟩ : ∃ k, er = [k] := by
          match er, h3 with
          | [k], _ => exact ⟨k, rfl⟩
        cases h4 with
        | cons h4 h5 =>
          cases h5
          walk_at "xb"
          rw [sn1, if_neg (by decide), if_pos rfl] at q
          exact ⟨d, _, _, rfl, h4, q H (Same.refl _)⟩
      refine x_caseD (st_of ha) hs hsh (by decide +kernel) (by decide) (fun y ys er h1 h2 h3 h4 => ?_) (fun c3 => ?_)
      · subst h2
        obtain ⟨i, j, rfl⟩ : ∃ i j, er = [i, j] := by
          match er, h3 with
          | [i, j], _ => exact ⟨i, j, rfl⟩
        cases h4 with
        | cons h4 h5 =>
          cases h5 with
          | cons h5 h6 =>
            cases h6
            walk_at "xb"
            rw [sn2, if_pos rfl] at q
            refine x_callR ?_
            walk_at "x"
            refine before_call (.cons h4 (.cons h5 .nil)) (Nat.le_of_ble_eq_true rfl) fun H' s => ?_
            have e : [i, j].all (isBD n) = (isBD n i && isBD n j) := by show (isBD n i && (isBD n j && true)) = _; rw [Bool.and_true]
            rw [e]
            exact q H' s
      refine x_caseD (st_of ha) hs hsh (by decide +kernel) (by decide) (fun y ys er h1 h2 h3 h4 => ?_) (fun c4 => ?_)
      · subst h2
        obtain ⟨i, j, rfl⟩ : ∃ i j, er = [i, j] := by
          match er, h3 with
          | [i, j], _ => exact ⟨i, j, rfl⟩
        cases h4 with
        | cons h4 h5 =>
          cases h5 with
          | cons h5 h6 =>
            cases h6
            walk_at "xb"
            rw [sn2, if_neg (by decide), if_pos rfl] at q
            refine x_callR ?_
            walk_at "x"
            refine before_call (.cons h4 (.cons h5 .nil)) (Nat.le_of_ble_eq_true rfl) fun H' s => ?_
            have e : [i, j].all (isBD n) = (isBD n i && isBD n j) := by show (isBD n i && (isBD n j && true)) = _; rw [Bool.and_true]
            rw [e]
            exact q H' s
      refine x_caseD (st_of ha) hs hsh (by decide +kernel) (by decide) (fun y ys er h1 h2 h3 h4 => ?_) (fun c5 => ?_)
      · subst h2
        obtain ⟨i, j, rfl⟩ : ∃ i j, er = [i, j] := by
          match er, h3 with
          | [i, j], _ => exact ⟨i, j, rfl⟩
        cases h4 with
        | cons h4 h5 =>
          cases h5 with
          | cons h5 h6 =>
            cases h6
            walk_at "xb"
            rw [sn2, if_neg (by decide), if_neg (by decide), if_pos rfl] at q
            refine ⟨_, 1000000000, rfl, h4.odd, ?_⟩
            rw [h4.isB]
            refine x_blP ?_
            refine x_iteB (fun hb => ?_) (fun hb => ?_)
            · refine x_callR ?_
              walk_at "x"
              refine before_call (.cons h5 .nil) (Nat.le_of_ble_eq_true rfl) fun H' s => ?_
              have e : [j].all (isBD n) = isBD n j := by show (isBD n j && true) = _; rw [Bool.and_true]
              rw [e]
              rw [hb, Bool.true_and] at q
              exact q H' s
            · rw [hb, Bool.false_and] at q
              exact q H (Same.refl _)
      refine x_caseD (st_of ha) hs hsh (by decide +kernel) (by decide) (fun y ys er h1 h2 h3 h4 => ?_) (fun c6 => ?_)
      · subst h2
        obtain ⟨i, j, l, rfl⟩ : ∃ i j l, er = [i, j, l] := by
          match er, h3 with
          | [i, j, l], _ => exact ⟨i, j, l, rfl⟩
        cases h4 with
        | cons h4 h5 =>
          cases h5 with
          | cons h5 h6 =>
            cases h6 with
            | cons h6 h7 =>
              cases h7
              walk_at "xb"
              rw [sn3, if_pos rfl] at q
              refine x_callR ?_
              walk_at "x"
              refine before_call (.cons h4 (.cons h5 (.cons h6 .nil))) (Nat.le_of_ble_eq_true rfl) fun H' s => ?_
              have e : [i, j, l].all (isBD n) = (isBD n i && (isBD n j && isBD n l)) := by show (isBD n i && (isBD n j && (isBD n l && true))) = _; rw [Bool.and_true]
              rw [e]
              exact q H' s
      walk_at "x"
      have e : snodeD n (.tuple es) = false := by
        match es, c1, c2, c3, c4, c5, c6 with
        | [], _, _, _, _, _, _ => rfl
        | [.str w, k], c1, c2, _, _, _, _ =>
          have c1 : (true && decide (w = "const")) = false := c1
          have c2 : (true && decide (w = "input")) = false := c2
          rw [Bool.true_and, decide_eq_false_iff_not] at c1 c2
          rw [sn1, if_neg c1, if_neg c2]
        | [.str w, i, j], _, _, c3, c4, c5, _ =>
          have c3 : (true && decide (w = "sum")) = false := c3
          have c4 : (true && decide (w = "product")) = false := c4
          have c5 : (true && decide (w = "scaled")) = false := c5
          rw [Bool.true_and, decide_eq_false_iff_not] at c3 c4 c5
          rw [sn2, if_neg c3, if_neg c4, if_neg c5]
        | [.str w, i, j, l], _, _, _, _, _, c6 =>
          have c6 : (true && decide (w = "choose")) = false := c6
          rw [Bool.true_and, decide_eq_false_iff_not] at c6
          rw [sn3, if_neg c6]
        | [.str w], _, _, _, _, _, _ => rfl
        | .str w :: _ :: _ :: _ :: _ :: _, _, _, _, _, _, _ => rfl
        | .none :: es, _, _, _, _, _, _ => exact sno_first (fun w h => by cases h)
        | .bool _ :: es, _, _, _, _, _, _ => exact sno_first (fun w h => by cases h)
        | .int _ :: es, _, _, _, _, _, _ => exact sno_first (fun w h => by cases h)
        | .list _ :: es, _, _, _, _, _, _ => exact sno_first (fun w h => by cases h)
        | .tuple _ :: es, _, _, _, _, _, _ => exact sno_first (fun w h => by cases h)
        | .dict _ :: es, _, _, _, _, _, _ => exact sno_first (fun w h => by cases h)
      rw [← e]
      exact q H (Same.refl _)


def sp_is_source (K : PySem.W.Frag) : Sp := fun vs H Q _ => ∃ (d : Addr) (v : V) (e : PyData), vs = [v] ∧ DAt d H v e ∧ Sh e ∧ ∀ H', Same H H' → Q (.bl (sourceD e)) H'
theorem sourceD_no {e : PyData} (h : nodesD e = false) : sourceD e = false := by
  cases e with
  | tuple es =>
    show (nodesD (.tuple es) && _) = false
    rw [h, Bool.false_and]
  | _ => rfl
theorem range_all2 {es : List PyData} {f : Nat → PyData → Bool} : ((List.range es.length).map fun i => f i (es.getD i .none)).all id = (List.range es.length).all fun i => f i (es.getD i .none) := by rw [List.all_map]; rfl
theorem ok_is_source (T : Txt K mg) : FnOk P w K mg base CX0 4 T.a_is_source T.fd_is_source ["source"] (sp_is_source K) := by
  refine T.F_is_source.ok sc_is_source (fun vs H Q E h => ?_) (fun cdv A outer s H vs Q E hr h => ?_)
  · obtain ⟨d, v, e, rfl, _⟩ := h
    rfl
  · obtain ⟨d, v, e, rfl, hv, hsh, q⟩ := h
    refine ⟨_, (pss_cons (ps_if (pt_not (pt_val (pe_call (ok_are_nodes T) (hr.mono (by decide)) (by rfl) T.g_are_nodes T.F_are_nodes.kp T.b_are_nodes .nil pass0 (pa_cons (pv 0) pa_nil))))
      (pss_one (ps_ret pe_bl))
      pss_nil)
      (pss_one (ps_ret (pe_callB (id := "all") (r := rAll K) (cr_all rfl) (by rfl) T.m_all (by decide +kernel) (pa_cons (pe_lc (own := [("at", 1), ("node", 2)]) (g := gTup K 2 (gCons (gName 1) (gCons (gName 2) gNil))) (tt := tYes) rfl sc_is_source.nd (pi_enumT (K2 := K) rfl (by rfl) T.m_enumerate (pa_cons (pv 0) pa_nil)) (blkOk_by (N := N_is_source) (sc := defScope s_is_source) (by decide +kernel)) (fun _ _ _ _ _ => (pg_tup rfl (pgs_cons (pg_name (i := 1) sc_is_source.nd rfl (Or.inl rfl)) (pgs_cons (pg_name (i := 2) sc_is_source.nd rfl (Or.inl rfl)) pgs_nil)))) (fun _ _ _ _ _ => pts_nil) (fun _ _ _ _ _ => (pe_call (ok_is_node T) hr (by rfl) T.g_is_node T.F_is_node.kp T.b_is_node .nil pass0 (pa_cons (pv 2) (pa_cons (pv 1) pa_nil))))) pa_nil))))), ?_⟩
    walk_at "start"
    walk_at "x"
    refine ⟨d, v, e, rfl, hv, fun H1 s1 => ?_⟩
    walk_at "x"
    refine x_iteBN (fun h0 => ?_) (fun h0 => ?_)
    · walk_at "x"
      rw [sourceD_no h0] at q
      exact q H1 s1
    cases e with
    | tuple es =>
      cases hv with
      | tup ha hs =>
        rename_i a xs
        have hlen := hs.len
        have hsh2 := hsh.of_tup
        have hb : ((decide (1 ≤ es.length) && decide (es.length ≤ 200)) && es.all isTupD) = true := h0
        rw [Bool.and_eq_true, Bool.and_eq_true, decide_eq_true_iff, decide_eq_true_iff] at hb
        walk_at "x"
        refine x_lcEnT (xs := xs) (fun i => .bl (snodeD (i : Int) (es.getD i .none))) (fun R r => by walk_at "x"; exact r) (st_of (s1 _ _ ha)) (by omega) (fun x y => rfl) (fun H' s => st_of (s _ _ (s1 _ _ ha))) ?_ ?_
        · intro i x H' s hx R hR
          obtain ⟨f, hf, hxf⟩ := hs.get hx
          rw [getDD hf] at hR
          have hft := List.all_eq_true.mp hb.2 f (List.mem_of_getElem? hf)
          cases f with
          | tuple fs =>
            have hxf := DAt.same (s1.trans s) _ hxf
            obtain ⟨b, rfl⟩ : ∃ b, x = .ref b := by cases hxf; exact ⟨_, rfl⟩
            walk_at "x"
            exact ⟨d, b, (i : Int), fs, rfl, hxf, hsh2 _ (List.mem_of_getElem? hf), hR⟩
          | _ => cases hft
        · intro p H' hp s hP
          walk_at "x"
          have hP2 : H' p = some (.lst (((List.range xs.length).map fun (i : Nat) => snodeD (i : Int) (es.getD i .none)).map V.bl)) := by rw [hP, List.map_map]; rfl
          refine x_all hP2 ?_
          rw [hlen, range_all2 (f := fun (i : Nat) e => snodeD (i : Int) e)]
          have e : sourceD (.tuple es) = ((List.range es.length).all fun i => snodeD (i : Int) (es.getD i .none)) := by
            show (nodesD (.tuple es) && _) = _
            rw [h0, Bool.true_and]
          rw [← e]
          exact q H' (s1.trans s)
    | _ => cases h0


def sp_check_source (CS : Addr) (K : PySem.W.Frag) : Sp := fun vs H Q E => ∃ (d : Addr) (v : V) (e : PyData), vs = [v] ∧ DAt d H v e ∧ Sh e ∧ (sourceD e = false → ∀ H', Same H H' → E (.ref CS) none H') ∧ (sourceD e = true → ∀ H', Same H H' → Q .non H')
theorem ok_check_source (T : Txt K mg) : FnOk P w K mg base (L2.CX P w) 5 T.a_check_source T.fd_check_source ["source"] (sp_check_source T.E_BadSource K) := by
  refine T.F_check_source.okX sc_check_source (fun vs H Q E h => ?_) (fun cdv A outer s H vs Q E hr h => ?_)
  · obtain ⟨d, v, e, rfl, _⟩ := h
    rfl
  · obtain ⟨d, v, e, rfl, hv, hsh, hE, hQ⟩ := h
    refine ⟨_, (pss_one (ps_if (pt_not (pt_val (pe_call (ok_is_source T) hr (by rfl) T.g_is_source T.F_is_source.kp T.b_is_source .nil pass0 (pa_cons (pv 0) pa_nil))))
      (pss_one (ps_raise rfl (takes_of rfl rfl rfl rfl) (pmk_own PySem.F.excBase_ValueError T.xE_BadSource T.gE_BadSource T.kE_BadSource (raises_own T.bE_BadSource T.tE_BadSource) (by exact rfl))))
      pss_nil)), ?_⟩
    walk_at "start"
    walk_at "x"
    refine ⟨d, v, e, rfl, hv, hsh, fun H1 s1 => ?_⟩
    walk_at "x"
    refine x_iteBN (fun h0 => ?_) (fun h0 => ?_)
    · exact hE h0 H1 s1
    · exact hQ h0 H1 s1


theorem nat_get {ls : List Nat} {i : Nat} (h : i < ls.length) : (cInts ls)[i]? = some (.int ((ls.getD i 0 : Nat) : Int)) := by
  unfold cInts
  rw [List.getElem?_map, List.getElem?_eq_getElem h, List.getD_eq_getElem?_getD, List.getElem?_eq_getElem h]
  rfl
def sp_cost_of (K : PySem.W.Frag) : Sp := fun vs H Q _ => ∃ (a la : Addr) (n : SN) (cs : List Nat), vs = [.ref a, .ref la] ∧ H a = some (.tup (snV n)) ∧ H la = some (.lst (cInts cs)) ∧ SnOk cs.length n ∧ Q (.int ((cost1 cs n : Nat) : Int)) H
theorem ok_cost_of (T : Txt K mg) : FnOk P w K mg base CX0 1 T.a_cost_of T.fd_cost_of ["node", "costs"] (sp_cost_of K) := by
  refine T.F_cost_of.ok sc_cost_of (fun vs H Q E h => ?_) (fun cdv A outer s H vs Q E hr h => ?_)
  · obtain ⟨a, la, n, cs, rfl, _⟩ := h
    rfl
  · obtain ⟨a, la, n, cs, rfl, ha, hla, ok, q⟩ := h
    refine ⟨_, (pss_one (ps_match (pv 0) (pcs_seq rfl op_eq (pcap_name 2 sc_cost_of.nd rfl (.inl rfl) (pcap_name 3 sc_cost_of.nd rfl (.inl rfl) pcap_nil))
      (pss_one (ps_ret (pe_op op_add (pe_ix (r := rIxL K) ix_list (pv 1) (pv 2) (fun _ _ => rfl)) (pe_ix (r := rIxL K) ix_list (pv 1) (pv 3) (fun _ _ => rfl)))))
      (pcs_seq rfl op_eq (pcap_name 2 sc_cost_of.nd rfl (.inl rfl) (pcap_name 3 sc_cost_of.nd rfl (.inl rfl) pcap_nil))
      (pss_one (ps_ret (pe_op op_mul pe_int (pe_op op_add (pe_ix (r := rIxL K) ix_list (pv 1) (pv 2) (fun _ _ => rfl)) (pe_ix (r := rIxL K) ix_list (pv 1) (pv 3) (fun _ _ => rfl))))))
      (pcs_seq rfl op_eq (pcap_wild (pcap_name 2 sc_cost_of.nd rfl (.inl rfl) pcap_nil))
      (pss_one (ps_ret (pe_ix (r := rIxL K) ix_list (pv 1) (pv 2) (fun _ _ => rfl))))
      (pcs_seq rfl op_eq (pcap_name 2 sc_cost_of.nd rfl (.inl rfl) (pcap_name 3 sc_cost_of.nd rfl (.inl rfl) (pcap_name 4 sc_cost_of.nd rfl (.inl rfl) pcap_nil)))
      (pss_one (ps_ret (pe_op op_add (pe_ix (r := rIxL K) ix_list (pv 1) (pv 4) (fun _ _ => rfl)) (pe_op op_mul pe_int (pe_op op_add (pe_op op_add (pe_ix (r := rIxL K) ix_list (pv 1) (pv 2) (fun _ _ => rfl)) (pe_ix (r := rIxL K) ix_list (pv 1) (pv 3) (fun _ _ => rfl))) (pe_ix (r := rIxL K) ix_list (pv 1) (pv 4) (fun _ _ => rfl)))))))
      (pcs_else (rest := _) (pss_one (ps_ret pe_int))))))))), ?_⟩
    walk_at "start"
    walk_at "x"
    cases n with
    | con c =>
      have ha : H a = some (.tup [.str "const", .int (c : Int)]) := ha
      refine x_caseNo (st_of ha) (by show (2 : Nat) ≠ 3; decide) ?_
      refine x_caseNo (st_of ha) (by show (2 : Nat) ≠ 3; decide) ?_
      refine x_caseNo (st_of ha) (by show (2 : Nat) ≠ 3; decide) ?_
      refine x_caseNo (st_of ha) (by show (2 : Nat) ≠ 4; decide) ?_
      walk_at "x"
      exact q
    | inp c =>
      have ha : H a = some (.tup [.str "input", .int (c : Int)]) := ha
      refine x_caseNo (st_of ha) (by show (2 : Nat) ≠ 3; decide) ?_
      refine x_caseNo (st_of ha) (by show (2 : Nat) ≠ 3; decide) ?_
      refine x_caseNo (st_of ha) (by show (2 : Nat) ≠ 3; decide) ?_
      refine x_caseNo (st_of ha) (by show (2 : Nat) ≠ 4; decide) ?_
      walk_at "x"
      exact q
    | sum i j =>
      have ha : H a = some (.tup [.str "sum", .int (i : Int), .int (j : Int)]) := ha
      refine x_caseY (st_of ha) rfl ?_
      walk_at "xb"
      refine x_ixL (sq_of hla) (atI_nat (nat_get ok.1)) ?_
      walk_at "x"
      refine x_ixL (sq_of hla) (atI_nat (nat_get ok.2)) ?_
      walk_at "x"
      exact q
    | prod i j =>
      have ha : H a = some (.tup [.str "product", .int (i : Int), .int (j : Int)]) := ha
      refine x_caseW (st_of ha) rfl (by decide) ?_
      refine x_caseY (st_of ha) rfl ?_
      walk_at "xb"
      refine x_ixL (sq_of hla) (atI_nat (nat_get ok.1)) ?_
      walk_at "x"
      refine x_ixL (sq_of hla) (atI_nat (nat_get ok.2)) ?_
      walk_at "x"
      exact q
    | scl c i =>
      have ha : H a = some (.tup [.str "scaled", .int (c : Int), .int (i : Int)]) := ha
      refine x_caseW (st_of ha) rfl (by decide) ?_
      refine x_caseW (st_of ha) rfl (by decide) ?_
      refine x_caseY (st_of ha) rfl ?_
      walk_at "xb"
      refine x_ixL (sq_of hla) (atI_nat (nat_get ok.2)) ?_
      walk_at "x"
      exact q
    | cho i j l =>
      have ha : H a = some (.tup [.str "choose", .int (i : Int), .int (j : Int), .int (l : Int)]) := ha
      refine x_caseNo (st_of ha) (by show (4 : Nat) ≠ 3; decide) ?_
      refine x_caseNo (st_of ha) (by show (4 : Nat) ≠ 3; decide) ?_
      refine x_caseNo (st_of ha) (by show (4 : Nat) ≠ 3; decide) ?_
      refine x_caseY (st_of ha) rfl ?_
      walk_at "xb"
      refine x_ixL (sq_of hla) (atI_nat (nat_get ok.2.2)) ?_
      walk_at "x"
      refine x_ixL (sq_of hla) (atI_nat (nat_get ok.1)) ?_
      walk_at "x"
      refine x_ixL (sq_of hla) (atI_nat (nat_get ok.2.1)) ?_
      walk_at "x"
      refine x_ixL (sq_of hla) (atI_nat (nat_get ok.2.2)) ?_
      walk_at "x"
      exact q


def sp_cost (CS : Addr) (K : PySem.W.Frag) : Sp := fun vs H Q E => ∃ (d : Addr) (v : V) (e : PyData), vs = [v] ∧ DAt d H v e ∧ Sh e ∧ (sourceD e = false → ∀ H', Same H H' → E (.ref CS) none H') ∧ (∀ ns : List SN, e = .tuple (ns.map snD) → SsOk ns → ∀ H', Same H H' → Q (.int ((costF ns : Nat) : Int)) H')
theorem ok_cost (T : Txt K mg) : FnOk P w K mg base (L2.CX P w) 6 T.a_cost T.fd_cost ["source"] (sp_cost T.E_BadSource K) := by
  refine T.F_cost.okX sc_cost (fun vs H Q E h => ?_) (fun cdv A outer s H vs Q E hr h => ?_)
  · obtain ⟨d, v, e, rfl, _⟩ := h
    rfl
  · obtain ⟨d, v, e, rfl, hv, hsh, hE, hQ⟩ := h
    refine ⟨_, (pss_cons (ps_expr (pe_call (ok_check_source T) hr (by rfl) T.g_check_source T.F_check_source.kp T.b_check_source .nil (passes_call (takes_of rfl rfl rfl rfl) (fun _ _ _ _ h => h)) (pa_cons (pv 0) pa_nil)))
      (PSs.nox (pss_cons (ps_set (i := 1) sc_cost.nd rfl (.inl rfl) (pe_lst pa_nil))
      (pss_cons (ps_for PassesOwn.never rfl (pi_tup (pv 0)) (pg_name (i := 2) sc_cost.nd rfl (Or.inl rfl))
      (pss_one (ps_expr (pe_bm PySem.F.plainAttrs_list PySem.F.slot_list_append PySem.F.type_list_append mt_append (pv 1) (pa_cons (pe_call (ok_cost_of T) (hr.mono (by decide)) (by rfl) T.g_cost_of T.F_cost_of.kp T.b_cost_of .nil pass0 (pa_cons (pv 2) (pa_cons (pv 1) pa_nil))) pa_nil)))))
      (pss_one (ps_ret (pe_ix (r := rIxL K) ix_list (pv 1) (pe_un un_neg pe_int) (fun _ _ => rfl)))))))), ?_⟩
    walk_at "start"
    walk_at "x"
    refine ⟨d, v, e, rfl, hv, hsh, hE, fun hb H1 s1 => ?_⟩
    obtain ⟨ns, rfl, hok⟩ := sourceD_iff.mp hb
    have q := hQ ns rfl hok
    obtain ⟨o1, o2, o3⟩ := hok
    cases hv with
    | tup ha hs =>
      rename_i a xs
      obtain ⟨as, rfl, hal, hat⟩ := sns_at hs
      walk_at "x"
      refine ⟨by show 0 ≤ sizeLine; decide, fun p hp => ?_⟩
      have hp0 : H p = none := s1.free hp
      have s2 := s1.trans (same_upd (o := .lst []) hp)
      have e2 : (upd H1 p (.lst [])) p = some (.lst (cInts [])) := upd_same
      generalize upd H1 p (.lst []) = H2 at s2 e2
      walk_at "x"
      refine x_forI (J := Itt K a) (n := (as.map V.ref).length) (G := fun H => SqT K H a (as.map V.ref)) (fun R r => ⟨_, rfl, a, rfl, ⟨_, st_of (s2 _ _ ha)⟩, r⟩) walk_tup (fun k σ' H' => ∃ v2, σ' = [some (.ref a), some (.ref p), v2] ∧ Same H H' ∧ H' p = some (.lst (cInts (costsF (ns.take k))))) ⟨_, rfl, s2, e2⟩ (fun k σ' H' _ z => by obtain ⟨_, _, z, _⟩ := z; exact st_of (z _ _ ha)) ?_ ?_
      · rintro k x σ' H3 H4 hk ⟨v2, rfl, s3, e3⟩ ⟨rfl, hx⟩
        obtain ⟨b, hb2, rfl⟩ := map_getR hx
        obtain ⟨n, hn⟩ : ∃ n, ns[k]? = some n := ⟨_, List.getElem?_eq_getElem (by rw [List.length_map] at hk; omega)⟩
        have hb3 := s3 _ _ (hat k n b hn hb2)
        have hll : (costsF (ns.take k)).length = k := by
          rw [costs_len, List.length_take]
          have := (List.getElem?_eq_some_iff.mp hn).1
          omega
        have hst : costsF (ns.take (k + 1)) = costsF (ns.take k) ++ [cost1 (costsF (ns.take k)) n] := by
          rw [take_snocG hn]
          exact costs_snoc
        walk_at "x"
        refine x_tyL e3 ?_
        walk_at "x"
        refine ⟨b, p, n, _, rfl, hb3, e3, by rw [hll]; exact o3 k n hn, ?_⟩
        walk_at "x"
        refine x_app e3 (by rw [cInts_len, hll]; rw [List.length_map] at hk; omega) ?_
        walk_at "x"
        exact ⟨_, rfl, same_keep hp0 s3 keep_upd, by rw [upd_same, hst, cInts_snoc]⟩
      · rintro σ' H3 ⟨v2, rfl, s3, e3⟩
        rw [List.length_map, hal, List.take_length] at e3
        have hll : (costsF ns).length = ns.length := costs_len
        walk_at "x"
        refine x_ixL (sq_of e3) (atI_m1 (by rw [cInts_len, hll]; omega) (nat_get (by rw [cInts_len, hll]; omega))) ?_
        rw [cInts_len, hll]
        exact q H3 s3


end
end Br
namespace Br
open PySem PySem.Spec PyProof.Rows L2
local macro_rules | `(tactic| walk_at "x1") => `(tactic| (with_reducible first
  | refine Br.x_seq ?_ | refine Br.x_set ?_ | refine Br.x_asg ?_ | refine Br.x_next ?_ | refine Br.x_ret ?_ | refine Br.x_retN ?_ | refine Br.x_drop ?_ | refine Br.x_if ?_ | refine Br.x_brk ?_ | refine Br.x_cont ?_
  | refine Br.x_c ?_ | refine Br.x_op ?_ | refine Br.x_un ?_ | refine Br.x_I0 ?_ | refine Br.x_U ?_ | refine Br.x_EqI ?_ | refine Br.x_NeI ?_ | refine Br.x_EqB ?_ | refine Br.x_iN ?_ | refine Br.x_int1 ?_ | refine Br.x_min2 ?_ | refine Br.x_max2 ?_ | refine Br.x_nN ?_ | refine Br.x_ifE ?_
  | refine Br.x_test (b := ()) ?_ | refine Br.x_tB ?_ | refine Br.x_bl ?_ | refine Br.x_and ?_ | refine Br.x_or ?_ | refine Br.x_not ?_ | refine Br.x_andV ?_ | refine Br.x_orV ?_ | refine Br.x_notV ?_ | refine Br.x_blP ?_
  | refine Br.x_nil ?_ | refine Br.x_cons ?_ | refine Br.x_call ?_ | refine Br.x_CB ?_ | refine Br.x_BM ?_ | refine Br.x_tup ?_ | refine Br.x_lst ?_ | refine Br.x_chain ?_ | refine Br.x_par ?_ | refine Br.x_gSub ?_ | refine Br.x_gName ?_ | refine Br.x_fld ?_ | refine Br.x_fldS ?_ | refine Br.x_match ?_ | refine Br.x_else ?_ | refine Br.x_noCase ?_))
local macro_rules | `(tactic| walk_at "xv") => `(tactic| ((with_reducible refine' Br.x_var ?hvar ?_); (case hvar => rfl)))
local macro_rules | `(tactic| walk_at "xd") => `(tactic| (dsimp only [List.set_cons_zero, List.set_cons_succ, List.cons_append, List.nil_append, List.append_nil]))
local macro_rules | `(tactic| walk_at "xi") => `(tactic| ((with_reducible refine Br.x_I ?hside ?_); (case hside => first | exact Br.mul_r (by decide) (by decide) | exact Br.mul_l (by decide) (by decide) | exact Br.mul_l (by omega) (by omega) | exact Br.mul_r (by omega) (by omega) | (show (0 : Int) < _; first | decide | omega) | exact ⟨by decide, by decide⟩ | exact ⟨by omega, by omega⟩ | exact ⟨by decide, by decide, by decide⟩)))
local macro_rules | `(tactic| walk_at "x") => `(tactic| (repeat (first | walk_at "x1" | walk_at "xv" | walk_at "xi" | walk_at "xd")))
local macro_rules | `(tactic| walk_at "start") => `(tactic| (simp only [L2.start, List.map_cons, List.map_nil, List.length_cons, List.length_nil, Nat.reduceAdd, Nat.reduceSub, List.replicate, List.cons_append, List.nil_append, List.append_nil]))
local macro_rules | `(tactic| walk_at "isi") => `(tactic| first
  | refine Br.x_isi (b := true) (.base (.int _)) (by decide +kernel) ?_ | refine Br.x_isi (b := false) (.base (.int _)) (by decide +kernel) ?_
  | refine Br.x_isi (b := true) (.base (.bl _)) (by decide +kernel) ?_ | refine Br.x_isi (b := false) (.base (.bl _)) (by decide +kernel) ?_
  | refine Br.x_isi (b := false) (.base .non) (by decide +kernel) ?_
  | refine Br.x_isi (b := true) (.base (.str _)) (by decide +kernel) ?_ | refine Br.x_isi (b := false) (.base (.str _)) (by decide +kernel) ?_
  | refine Br.x_isi (b := true) (.base (.tup (by assumption))) (by decide +kernel) ?_ | refine Br.x_isi (b := false) (.base (.tup (by assumption))) (by decide +kernel) ?_
  | refine Br.x_isi (b := true) (.base (.lst (by assumption))) (by decide +kernel) ?_ | refine Br.x_isi (b := false) (.base (.lst (by assumption))) (by decide +kernel) ?_)
local macro_rules | `(tactic| walk_at "f") => `(tactic| (refine L2.iteF ?_; walk_at "x"))
local macro_rules | `(tactic| walk_at "t") => `(tactic| (refine L2.iteT ?_; walk_at "x"))
local macro_rules | `(tactic| walk_at "is") => `(tactic| (walk_at "isi"; walk_at "x"))
local macro_rules | `(tactic| walk_at "xb") => `(tactic| (simp only [Br.bindS, List.set_cons_zero, List.set_cons_succ]; walk_at "x"))

section
variable {P : Program} {w : World} {K : PySem.W.Frag} {mg : Str → Option Value} {base : Heap}

theorem Eqv.bls {K : PySem.W.Frag} {H : Hp} {n : Nat} {a b : Addr} {xs : List Bool} (h1 : H a = some (.lst (Br.bls xs))) (h2 : H b = some (.lst (Br.bls xs))) (hz : xs.length ≤ 100000) : Eqv K H (n + 2) (.ref a) (.ref b) :=
  Eqv.lst h1 h2 rfl (by rw [bls_len]; exact hz) fun i x y e1 e2 => by
    rw [e1] at e2
    cases e2
    obtain ⟨z, _, rfl⟩ := List.mem_map.mp (List.mem_of_getElem? e1)
    exact .bl
theorem keep_tupsG {d n : Addr} {H H' : Hp} (k : Keep d H H') (h : Dr H d n) : ∀ b xs, H b = some (.tup xs) → H' b = some (.tup xs) := fun b xs e => by
  obtain ⟨_, _, h, _⟩ := h
  exact k _ _ e (ne_of e h (by intro z; cases z))
theorem x_lcPreY {σ : L2.St} {H : Hp} {Q : VK} {ta : TE} {j : Nat} {te : TE} {vs : List Nat} (h : ta σ H fun v H1 => tLc (iRng1 (tCons (tC v) tNil)) (gName j) tYes te vs σ H1 Q) : tLc (iRng1 (tCons ta tNil)) (gName j) tYes te vs σ H Q := h
theorem x_forPre {σ : L2.St} {H : Hp} {D : Ends} {ta : TE} {g : TG} {tb : TS} (h : ta σ H fun v H1 => tFor (iRng1 (tCons (tC v) tNil)) g tb D σ H1) : tFor (iRng1 (tCons ta tNil)) g tb D σ H := h

open Br
theorem le_foldr {ls : List Nat} {i : Nat} : ls.getD i 0 ≤ ls.foldr max 1 ∧ 1 ≤ ls.foldr max 1 := by
  induction ls generalizing i with
  | nil => exact ⟨by simp, Nat.le_refl _⟩
  | cons x ls ih =>
    show _ ≤ max x (ls.foldr max 1) ∧ 1 ≤ max x (ls.foldr max 1)
    refine ⟨?_, Nat.le_trans (ih (i := 0)).2 (Nat.le_max_right _ _)⟩
    cases i with
    | zero => exact Nat.le_max_left _ _
    | succ i => exact Nat.le_trans (ih (i := i)).1 (Nat.le_max_right _ _)
theorem foldr_snoc {ls : List Nat} {x : Nat} : (ls ++ [x]).foldr max 1 = max (ls.foldr max 1) x := by
  induction ls with
  | nil => show max x 1 = max 1 x; exact Nat.max_comm _ _
  | cons y ls ih =>
    show max y ((ls ++ [x]).foldr max 1) = max (max y (ls.foldr max 1)) x
    rw [ih, Nat.max_assoc]

def sp_law_constant (K : PySem.W.Frag) : Sp := fun vs H Q _ => ∃ (d n : Addr), vs = [.ref d] ∧ Dr H d n ∧ RetD d n (fun v => ∃ c : Nat, v = .int (c : Int) ∧ c < 1000000000) H Q
theorem ok_law_constant (T : Txt K mg) : FnOk P w K mg base CX0 4 T.a_law_constant T.fd_law_constant ["draws"] (sp_law_constant K) := by
  refine T.F_law_constant.ok sc_law_constant (fun vs H Q E h => ?_) (fun cdv A outer s H vs Q E hr h => ?_)
  · obtain ⟨d, n, rfl, _⟩ := h
    rfl
  · obtain ⟨d, n, rfl, hD, q⟩ := h
    refine ⟨_, (pss_cons (ps_set (i := 1) sc_law_constant.nd rfl (.inl rfl) (pe_op op_mod (pe_call (ok_law_draw T) (hr.mono (by decide)) (by rfl) T.g_law_draw T.F_law_draw.kp T.b_law_draw .nil pass0 (pa_cons (pv 0) pa_nil)) pe_int))
      (pss_cons (ps_if (pt_cmpR op_lt (pv 1) pe_int (nomark _))
      (pss_one (ps_ret (pe_ix (r := rIxL K) ix_list (pe_lst (pa_cons pe_int (pa_cons pe_int (pa_cons (pe_op op_sub (pe_op op_pow pe_int pe_int) pe_int) pa_nil)))) (pv 1) (fun _ _ => rfl))))
      pss_nil)
      (pss_one (ps_ret (pe_call (ok_law_large T) hr (by rfl) T.g_law_large T.F_law_large.kp T.b_law_large .nil pass0 (pa_cons (pv 0) (pa_cons (pe_op op_pow pe_int pe_int) pa_nil))))))), ?_⟩
    walk_at "start"
    walk_at "x"
    refine ⟨d, n, rfl, hD, ?_⟩
    rintro _ H1 ⟨z, rfl, z0, z1⟩ hD1 k1
    walk_at "x"
    refine x_ite (fun h0 => ?_) (fun h0 => ?_)
    · walk_at "x"
      refine ⟨by show 3 ≤ sizeLine; decide, fun p hp => ?_⟩
      walk_at "x"
      obtain ⟨v, hv, hm⟩ := at_lt (xs := [.int 0, .int 1, .int (10 ^ (9 : Int).toNat - 1)]) (i := z % 5) (Int.emod_nonneg _ (by decide)) (show _ < (3 : Int) from h0)
      refine x_ixL (sq_of upd_same) hv ?_
      refine q _ _ ?_ (hD1.upd0 hp) (k1.trans (Same.keep (same_upd hp)))
      simp only [List.mem_cons, List.not_mem_nil, or_false] at hm
      rcases hm with rfl | rfl | rfl
      · exact ⟨0, rfl, by decide⟩
      · exact ⟨1, rfl, by decide⟩
      · exact ⟨999999999, rfl, by decide⟩
    · walk_at "x"
      refine ⟨d, n, _, rfl, by decide, hD1, ?_⟩
      rintro _ H2 ⟨y, rfl, y0, y1⟩ hD2 k2
      have e : (10 ^ (9 : Int).toNat : Int) = 1000000000 := by decide
      rw [e] at y1
      exact q _ _ ⟨y.toNat, by rw [show ((y.toNat : Nat) : Int) = y by omega], by omega⟩ hD2 (k1.trans k2)


def leafN : SN → Prop
  | .con c => c < 1000000000
  | .inp k => k < 60
  | _ => False
theorem leaf_ok {n : SN} {m : Nat} (h : leafN n) : SnOk m n := by cases n <;> first | exact h | exact h.elim
theorem leaf_cost {n : SN} {cs : List Nat} (h : leafN n) : cost1 cs n = 1 := by cases n <;> first | rfl | exact h.elim
def sp_law_leaf (K : PySem.W.Frag) : Sp := fun vs H Q _ => ∃ (d n : Addr), vs = [.ref d] ∧ Dr H d n ∧ RetG d n (fun v H' => ∃ (t : Addr) (b : SN), v = .ref t ∧ H' t = some (.tup (snV b)) ∧ leafN b) H Q
theorem ok_law_leaf (T : Txt K mg) : FnOk P w K mg base CX0 5 T.a_law_leaf T.fd_law_leaf ["draws"] (sp_law_leaf K) := by
  refine T.F_law_leaf.ok sc_law_leaf (fun vs H Q E h => ?_) (fun cdv A outer s H vs Q E hr h => ?_)
  · obtain ⟨d, n, rfl, _⟩ := h
    rfl
  · obtain ⟨d, n, rfl, hD, q⟩ := h
    refine ⟨_, (pss_cons (ps_if (pt_cmpR op_eq (pe_op op_mod (pe_call (ok_law_draw T) (hr.mono (by decide)) (by rfl) T.g_law_draw T.F_law_draw.kp T.b_law_draw .nil pass0 (pa_cons (pv 0) pa_nil)) pe_int) pe_int (nomark _))
      (pss_one (ps_ret (pe_tup (pa_cons pe_str (pa_cons (pe_call (ok_law_constant T) hr (by rfl) T.g_law_constant T.F_law_constant.kp T.b_law_constant .nil pass0 (pa_cons (pv 0) pa_nil)) pa_nil)))))
      pss_nil)
      (pss_cons (ps_set (i := 1) sc_law_leaf.nd rfl (.inl rfl) (pe_op op_mod (pe_call (ok_law_draw T) (hr.mono (by decide)) (by rfl) T.g_law_draw T.F_law_draw.kp T.b_law_draw .nil pass0 (pa_cons (pv 0) pa_nil)) pe_int))
      (Evl.pss_cut (ps_if (pt_cmpR op_gt (pv 1) pe_int (nomark _))
      (pss_one (ps_set (i := 1) sc_law_leaf.nd rfl (.inl rfl) (pe_op op_mod (pv 1) pe_int)))
      pss_nil)
      (pss_one (ps_ret (pe_tup (pa_cons pe_str (pa_cons (pv 1) pa_nil)))))))), ?_⟩
    walk_at "start"
    walk_at "x"
    refine ⟨d, n, rfl, hD, ?_⟩
    rintro _ H1 ⟨z, rfl, z0, z1⟩ hD1 k1
    walk_at "x"
    refine x_ite (fun h0 => ?_) (fun h0 => ?_)
    · walk_at "x"
      refine ⟨d, n, rfl, hD1, ?_⟩
      rintro _ H2 ⟨c, rfl, hc⟩ hD2 k2
      walk_at "x"
      refine ⟨by show 2 ≤ sizeLine; decide, fun t ht => ?_⟩
      have s := same_upd (o := .tup [.str "const", .int (c : Int)]) ht
      exact q _ _ ⟨t, .con c, rfl, upd_same, hc⟩ (hD2.same s) ((k1.trans k2).trans (Same.keep s))
    walk_at "x"
    refine ⟨d, n, rfl, hD1, ?_⟩
    rintro _ H2 ⟨y, rfl, y0, y1⟩ hD2 k2
    have k2 := k1.trans k2
    walk_at "x"
    refine x_cut (fun σ' H' => ∃ c : Nat, [some (V.ref d), some (.int (c : Int))] = σ' ∧ c < 60 ∧ H2 = H') ?_ ?_
    · walk_at "x"
      refine x_ite (fun h1 => ?_) (fun h1 => ?_)
      · walk_at "x"
        exact ⟨(y % 120 % 5).toNat, by rw [show (((y % 120 % 5).toNat : Nat) : Int) = y % 120 % 5 by omega], by omega, rfl⟩
      · walk_at "x"
        exact ⟨(y % 120).toNat, by rw [show (((y % 120).toNat : Nat) : Int) = y % 120 by omega], by omega, rfl⟩
    rintro _ _ ⟨c, rfl, hc, rfl⟩
    walk_at "x"
    refine ⟨by show 2 ≤ sizeLine; decide, fun t ht => ?_⟩
    have s := same_upd (o := .tup [.str "input", .int (c : Int)]) ht
    exact q _ _ ⟨t, .inp c, rfl, upd_same, hc⟩ (hD2.same s) (k2.trans (Same.keep s))


def sp_law_node (K : PySem.W.Frag) : Sp := fun vs H Q _ => ∃ (d n la : Addr) (most : Int) (cs : List Nat), vs = [.ref d, .ref la, .int most] ∧ H la = some (.lst (cInts cs)) ∧ la ≠ d ∧ cs.length ≤ 1000 ∧ Dr H d n ∧
  RetG d n (fun v H' => ∃ (r t : Addr) (b : SN), v = .ref r ∧ H' r = some (.lst [.ref t, .int ((cost1 cs b : Nat) : Int)]) ∧ r ≠ d ∧ H' t = some (.tup (snV b)) ∧ SnOk cs.length b ∧ ((cost1 cs b : Nat) : Int) ≤ max most (((cs.foldr max 1 : Nat)) : Int)) H Q
theorem ok_law_node (T : Txt K mg) : FnOk P w K mg base CX0 6 T.a_law_node T.fd_law_node ["draws", "costs", "most"] (sp_law_node K) := by
  refine T.F_law_node.ok sc_law_node (fun vs H Q E h => ?_) (fun cdv A outer s H vs Q E hr h => ?_)
  · obtain ⟨d, n, la, most, cs, rfl, _⟩ := h
    rfl
  · obtain ⟨d, n, la, most, cs, rfl, hla, hld, hl9, hD, q⟩ := h
    have hcl : (cInts cs).length = cs.length := cInts_len
    -- what every way ends with
    have fin : ∀ (b : SN) (x : Int) (H1 : Hp), Dr H1 d n → Keep d H H1 → SnOk cs.length b → x = ((cost1 cs b : Nat) : Int) → x ≤ max most (((cs.foldr max 1 : Nat)) : Int) → ∀ t, H1 t = some (.tup (snV b)) → ∀ r, H1 r = none → Q (.ref r) (upd H1 r (.lst [.ref t, .int x])) := fun b x H1 hD1 k1 ok hx hle t ht r hr => by
      subst hx
      have s2 := same_upd (o := .lst [.ref t, .int ((cost1 cs b : Nat) : Int)]) hr
      exact q _ _ ⟨r, t, b, rfl, upd_same, hD1.new hr, s2 _ _ ht, ok, hle⟩ (hD1.same s2) (k1.trans (Same.keep s2))
    have leaf : ∀ (b : SN) (H1 : Hp), Dr H1 d n → Keep d H H1 → leafN b → ∀ t, H1 t = some (.tup (snV b)) → ∀ r, H1 r = none → Q (.ref r) (upd H1 r (.lst [.ref t, .int 1])) := fun b H1 hD1 k1 hb => fin b 1 H1 hD1 k1 (leaf_ok hb) (by rw [leaf_cost hb]; rfl) (by have := (le_foldr (ls := cs) (i := 0)).2; omega)
    refine ⟨_, (pss_cons (ps_set (i := 3) sc_law_node.nd rfl (.inl rfl) (pe_callB (id := "len") (r := rLen K) cr_len (by rfl) T.m_len PySem.boot_len (pa_cons (pv 1) pa_nil)))
      (pss_cons (ps_set (i := 4) sc_law_node.nd rfl (.inl rfl) (pe_op op_mod (pe_call (ok_law_draw T) (hr.mono (by decide)) (by rfl) T.g_law_draw T.F_law_draw.kp T.b_law_draw .nil pass0 (pa_cons (pv 0) pa_nil)) pe_int))
      (pss_cons (ps_if (PW.pt (pw_or (pt_cmpR op_eq (pv 3) pe_int (nomark _)) (pw_or1 (pt_cmpR op_lt (pv 4) pe_int (nomark _)))))
      (pss_one (ps_ret (pe_lst (pa_cons (pe_call (ok_law_leaf T) hr (by rfl) T.g_law_leaf T.F_law_leaf.kp T.b_law_leaf .nil pass0 (pa_cons (pv 0) pa_nil)) (pa_cons pe_int pa_nil)))))
      pss_nil)
      (pss_cons (ps_set (i := 5) sc_law_node.nd rfl (.inl rfl) (pe_op op_sub (pe_op op_sub (pv 3) pe_int) (pe_op op_mod (pe_call (ok_law_draw T) (hr.mono (by decide)) (by rfl) T.g_law_draw T.F_law_draw.kp T.b_law_draw .nil pass0 (pa_cons (pv 0) pa_nil)) (pe_callB (id := "min") (r := rMin2) (cr_min2 rfl) (by rfl) T.m_min (by decide +kernel) (pa_cons (pv 3) (pa_cons pe_int pa_nil))))))
      (pss_cons (ps_set (i := 6) sc_law_node.nd rfl (.inl rfl) (pe_op op_mod (pe_call (ok_law_draw T) (hr.mono (by decide)) (by rfl) T.g_law_draw T.F_law_draw.kp T.b_law_draw .nil pass0 (pa_cons (pv 0) pa_nil)) (pv 3)))
      (pss_cons (ps_set (i := 7) sc_law_node.nd rfl (.inl rfl) (pe_op op_mod (pe_call (ok_law_draw T) (hr.mono (by decide)) (by rfl) T.g_law_draw T.F_law_draw.kp T.b_law_draw .nil pass0 (pa_cons (pv 0) pa_nil)) (pv 3)))
      (pss_cons (ps_set (i := 8) sc_law_node.nd rfl (.inl rfl) (pe_tup (pa_cons pe_str (pa_cons (pe_call (ok_law_constant T) (hr.mono (by decide)) (by rfl) T.g_law_constant T.F_law_constant.kp T.b_law_constant .nil pass0 (pa_cons (pv 0) pa_nil)) (pa_cons (pv 5) pa_nil)))))
      (pss_cons (ps_set (i := 9) sc_law_node.nd rfl (.inl rfl) (pe_ix (r := rIxL K) ix_list (pv 1) (pv 5) (fun _ _ => rfl)))
      (Evl.pss_cut (ps_if (pt_cmpR op_lt (pv 4) pe_int (nomark _))
      (pss_cons (ps_set (i := 8) sc_law_node.nd rfl (.inl rfl) (pe_tup (pa_cons pe_str (pa_cons (pv 5) (pa_cons (pv 6) pa_nil)))))
      (pss_one (ps_set (i := 9) sc_law_node.nd rfl (.inl rfl) (pe_op op_add (pe_ix (r := rIxL K) ix_list (pv 1) (pv 5) (fun _ _ => rfl)) (pe_ix (r := rIxL K) ix_list (pv 1) (pv 6) (fun _ _ => rfl))))))
      (pss_one (ps_if (pt_cmpR op_lt (pv 4) pe_int (nomark _))
      (pss_cons (ps_set (i := 8) sc_law_node.nd rfl (.inl rfl) (pe_tup (pa_cons pe_str (pa_cons (pv 5) (pa_cons (pv 6) pa_nil)))))
      (pss_one (ps_set (i := 9) sc_law_node.nd rfl (.inl rfl) (pe_op op_mul pe_int (pe_op op_add (pe_ix (r := rIxL K) ix_list (pv 1) (pv 5) (fun _ _ => rfl)) (pe_ix (r := rIxL K) ix_list (pv 1) (pv 6) (fun _ _ => rfl)))))))
      (pss_one (ps_if (pt_cmpR op_eq (pv 4) pe_int (nomark _))
      (pss_cons (ps_set (i := 8) sc_law_node.nd rfl (.inl rfl) (pe_tup (pa_cons pe_str (pa_cons (pv 5) (pa_cons (pv 6) (pa_cons (pv 7) pa_nil))))))
      (pss_one (ps_set (i := 9) sc_law_node.nd rfl (.inl rfl) (pe_op op_add (pe_ix (r := rIxL K) ix_list (pv 1) (pv 7) (fun _ _ => rfl)) (pe_op op_mul pe_int (pe_op op_add (pe_op op_add (pe_ix (r := rIxL K) ix_list (pv 1) (pv 5) (fun _ _ => rfl)) (pe_ix (r := rIxL K) ix_list (pv 1) (pv 6) (fun _ _ => rfl))) (pe_ix (r := rIxL K) ix_list (pv 1) (pv 7) (fun _ _ => rfl))))))))
      pss_nil)))))
      (pss_cons (ps_if (pt_cmpR op_gt (pv 9) (pv 2) (nomark _))
      (pss_one (ps_ret (pe_lst (pa_cons (pe_call (ok_law_leaf T) hr (by rfl) T.g_law_leaf T.F_law_leaf.kp T.b_law_leaf .nil pass0 (pa_cons (pv 0) pa_nil)) (pa_cons pe_int pa_nil)))))
      pss_nil)
      (pss_one (ps_ret (pe_lst (pa_cons (pv 8) (pa_cons (pv 9) pa_nil))))))))))))))), ?_⟩
    walk_at "start"
    walk_at "x"
    refine x_len (sq_of hla) ?_
    rw [hcl]
    walk_at "x"
    refine ⟨d, n, rfl, hD, ?_⟩
    rintro _ H1 ⟨z, rfl, z0, z1⟩ hD1 k1
    have hla1 := k1 _ _ hla hld
    walk_at "x"
    refine x_orI (decide (z % 9 < 2)) (fun _ R r => by walk_at "x"; exact r) ?_
    refine x_iteB (fun h0 => ?_) (fun h0 => ?_)
    · walk_at "x"
      refine ⟨d, n, rfl, hD1, ?_⟩
      rintro _ H2 ⟨t, b, rfl, ht, hb⟩ hD2 k2
      walk_at "x"
      exact ⟨by show 2 ≤ sizeLine; decide, fun r hr => leaf b H2 hD2 (k1.trans k2) hb t ht r hr⟩
    rw [Bool.or_eq_false_iff, decide_eq_false_iff_not, decide_eq_false_iff_not] at h0
    have hl0 : 0 < cs.length := by omega
    walk_at "x"
    refine ⟨d, n, rfl, hD1, ?_⟩
    rintro _ H2 ⟨y, rfl, y0, y1⟩ hD2 k2
    have hla2 := k2 _ _ hla1 hld
    have k2 := k1.trans k2
    walk_at "x"
    generalize hM : (if (3 : Int) < (cs.length : Int) then (3 : Int) else (cs.length : Int)) = M
    have M0 : 0 < M := by rw [← hM]; split <;> omega
    have M1 : M ≤ (cs.length : Int) := by rw [← hM]; split <;> omega
    walk_at "x"
    obtain ⟨i, ei, hi⟩ : ∃ i : Nat, (cs.length : Int) - 1 - y % M = (i : Int) ∧ i < cs.length := by
      have h1 := Int.emod_nonneg y (show M ≠ 0 by omega)
      have h2 := Int.emod_lt_of_pos y M0
      exact ⟨((cs.length : Int) - 1 - y % M).toNat, by omega, by omega⟩
    rw [ei]
    refine ⟨d, n, rfl, hD2, ?_⟩
    rintro _ H3 ⟨w, rfl, w0, w1⟩ hD3 k3
    have hla3 := k3 _ _ hla2 hld
    have k3 := k2.trans k3
    walk_at "x"
    obtain ⟨j, ej, hj⟩ := cast_lt (x := w % (cs.length : Int)) (c := cs.length) (Int.emod_nonneg w (by omega)) (Int.emod_lt_of_pos w (by omega))
    rw [ej]
    refine ⟨d, n, rfl, hD3, ?_⟩
    rintro _ H4 ⟨x, rfl, x0, x1⟩ hD4 k4
    have hla4 := k4 _ _ hla3 hld
    have k4 := k3.trans k4
    walk_at "x"
    obtain ⟨l, el, hl⟩ := cast_lt (x := x % (cs.length : Int)) (c := cs.length) (Int.emod_nonneg x (by omega)) (Int.emod_lt_of_pos x (by omega))
    rw [el]
    refine ⟨d, n, rfl, hD4, ?_⟩
    rintro _ H5 ⟨c, rfl, hc⟩ hD5 k5
    have hla5 := k5 _ _ hla4 hld
    have k5 := k4.trans k5
    clear hla1 hla2 hla3 hla4 hD1 hD2 hD3 hD4 k1 k2 k3 k4
    walk_at "x"
    refine ⟨by show 3 ≤ sizeLine; decide, fun t ht => ?_⟩
    have s6 := same_upd (o := .tup [.str "scaled", .int (c : Int), .int (i : Int)]) ht
    have e6 : (upd H5 t (.tup [.str "scaled", .int (c : Int), .int (i : Int)])) t = some (.tup (snV (.scl c i))) := upd_same
    have hD6 := hD5.same s6
    have hla6 := s6 _ _ hla5
    have k6 := k5.trans (Same.keep s6)
    generalize upd H5 t (.tup [.str "scaled", .int (c : Int), .int (i : Int)]) = H6 at s6 e6 hD6 hla6 k6
    clear hla5 hD5 k5 ht
    walk_at "x"
    refine x_ixL (sq_of hla6) (atI_nat (nat_get hi)) ?_
    walk_at "x"
    refine x_cut (fun σ' H' => ∃ (t : Addr) (b : SN), [some (V.ref d), some (.ref la), some (.int most), some (.int (cs.length : Int)), some (.int (z % 9)), some (.int (i : Int)), some (.int (j : Int)), some (.int (l : Int)), some (.ref t), some (.int ((cost1 cs b : Nat) : Int))] = σ' ∧ Dr H' d n ∧ Keep d H H' ∧ H' t = some (.tup (snV b)) ∧ SnOk cs.length b) ?_ ?_
    · walk_at "x"
      refine x_ite (fun h1 => ?_) (fun h1 => ?_)
      · walk_at "x"
        refine ⟨by show 3 ≤ sizeLine; decide, fun t ht => ?_⟩
        have s7 := same_upd (o := .tup [.str "sum", .int (i : Int), .int (j : Int)]) ht
        have hla7 := s7 _ _ hla6
        walk_at "x"
        refine x_ixL (sq_of hla7) (atI_nat (nat_get hi)) ?_
        walk_at "x"
        refine x_ixL (sq_of hla7) (atI_nat (nat_get hj)) ?_
        walk_at "x"
        exact ⟨t, .sum i j, rfl, hD6.same s7, k6.trans (Same.keep s7), upd_same, hi, hj⟩
      walk_at "x"
      refine x_ite (fun h2 => ?_) (fun h2 => ?_)
      · walk_at "x"
        refine ⟨by show 3 ≤ sizeLine; decide, fun t ht => ?_⟩
        have s7 := same_upd (o := .tup [.str "product", .int (i : Int), .int (j : Int)]) ht
        have hla7 := s7 _ _ hla6
        walk_at "x"
        refine x_ixL (sq_of hla7) (atI_nat (nat_get hi)) ?_
        walk_at "x"
        refine x_ixL (sq_of hla7) (atI_nat (nat_get hj)) ?_
        walk_at "x"
        exact ⟨t, .prod i j, rfl, hD6.same s7, k6.trans (Same.keep s7), upd_same, hi, hj⟩
      walk_at "x"
      refine x_ite (fun h3 => ?_) (fun h3 => ?_)
      · walk_at "x"
        refine ⟨by show 4 ≤ sizeLine; decide, fun t ht => ?_⟩
        have s7 := same_upd (o := .tup [.str "choose", .int (i : Int), .int (j : Int), .int (l : Int)]) ht
        have hla7 := s7 _ _ hla6
        walk_at "x"
        refine x_ixL (sq_of hla7) (atI_nat (nat_get hl)) ?_
        walk_at "x"
        refine x_ixL (sq_of hla7) (atI_nat (nat_get hi)) ?_
        walk_at "x"
        refine x_ixL (sq_of hla7) (atI_nat (nat_get hj)) ?_
        walk_at "x"
        refine x_ixL (sq_of hla7) (atI_nat (nat_get hl)) ?_
        walk_at "x"
        exact ⟨t, .cho i j l, rfl, hD6.same s7, k6.trans (Same.keep s7), upd_same, hi, hj, hl⟩
      · walk_at "x"
        exact ⟨t, .scl c i, rfl, hD6, k6, e6, hc, hi⟩
    clear hD6 k6 hla6 e6
    rintro _ H7 ⟨t, b, rfl, hD7, k7, ht, ok⟩
    walk_at "x"
    refine x_ite (fun h2 => ?_) (fun h2 => ?_)
    · walk_at "x"
      refine ⟨d, n, rfl, hD7, ?_⟩
      rintro _ H8 ⟨t, b, rfl, ht, hb⟩ hD8 k8
      walk_at "x"
      exact ⟨by show 2 ≤ sizeLine; decide, fun r hr => leaf b H8 hD8 (k7.trans k8) hb t ht r hr⟩
    · walk_at "x"
      exact ⟨by show 2 ≤ sizeLine; decide, fun r hr => fin b _ H7 hD7 k7 ok rfl (by omega) t ht r hr⟩


def sp_law_source (K : PySem.W.Frag) : Sp := fun vs H Q _ => ∃ (d n : Addr) (most : Int), vs = [.ref d, .int most] ∧ 1 ≤ most ∧ Dr H d n ∧
  RetG d n (fun v H' => ∃ (r t : Addr) (ns : List SN), v = .ref r ∧ H' r = some (.lst [.ref t, .int (((costsF ns).getD (ns.length - 1) 0 : Nat) : Int)]) ∧ r ≠ d ∧ DAt d H' (.ref t) (.tuple (ns.map snD)) ∧ SsOk ns ∧ ns.length ≤ 199 ∧ (((costsF ns).getD (ns.length - 1) 0 : Nat) : Int) ≤ most ∧ ∀ i, (((costsF ns).getD i 0 : Nat) : Int) ≤ most) H Q
theorem ok_law_source (T : Txt K mg) : FnOk P w K mg base CX0 7 T.a_law_source T.fd_law_source ["draws", "most"] (sp_law_source K) := by
  refine T.F_law_source.ok sc_law_source (fun vs H Q E h => ?_) (fun cdv A outer s H vs Q E hr h => ?_)
  · obtain ⟨d, n, most, rfl, _⟩ := h
    rfl
  · obtain ⟨d, n, most, rfl, hmost, hD, q⟩ := h
    refine ⟨_, (pss_cons (ps_set (i := 2) sc_law_source.nd rfl (.inl rfl) (pe_lst pa_nil))
      (pss_cons (ps_set (i := 3) sc_law_source.nd rfl (.inl rfl) (pe_lst pa_nil))
      (pss_cons (ps_set (i := 4) sc_law_source.nd rfl (.inl rfl) (pe_op op_add pe_int (pe_op op_mod (pe_call (ok_law_draw T) (hr.mono (by decide)) (by rfl) T.g_law_draw T.F_law_draw.kp T.b_law_draw .nil pass0 (pa_cons (pv 0) pa_nil)) pe_int)))
      (Evl.pss_cut (ps_if (pt_cmpR op_eq (pe_op op_mod (pe_call (ok_law_draw T) (hr.mono (by decide)) (by rfl) T.g_law_draw T.F_law_draw.kp T.b_law_draw .nil pass0 (pa_cons (pv 0) pa_nil)) pe_int) pe_int (nomark _))
      (pss_one (ps_set (i := 4) sc_law_source.nd rfl (.inl rfl) (pe_op op_add pe_int (pe_op op_mod (pe_call (ok_law_draw T) (hr.mono (by decide)) (by rfl) T.g_law_draw T.F_law_draw.kp T.b_law_draw .nil pass0 (pa_cons (pv 0) pa_nil)) pe_int))))
      pss_nil)
      (pss_cons (ps_for PassesOwn.never rfl (pi_range1 (by rfl) T.m_range (pa_cons (pv 4) pa_nil)) (pg_name (i := 5) sc_law_source.nd rfl (Or.inl rfl))
      (pss_cons (ps_set (i := 6) sc_law_source.nd rfl (.inl rfl) (pe_call (ok_law_node T) hr (by rfl) T.g_law_node T.F_law_node.kp T.b_law_node .nil pass0 (pa_cons (pv 0) (pa_cons (pv 3) (pa_cons (pv 1) pa_nil)))))
      (pss_cons (ps_expr (pe_bm PySem.F.plainAttrs_list PySem.F.slot_list_append PySem.F.type_list_append mt_append (pv 2) (pa_cons (pe_ix (r := rIxL K) ix_list (pv 6) pe_int (fun _ _ => rfl)) pa_nil)))
      (pss_one (ps_expr (pe_bm PySem.F.plainAttrs_list PySem.F.slot_list_append PySem.F.type_list_append mt_append (pv 3) (pa_cons (pe_ix (r := rIxL K) ix_list (pv 6) pe_int (fun _ _ => rfl)) pa_nil)))))))
      (pss_one (ps_ret (pe_lst (pa_cons (pe_callTy (T := "tuple") (r := rTupOf K) cr_tup_of (by rfl) T.m_tuple (by decide +kernel) (pa_cons (pv 2) pa_nil)) (pa_cons (pe_ix (r := rIxL K) ix_list (pv 3) (pe_op op_sub (pe_callB (id := "len") (r := rLen K) cr_len (by rfl) T.m_len PySem.boot_len (pa_cons (pv 3) pa_nil)) pe_int) (fun _ _ => rfl)) pa_nil)))))))))), ?_⟩
    walk_at "start"
    walk_at "x"
    refine ⟨by show 0 ≤ sizeLine; decide, fun na hna => ?_⟩
    have s1 := same_upd (o := .lst []) hna
    have e1 : (upd H na (.lst [])) na = some (.lst (([] : List Addr).map V.ref)) := upd_same
    have hnd := hD.new hna
    have hnn := hD.newN hna
    have hD1 := hD.same s1
    generalize upd H na (.lst []) = H1 at s1 e1 hD1
    walk_at "x"
    refine ⟨by show 0 ≤ sizeLine; decide, fun la hla => ?_⟩
    have hlad := hD1.new hla
    have hlan := hD1.newN hla
    have hnl : na ≠ la := fun e => by rw [e, hla] at e1; cases e1
    have s2 := same_upd (o := .lst []) hla
    have e2 := s2 _ _ e1
    have e3 : (upd H1 la (.lst [])) la = some (.lst (cInts [])) := upd_same
    have hD2 := hD1.same s2
    have s2 := s1.trans s2
    generalize upd H1 la (.lst []) = H2 at s2 e2 e3 hD2
    walk_at "x"
    refine ⟨d, n, rfl, hD2, ?_⟩
    rintro _ H3 ⟨z, rfl, z0, z1⟩ hD3 k3
    have e23 := k3 _ _ e2 hnd
    have e33 := k3 _ _ e3 hlad
    have k3 := (Same.keep s2).trans k3
    walk_at "x"
    refine x_cut (fun σ' H' => ∃ N : Nat, [some (V.ref d), some (.int most), some (.ref na), some (.ref la), some (.int (N : Int)), none, none] = σ' ∧ 1 ≤ N ∧ N ≤ 199 ∧ Dr H' d n ∧ Keep d H H' ∧ H' na = some (.lst (([] : List Addr).map V.ref)) ∧ H' la = some (.lst (cInts []))) ?_ ?_
    · walk_at "x"
      refine ⟨d, n, rfl, hD3, ?_⟩
      rintro _ H4 ⟨y, rfl, y0, y1⟩ hD4 k4
      have e24 := k4 _ _ e23 hnd
      have e34 := k4 _ _ e33 hlad
      have k4 := k3.trans k4
      walk_at "x"
      refine x_ite (fun h0 => ?_) (fun h0 => ?_)
      · walk_at "x"
        refine ⟨d, n, rfl, hD4, ?_⟩
        rintro _ H5 ⟨w, rfl, w0, w1⟩ hD5 k5
        walk_at "x"
        exact ⟨(10 + w % 190).toNat, by rw [show (((10 + w % 190).toNat : Nat) : Int) = 10 + w % 190 by omega], by omega, by omega, hD5, k4.trans k5, k5 _ _ e24 hnd, k5 _ _ e34 hlad⟩
      · walk_at "x"
        exact ⟨(1 + z % 9).toNat, by rw [show (((1 + z % 9).toNat : Nat) : Int) = 1 + z % 9 by omega], by omega, by omega, hD4, k4, e24, e34⟩
    clear e23 e33 k3 hD3
    rintro _ H4 ⟨N, rfl, N1, N2, hD4, k4, e24, e34⟩
    walk_at "x"
    refine x_forR1 (N : Int) (fun k σ' H' => ∃ (as : List Addr) (ns : List SN) (v5 v6 : Option V), σ' = [some (V.ref d), some (.int most), some (.ref na), some (.ref la), some (.int (N : Int)), v5, v6] ∧ Dr H' d n ∧ Keep d H H' ∧ H' na = some (.lst (as.map V.ref)) ∧ H' la = some (.lst (cInts (costsF ns))) ∧ ns.length = k ∧ as.length = k ∧ (∀ (i : Nat) b a, ns[i]? = some b → as[i]? = some a → H' a = some (.tup (snV b))) ∧ (∀ i b, ns[i]? = some b → SnOk i b) ∧ (((costsF ns).foldr max 1 : Nat) : Int) ≤ most) (fun R r => by walk_at "x"; exact r) (by omega) (by omega) ⟨[], [], _, _, rfl, hD4, k4, e24, e34, rfl, rfl, fun i b a h _ => by simp at h, fun i b h => by simp at h, by show ((1 : Nat) : Int) ≤ most; omega⟩ ?_ ?_
    · rintro k σ' H5 hk ⟨as, ns, v5, v6, rfl, hD5, k5, e25, e35, hnl2, hal2, hat, hok, hmx⟩
      walk_at "x"
      refine ⟨d, n, la, most, costsF ns, rfl, e35, hlad, by rw [costs_len]; omega, hD5, ?_⟩
      rintro _ H6 ⟨r, t, b, rfl, hr, hrd, ht, okb, hle⟩ hD6 k6
      have e26 := k6 _ _ e25 hnd
      have e36 := k6 _ _ e35 hlad
      have hat6 : ∀ (i : Nat) b a, ns[i]? = some b → as[i]? = some a → H6 a = some (.tup (snV b)) := fun i b a h1 h2 => keep_tupsG k6 hD5 _ _ (hat i b a h1 h2)
      have k6 := k5.trans k6
      rw [costs_len] at okb
      walk_at "x"
      refine x_tyL e26 ?_
      walk_at "x"
      refine x_ixL (v := .ref t) (sq_of hr) (atI_nat (j := 0) rfl) ?_
      walk_at "x"
      refine x_app e26 (by rw [List.length_map]; omega) ?_
      have kA : Keep na H6 (upd H6 na (.lst (as.map V.ref ++ [.ref t]))) := keep_upd
      have eA : (upd H6 na (.lst (as.map V.ref ++ [.ref t]))) na = some (.lst ((as ++ [t]).map V.ref)) := by rw [upd_same, List.map_append]; rfl
      have hD7 := hD6.upd (o := .lst (as.map V.ref ++ [.ref t])) hnd hnn
      have k7 : Keep d H (upd H6 na (.lst (as.map V.ref ++ [.ref t]))) := kput k6 hna
      generalize upd H6 na (.lst (as.map V.ref ++ [.ref t])) = H7 at kA eA hD7 k7
      have hrna : r ≠ na := fun e => by rw [e, e26] at hr; injection hr with hr; injection hr with hr; cases as with | nil => cases hr | cons x xs => cases xs with | nil => cases hr | cons y ys => (injection hr with h1 h2; injection h2 with h2 h3; cases h2)
      walk_at "x"
      refine x_tyL (kA _ _ e36 hnl.symm) ?_
      walk_at "x"
      refine x_ixL (v := .int ((cost1 (costsF ns) b : Nat) : Int)) (sq_of (kA _ _ hr hrna)) (atI_nat (j := 1) rfl) ?_
      walk_at "x"
      refine x_app (kA _ _ e36 hnl.symm) (by rw [cInts_len, costs_len]; omega) ?_
      have hT : ∀ c xs, H6 c = some (.tup xs) → (upd H7 la (.lst (cInts (costsF ns) ++ [.int ((cost1 (costsF ns) b : Nat) : Int)]))) c = some (.tup xs) := fun c xs e => by
        have e7 := kA _ _ e (ne_of e e26 (by intro z; cases z))
        rw [upd_ne (ne_of e7 (kA _ _ e36 hnl.symm) (by intro z; cases z))]
        exact e7
      walk_at "x"
      refine ⟨as ++ [t], ns ++ [b], _, _, rfl, hD7.upd hlad hlan, ?_, by rw [upd_ne hnl]; exact eA, by rw [upd_same, costs_snoc, cInts_snoc], by rw [List.length_append, hnl2]; rfl, by rw [List.length_append, hal2]; rfl, fun i c a h1 h2 => ?_, fun i c h1 => ?_, ?_⟩
      · exact fun b o e hne => by
          rw [upd_ne (fun e2 => by subst e2; have := s1 _ _ e; rw [hla] at this; cases this)]
          exact k7 b o e hne
      · rcases snoc_at rfl h1 with ⟨g1, h1⟩ | ⟨g1, rfl⟩
        · rcases snoc_at rfl h2 with ⟨g2, h2⟩ | ⟨g2, rfl⟩
          · exact hT _ _ (hat6 i c a h1 h2)
          · omega
        · rcases snoc_at rfl h2 with ⟨g2, h2⟩ | ⟨g2, rfl⟩
          · omega
          · exact hT _ _ ht
      · rcases snoc_at rfl h1 with ⟨g1, h1⟩ | ⟨g1, rfl⟩
        · exact hok i c h1
        · rw [g1]; exact okb
      · rw [costs_snoc, foldr_snoc]
        omega
    · rintro σ' H5 ⟨as, ns, v5, v6, rfl, hD5, k5, e25, e35, hnl2, hal2, hat, hok, hmx⟩
      have hnl2 : ns.length = N := hnl2
      have hal2 : as.length = N := hal2
      have hl2 : (cInts (costsF ns)).length = N := by rw [cInts_len, costs_len, hnl2]
      walk_at "x"
      refine x_tupL (sq_of e25) fun t ht => ?_
      have s6 := same_upd (o := .tup (as.map V.ref)) ht
      have e6 : (upd H5 t (.tup (as.map V.ref))) t = _ := upd_same
      have hD6 := hD5.same s6
      have k6 := k5.trans (Same.keep s6)
      generalize upd H5 t (.tup (as.map V.ref)) = H6 at s6 e6 hD6 k6
      walk_at "x"
      refine x_len (sq_of (s6 _ _ e35)) ?_
      rw [hl2]
      walk_at "x"
      rw [show (N : Int) - 1 = ((N - 1 : Nat) : Int) by omega]
      refine x_ixL (i := ((N - 1 : Nat) : Int)) (v := .int (((costsF ns).getD (ns.length - 1) 0 : Nat) : Int)) (sq_of (s6 _ _ e35)) (by rw [hnl2]; exact atI_nat (nat_get (by rw [costs_len]; omega))) ?_
      walk_at "x"
      refine ⟨by show 2 ≤ sizeLine; decide, fun r hr => ?_⟩
      have s7 := same_upd (o := .lst [.ref t, .int (((costsF ns).getD (ns.length - 1) 0 : Nat) : Int)]) hr
      refine q _ _ ⟨r, t, ns, rfl, upd_same, hD6.new hr, .tup (s7 _ _ e6) ?_, ⟨by omega, by omega, hok⟩, by omega, ?_⟩ (hD6.same s7) (k6.trans (Same.keep s7))
      · refine DAts.of (by rw [List.length_map, List.length_map, hnl2, hal2]) fun i x e h1 h2 => ?_
        obtain ⟨b, hb, rfl⟩ := map_getR h1
        rw [List.getElem?_map] at h2
        cases hn : ns[i]? with
        | none => rw [hn] at h2; cases h2
        | some c =>
          rw [hn] at h2
          cases h2
          exact sn_dat (s7 _ _ (s6 _ _ (hat i c b hn hb)))
      · have all : ∀ i, (((costsF ns).getD i 0 : Nat) : Int) ≤ most := fun i => by
          have := (le_foldr (ls := costsF ns) (i := i)).1
          omega
        exact ⟨all _, all⟩

end
end Br

namespace Br
open PySem PySem.Spec PyProof.Rows L2
local macro_rules | `(tactic| walk_at "x1") => `(tactic| (with_reducible first
  | refine Br.x_seq ?_ | refine Br.x_set ?_ | refine Br.x_asg ?_ | refine Br.x_next ?_ | refine Br.x_ret ?_ | refine Br.x_retN ?_ | refine Br.x_drop ?_ | refine Br.x_if ?_ | refine Br.x_brk ?_ | refine Br.x_cont ?_
  | refine Br.x_c ?_ | refine Br.x_op ?_ | refine Br.x_un ?_ | refine Br.x_I0 ?_ | refine Br.x_U ?_ | refine Br.x_EqI ?_ | refine Br.x_NeI ?_ | refine Br.x_EqB ?_ | refine Br.x_iN ?_ | refine Br.x_int1 ?_ | refine Br.x_min2 ?_ | refine Br.x_max2 ?_ | refine Br.x_nN ?_ | refine Br.x_ifE ?_
  | refine Br.x_test (b := ()) ?_ | refine Br.x_tB ?_ | refine Br.x_bl ?_ | refine Br.x_and ?_ | refine Br.x_or ?_ | refine Br.x_not ?_ | refine Br.x_andV ?_ | refine Br.x_orV ?_ | refine Br.x_notV ?_ | refine Br.x_blP ?_
  | refine Br.x_nil ?_ | refine Br.x_cons ?_ | refine Br.x_call ?_ | refine Br.x_CB ?_ | refine Br.x_BM ?_ | refine Br.x_tup ?_ | refine Br.x_lst ?_ | refine Br.x_chain ?_ | refine Br.x_par ?_ | refine Br.x_gSub ?_ | refine Br.x_gName ?_ | refine Br.x_fld ?_ | refine Br.x_fldS ?_ | refine Br.x_match ?_ | refine Br.x_else ?_ | refine Br.x_noCase ?_))
local macro_rules | `(tactic| walk_at "xv") => `(tactic| ((with_reducible refine' Br.x_var ?hvar ?_); (case hvar => rfl)))
local macro_rules | `(tactic| walk_at "xd") => `(tactic| (dsimp only [List.set_cons_zero, List.set_cons_succ, List.cons_append, List.nil_append, List.append_nil]))
local macro_rules | `(tactic| walk_at "xi") => `(tactic| ((with_reducible refine Br.x_I ?hside ?_); (case hside => first | exact Br.mul_r (by decide) (by decide) | exact Br.mul_l (by decide) (by decide) | exact Br.mul_l (by omega) (by omega) | exact Br.mul_r (by omega) (by omega) | (show (0 : Int) < _; first | decide | omega) | exact ⟨by decide, by decide⟩ | exact ⟨by omega, by omega⟩ | exact ⟨by decide, by decide, by decide⟩)))
local macro_rules | `(tactic| walk_at "x") => `(tactic| (repeat (first | walk_at "x1" | walk_at "xv" | walk_at "xi" | walk_at "xd")))
local macro_rules | `(tactic| walk_at "start") => `(tactic| (simp only [L2.start, List.map_cons, List.map_nil, List.length_cons, List.length_nil, Nat.reduceAdd, Nat.reduceSub, List.replicate, List.cons_append, List.nil_append, List.append_nil]))
local macro_rules | `(tactic| walk_at "isi") => `(tactic| first
  | refine Br.x_isi (b := true) (.base (.int _)) (by decide +kernel) ?_ | refine Br.x_isi (b := false) (.base (.int _)) (by decide +kernel) ?_
  | refine Br.x_isi (b := true) (.base (.bl _)) (by decide +kernel) ?_ | refine Br.x_isi (b := false) (.base (.bl _)) (by decide +kernel) ?_
  | refine Br.x_isi (b := false) (.base .non) (by decide +kernel) ?_
  | refine Br.x_isi (b := true) (.base (.str _)) (by decide +kernel) ?_ | refine Br.x_isi (b := false) (.base (.str _)) (by decide +kernel) ?_
  | refine Br.x_isi (b := true) (.base (.tup (by assumption))) (by decide +kernel) ?_ | refine Br.x_isi (b := false) (.base (.tup (by assumption))) (by decide +kernel) ?_
  | refine Br.x_isi (b := true) (.base (.lst (by assumption))) (by decide +kernel) ?_ | refine Br.x_isi (b := false) (.base (.lst (by assumption))) (by decide +kernel) ?_)
local macro_rules | `(tactic| walk_at "f") => `(tactic| (refine L2.iteF ?_; walk_at "x"))
local macro_rules | `(tactic| walk_at "t") => `(tactic| (refine L2.iteT ?_; walk_at "x"))
local macro_rules | `(tactic| walk_at "is") => `(tactic| (walk_at "isi"; walk_at "x"))
local macro_rules | `(tactic| walk_at "xb") => `(tactic| (simp only [Br.bindS, List.set_cons_zero, List.set_cons_succ]; walk_at "x"))

section
variable {P : Program} {w : World} {K : PySem.W.Frag} {mg : Str → Option Value} {base : Heap}

open Br

def sp_inputs_needed (K : PySem.W.Frag) : Sp := fun vs H Q _ => ∃ (d t : Addr) (ns : List SN), vs = [.ref t] ∧ DAt d H (.ref t) (.tuple (ns.map snD)) ∧ ns.length ≤ 1000 ∧ ∀ H', Same H H' → Q (.int ((needF ns : Nat) : Int)) H'
theorem ok_inputs_needed (T : Txt K mg) : FnOk P w K mg base CX0 1 T.a_inputs_needed T.fd_inputs_needed ["source"] (sp_inputs_needed K) := by
  refine T.F_inputs_needed.ok sc_inputs_needed (fun vs H Q E h => ?_) (fun cdv A outer s H vs Q E hr h => ?_)
  · obtain ⟨d, t, ns, rfl, _⟩ := h
    rfl
  · obtain ⟨d, t, ns, rfl, ht, hl9, q⟩ := h
    cases ht with
    | tup ha hs =>
      rename_i xs
      obtain ⟨as, rfl, hal, hat⟩ := sns_at hs
      have hml : (as.map V.ref).length = ns.length := by rw [List.length_map, hal]
      refine ⟨_, (pss_one (ps_ret (pe_callBK (cr_maxDf rfl) (by rfl) T.m_max (by decide +kernel) (pa_cons (pe_lc (own := [("node", 1)]) (g := gName 1) (tt := _) rfl sc_inputs_needed.nd (pi_tup (pv 0)) (blkOk_by (N := N_inputs_needed) (sc := defScope s_inputs_needed) (by decide +kernel)) (fun _ _ _ _ _ => (pg_name (i := 1) sc_inputs_needed.nd rfl (Or.inl rfl))) (fun _ _ _ _ _ => (pts_one (pt_cmpR op_eq (pe_ix (r := rIxT K) ix_tup (pv 1) pe_int (fun _ _ => rfl)) pe_str (nomark _)))) (fun _ _ _ _ _ => (pe_op op_add (pe_ix (r := rIxT K) ix_tup (pv 1) pe_int (fun _ _ => rfl)) pe_int))) pa_nil) (pk_cons pe_int pk_nil)))), ?_⟩
      walk_at "start"
      walk_at "x"
      refine x_maxDf ?_
      walk_at "x"
      refine x_lcTT (K := K) (a := t) (as.map V.ref) (fun p k H' => Same H H' ∧ H' p = some (.lst (cInts (needL (ns.take k)))) ∧ (needL (ns.take k)).length ≤ k) (fun R r => by walk_at "x"; exact r) (st_of ha) (fun p hp => ⟨same_upd hp, upd_same, Nat.le_refl _⟩) (fun p k H' hp hk z => st_of (z.1 _ _ ha)) (fun x => rfl) ?_ ?_
      · rintro p k x H1 hp hx ⟨s1, hP, hcl⟩
        obtain ⟨a, ha2, rfl⟩ := map_getR hx
        have hk := (List.getElem?_eq_some_iff.mp ha2).1
        obtain ⟨n, hn⟩ : ∃ n, ns[k]? = some n := ⟨_, List.getElem?_eq_getElem (by omega)⟩
        have hb := s1 _ _ (hat k n a hn ha2)
        have hst : needL (ns.take (k + 1)) = needL (ns.take k) ++ (match need1 n with | some k => [k] | none => []) := by rw [take_snocG hn]; exact needL_snoc
        have other : ∀ (w : Str) (vs : List V), snV n = .str w :: vs → w ≠ "input" → need1 n = none → H1 a = some (.tup (.str w :: vs)) ∧ Same H H1 ∧ H1 p = some (.lst (cInts (needL (ns.take (k + 1))))) ∧ (needL (ns.take (k + 1))).length ≤ k + 1 := fun w vs e _ h => by
          rw [hst, h, List.append_nil]
          exact ⟨by rw [← e]; exact hb, s1, hP, by omega⟩
        walk_at "x"
        cases n with
        | inp c =>
          have hb : H1 a = some (.tup [.str "input", .int (c : Int)]) := hb
          refine x_ixT (v := .str "input") (st_of hb) (atI_nat (j := 0) rfl) ?_
          walk_at "x"
          refine x_EqS ?_
          walk_at "x"
          rw [decide_eq_true rfl]
          refine iteT ?_
          walk_at "x"
          refine x_ixT (v := .int (c : Int)) (st_of hb) (atI_nat (j := 1) rfl) ?_
          walk_at "x"
          have e : need1 (.inp c) = some (c + 1) := rfl
          rw [e] at hst
          refine ⟨_, hP, lt_line (by rw [cInts_len]; omega), sput s1 hp, ?_, ?_⟩
          · rw [upd_same, hst, ← cInts_snoc]; rfl
          · rw [hst, List.length_append]; exact Nat.add_le_add_right hcl 1
        | con c =>
          obtain ⟨h1, h2⟩ := other "const" _ rfl (by decide) rfl
          refine x_ixT (v := .str "const") (st_of h1) (atI_nat (j := 0) rfl) ?_
          walk_at "x"
          refine x_EqS ?_
          walk_at "x"
          rw [decide_eq_false (by decide : ¬ (("const" : Str) = "input"))]
          exact iteF h2
        | sum i j =>
          obtain ⟨h1, h2⟩ := other "sum" _ rfl (by decide) rfl
          refine x_ixT (v := .str "sum") (st_of h1) (atI_nat (j := 0) rfl) ?_
          walk_at "x"
          refine x_EqS ?_
          walk_at "x"
          rw [decide_eq_false (by decide : ¬ (("sum" : Str) = "input"))]
          exact iteF h2
        | prod i j =>
          obtain ⟨h1, h2⟩ := other "product" _ rfl (by decide) rfl
          refine x_ixT (v := .str "product") (st_of h1) (atI_nat (j := 0) rfl) ?_
          walk_at "x"
          refine x_EqS ?_
          walk_at "x"
          rw [decide_eq_false (by decide : ¬ (("product" : Str) = "input"))]
          exact iteF h2
        | scl c i =>
          obtain ⟨h1, h2⟩ := other "scaled" _ rfl (by decide) rfl
          refine x_ixT (v := .str "scaled") (st_of h1) (atI_nat (j := 0) rfl) ?_
          walk_at "x"
          refine x_EqS ?_
          walk_at "x"
          rw [decide_eq_false (by decide : ¬ (("scaled" : Str) = "input"))]
          exact iteF h2
        | cho i j l =>
          obtain ⟨h1, h2⟩ := other "choose" _ rfl (by decide) rfl
          refine x_ixT (v := .str "choose") (st_of h1) (atI_nat (j := 0) rfl) ?_
          walk_at "x"
          refine x_EqS ?_
          walk_at "x"
          rw [decide_eq_false (by decide : ¬ (("choose" : Str) = "input"))]
          exact iteF h2
      · rintro p H1 hp ⟨s1, hP, hcl⟩
        rw [hml, List.take_length, cInts_eq] at hP
        walk_at "x"
        refine x_maxDfP (sq_of hP) fun m hm => ?_
        rw [needF_max hm]
        exact q H1 s1


def sp_needs (CS : Addr) (K : PySem.W.Frag) : Sp := fun vs H Q E => ∃ (d : Addr) (v : V) (e : PyData), vs = [v] ∧ DAt d H v e ∧ Sh e ∧ (sourceD e = false → ∀ H', Same H H' → E (.ref CS) none H') ∧ (∀ ns : List SN, e = .tuple (ns.map snD) → SsOk ns → ∀ H', Same H H' → Q (.int ((needF ns : Nat) : Int)) H')
theorem ok_needs (T : Txt K mg) : FnOk P w K mg base (L2.CX P w) 6 T.a_needs T.fd_needs ["source"] (sp_needs T.E_BadSource K) := by
  refine T.F_needs.okX sc_needs (fun vs H Q E h => ?_) (fun cdv A outer s H vs Q E hr h => ?_)
  · obtain ⟨d, v, e, rfl, _⟩ := h
    rfl
  · obtain ⟨d, v, e, rfl, hv, hsh, hE, hQ⟩ := h
    refine ⟨_, (pss_cons (ps_expr (pe_call (ok_check_source T) hr (by rfl) T.g_check_source T.F_check_source.kp T.b_check_source .nil (passes_call (takes_of rfl rfl rfl rfl) (fun _ _ _ _ h => h)) (pa_cons (pv 0) pa_nil)))
      (PSs.nox (pss_one (ps_ret (pe_call (ok_inputs_needed T) (hr.mono (by decide)) (by rfl) T.g_inputs_needed T.F_inputs_needed.kp T.b_inputs_needed .nil pass0 (pa_cons (pv 0) pa_nil)))))), ?_⟩
    walk_at "start"
    walk_at "x"
    refine ⟨d, v, e, rfl, hv, hsh, hE, fun hb H1 s1 => ?_⟩
    obtain ⟨ns, rfl, hok⟩ := sourceD_iff.mp hb
    have q := hQ ns rfl hok
    have hl := hok.l2
    obtain ⟨t, rfl⟩ : ∃ t, v = .ref t := by cases hv; exact ⟨_, rfl⟩
    walk_at "x"
    exact ⟨d, t, ns, rfl, DAt.same s1 _ hv, by omega, fun H2 s2 => q H2 (s1.trans s2)⟩


end
end Br
namespace Br
open PySem PySem.Spec PyProof.Rows L2
local macro_rules | `(tactic| walk_at "x1") => `(tactic| (with_reducible first
  | refine Br.x_seq ?_ | refine Br.x_set ?_ | refine Br.x_asg ?_ | refine Br.x_next ?_ | refine Br.x_ret ?_ | refine Br.x_retN ?_ | refine Br.x_drop ?_ | refine Br.x_if ?_ | refine Br.x_brk ?_ | refine Br.x_cont ?_
  | refine Br.x_c ?_ | refine Br.x_op ?_ | refine Br.x_un ?_ | refine Br.x_I0 ?_ | refine Br.x_U ?_ | refine Br.x_EqI ?_ | refine Br.x_NeI ?_ | refine Br.x_EqB ?_ | refine Br.x_iN ?_ | refine Br.x_int1 ?_ | refine Br.x_min2 ?_ | refine Br.x_max2 ?_ | refine Br.x_nN ?_ | refine Br.x_ifE ?_
  | refine Br.x_test (b := ()) ?_ | refine Br.x_tB ?_ | refine Br.x_bl ?_ | refine Br.x_and ?_ | refine Br.x_or ?_ | refine Br.x_not ?_ | refine Br.x_andV ?_ | refine Br.x_orV ?_ | refine Br.x_notV ?_ | refine Br.x_blP ?_
  | refine Br.x_nil ?_ | refine Br.x_cons ?_ | refine Br.x_call ?_ | refine Br.x_CB ?_ | refine Br.x_BM ?_ | refine Br.x_tup ?_ | refine Br.x_lst ?_ | refine Br.x_chain ?_ | refine Br.x_par ?_ | refine Br.x_gSub ?_ | refine Br.x_gName ?_ | refine Br.x_fld ?_ | refine Br.x_fldS ?_ | refine Br.x_match ?_ | refine Br.x_else ?_ | refine Br.x_noCase ?_))
local macro_rules | `(tactic| walk_at "xv") => `(tactic| ((with_reducible refine' Br.x_var ?hvar ?_); (case hvar => rfl)))
local macro_rules | `(tactic| walk_at "xd") => `(tactic| (dsimp only [List.set_cons_zero, List.set_cons_succ, List.cons_append, List.nil_append, List.append_nil]))
local macro_rules | `(tactic| walk_at "xi") => `(tactic| ((with_reducible refine Br.x_I ?hside ?_); (case hside => first | exact Br.mul_r (by decide) (by decide) | exact Br.mul_l (by decide) (by decide) | exact Br.mul_l (by omega) (by omega) | exact Br.mul_r (by omega) (by omega) | (show (0 : Int) < _; first | decide | omega) | exact ⟨by decide, by decide⟩ | exact ⟨by omega, by omega⟩ | exact ⟨by decide, by decide, by decide⟩)))
local macro_rules | `(tactic| walk_at "x") => `(tactic| (repeat (first | walk_at "x1" | walk_at "xv" | walk_at "xi" | walk_at "xd")))
local macro_rules | `(tactic| walk_at "start") => `(tactic| (simp only [L2.start, List.map_cons, List.map_nil, List.length_cons, List.length_nil, Nat.reduceAdd, Nat.reduceSub, List.replicate, List.cons_append, List.nil_append, List.append_nil]))
local macro_rules | `(tactic| walk_at "isi") => `(tactic| first
  | refine Br.x_isi (b := true) (.base (.int _)) (by decide +kernel) ?_ | refine Br.x_isi (b := false) (.base (.int _)) (by decide +kernel) ?_
  | refine Br.x_isi (b := true) (.base (.bl _)) (by decide +kernel) ?_ | refine Br.x_isi (b := false) (.base (.bl _)) (by decide +kernel) ?_
  | refine Br.x_isi (b := false) (.base .non) (by decide +kernel) ?_
  | refine Br.x_isi (b := true) (.base (.str _)) (by decide +kernel) ?_ | refine Br.x_isi (b := false) (.base (.str _)) (by decide +kernel) ?_
  | refine Br.x_isi (b := true) (.base (.tup (by assumption))) (by decide +kernel) ?_ | refine Br.x_isi (b := false) (.base (.tup (by assumption))) (by decide +kernel) ?_
  | refine Br.x_isi (b := true) (.base (.lst (by assumption))) (by decide +kernel) ?_ | refine Br.x_isi (b := false) (.base (.lst (by assumption))) (by decide +kernel) ?_)
local macro_rules | `(tactic| walk_at "f") => `(tactic| (refine L2.iteF ?_; walk_at "x"))
local macro_rules | `(tactic| walk_at "t") => `(tactic| (refine L2.iteT ?_; walk_at "x"))
local macro_rules | `(tactic| walk_at "is") => `(tactic| (walk_at "isi"; walk_at "x"))
local macro_rules | `(tactic| walk_at "xb") => `(tactic| (simp only [Br.bindS, List.set_cons_zero, List.set_cons_succ]; walk_at "x"))

section
variable {P : Program} {w : World} {K : PySem.W.Frag} {mg : Str → Option Value} {base : Heap}

open Br

theorem borF_at {t i : Nat} {f : Option Nat} (h : ∀ j, j < i → j = t ∨ f = some j) (h1 : i ≠ t) (h2 : f ≠ some i) (h3 : i < 3) : borF t f = i := by
  have hf : ∀ j, j < i → ¬ (j ≠ t ∧ some j ≠ f) := fun j hj hh => by
    rcases h j hj with e | e
    · exact hh.1 e
    · exact hh.2 e.symm
  unfold borF
  match i, h3 with
  | 0, _ => rw [if_pos ⟨h1, h2.symm⟩]
  | 1, _ => rw [if_neg (hf 0 (by decide)), if_pos ⟨h1, h2.symm⟩]
  | 2, _ => rw [if_neg (hf 0 (by decide)), if_neg (hf 1 (by decide))]
def sp_borrowed_cell (K : PySem.W.Frag) : Sp := fun vs H Q _ => ∃ (t : Nat) (a : Addr) (f : Option Nat), vs = [.int (t : Int), .ref a] ∧ FcAt H a f ∧ t < 3 ∧ (∀ g, f = some g → g < 3 ∧ g ≠ t) ∧ ∀ H', Same H H' → Q (.int ((borF t f : Nat) : Int)) H'
theorem ok_borrowed_cell (T : Txt K mg) : FnOk P w K mg base CX0 1 T.a_borrowed_cell T.fd_borrowed_cell ["target", "factors"] (sp_borrowed_cell K) := by
  refine T.F_borrowed_cell.ok sc_borrowed_cell (fun vs H Q E h => ?_) (fun cdv A outer s H vs Q E hr h => ?_)
  · obtain ⟨t, a, f, rfl, _⟩ := h
    rfl
  · obtain ⟨t, a, f, rfl, ha, t3, f3, q⟩ := h
    refine ⟨_, (pss_one (ps_for PassesOwn.never rfl (pi_range1 (by rfl) T.m_range (pa_cons (pe_glob (v := .int 3) (by rfl) T.c_CELLS ⟨_, rfl⟩) pa_nil)) (pg_name (i := 2) sc_borrowed_cell.nd rfl (Or.inl rfl))
      (pss_one (ps_if (PW.pt (pw_and (pt_cmpR op_ne (pv 2) (pv 0) (nomark _)) (pw_and1 (pt_cmpR (op_notInT hr.units) (pe_tup (pa_cons pe_str (pa_cons (pv 2) pa_nil))) (pv 1) (by with_unfolding_all rfl)))))
      (pss_one (ps_ret (pv 2)))
      pss_nil)))), ?_⟩
    walk_at "start"
    walk_at "x"
    refine x_forR1 3 (fun i σ' H' => ∃ v2, σ' = [some (.int (t : Int)), some (.ref a), v2] ∧ Same H H' ∧ ∀ j, j < i → j = t ∨ f = some j) (fun R r => r) (by decide) (by decide) ⟨none, rfl, Same.refl _, fun j h => by omega⟩ ?_ ?_
    · rintro i σ' H' hi ⟨v2, rfl, s, hno⟩
      have more : (i = t ∨ f = some i) → ∀ j, j < i + 1 → j = t ∨ f = some j := fun h j hj => by
        by_cases e : j = i
        · rw [e]; exact h
        · exact hno j (by omega)
      walk_at "x"
      refine x_iteN (fun hne => ?_) (fun heq => ?_)
      · walk_at "x"
        refine ⟨by show 2 ≤ sizeLine; decide, fun p hp => ?_⟩
        have s1 := s.trans (same_upd (o := .tup [V.str "cell", V.int (i : Int)]) hp)
        have e1 : (upd H' p (.tup [V.str "cell", V.int (i : Int)])) p = some (.tup [V.str "cell", V.int (i : Int)]) := upd_same
        generalize upd H' p (.tup [V.str "cell", V.int (i : Int)]) = H1 at s1 e1
        walk_at "x"
        have hd : DAt p H1 (.ref p) (.tuple [.str "cell", .int (i : Int)]) := .tup e1 (.cons (.str _) (.cons (.int _) .nil))
        have hfs : ShN 2 (.tuple (fcD f)) := fcD_sh (m := 0)
        refine ⟨.tuple [.str "cell", .int (i : Int)], fcD f, hd.dp, ((ha.tups (Tups.same s1)).dat (d := p)).dp, (cellD_sh (m := 0)).sh (by decide), hfs.1, _, rfl, ?_⟩
        rw [fcD_in]
        by_cases hf : f = some i
        · rw [decide_eq_true hf]
          walk_at "f"
          exact ⟨_, rfl, s1, more (.inr hf)⟩
        · rw [decide_eq_false hf]
          walk_at "t"
          have e := borF_at hno (by omega) hf (by omega)
          rw [← e]
          exact q _ s1
      · walk_at "f"
        exact ⟨_, rfl, s, more (.inl (by omega))⟩
    · rintro σ' H' ⟨v2, rfl, s, hno⟩
      exfalso
      have h0 := hno 0 (by decide)
      have h1 := hno 1 (by decide)
      have h2 := hno 2 (by decide)
      rcases h0 with rfl | h0
      · rcases h1 with h1 | h1
        · omega
        · rcases h2 with h2 | h2
          · omega
          · rw [h1] at h2; cases h2
      · rcases h1 with rfl | h1
        · rcases h2 with h2 | h2
          · omega
          · rw [h0] at h2; cases h2
        · rw [h0] at h1; cases h1


def sp_parts_of (K : PySem.W.Frag) : Sp := fun vs H Q _ => ∃ (a fa : Addr) (n : SN) (t : Nat) (c : Int) (f : Option Nat), vs = [.ref a, .int (t : Int), .int c, .ref fa] ∧ H a = some (.tup (snV n)) ∧ isScl n = false ∧ isLeaf n = false ∧ FcAt H fa f ∧ t < 3 ∧ (∀ g, f = some g → g < 3 ∧ g ≠ t) ∧ 0 ≤ c ∧ c < 1000000000 ∧
  ∀ (l : Addr) (as : List Addr) (H' : Hp), Same H H' → H l = none → H' l = some (.lst (as.map V.ref)) → TksAt H' as (partsF t c f n) → Q (.ref l) H'
theorem ok_parts_of (T : Txt K mg) : FnOk P w K mg base CX0 2 T.a_parts_of T.fd_parts_of ["node", "target", "coefficient", "factors"] (sp_parts_of K) := by
  refine T.F_parts_of.ok sc_parts_of (fun vs H Q E h => ?_) (fun cdv A outer s H vs Q E hr h => ?_)
  · obtain ⟨a, fa, n, t, c, f, rfl, _⟩ := h
    rfl
  · obtain ⟨a, fa, n, t, c, f, rfl, ha, hs, hl, hf, t3, f3, c0, c1, q⟩ := h
    refine ⟨_, (pss_cons (ps_set (i := 4) sc_parts_of.nd rfl (.inl rfl) (pe_call (ok_borrowed_cell T) hr (by rfl) T.g_borrowed_cell T.F_borrowed_cell.kp T.b_borrowed_cell .nil pass0 (pa_cons (pv 1) (pa_cons (pv 3) pa_nil))))
      (pss_cons (ps_set (i := 5) sc_parts_of.nd rfl (.inl rfl) (pe_tup (pa_cons (pe_tup (pa_cons pe_str (pa_cons (pv 4) pa_nil))) pa_nil)))
      (pss_one (ps_match (pv 0) (pcs_seq rfl op_eq (pcap_name 6 sc_parts_of.nd rfl (.inl rfl) (pcap_name 7 sc_parts_of.nd rfl (.inl rfl) pcap_nil))
      (pss_one (ps_ret (pe_lst (pa_cons (pe_tup (pa_cons (pv 6) (pa_cons (pv 1) (pa_cons (pv 2) (pa_cons (pv 3) pa_nil))))) (pa_cons (pe_tup (pa_cons (pv 7) (pa_cons (pv 1) (pa_cons (pv 2) (pa_cons (pv 3) pa_nil))))) pa_nil)))))
      (pcs_seq rfl op_eq (pcap_name 6 sc_parts_of.nd rfl (.inl rfl) (pcap_name 7 sc_parts_of.nd rfl (.inl rfl) pcap_nil))
      (pss_one (ps_ret (pe_lst (pa_cons (pe_tup (pa_cons (pv 6) (pa_cons (pv 4) (pa_cons pe_int (pa_cons (pv 3) pa_nil))))) (pa_cons (pe_tup (pa_cons (pv 7) (pa_cons (pv 1) (pa_cons (pv 2) (pa_cons (pv 5) pa_nil))))) (pa_cons (pe_tup (pa_cons (pv 6) (pa_cons (pv 4) (pa_cons (pe_un un_neg pe_int) (pa_cons (pv 3) pa_nil))))) (pa_cons (pe_tup (pa_cons (pv 7) (pa_cons (pv 1) (pa_cons (pe_un un_neg (pv 2)) (pa_cons (pv 5) pa_nil))))) pa_nil)))))))
      (pcs_seq rfl op_eq (pcap_name 6 sc_parts_of.nd rfl (.inl rfl) (pcap_name 7 sc_parts_of.nd rfl (.inl rfl) (pcap_name 8 sc_parts_of.nd rfl (.inl rfl) pcap_nil)))
      (pss_one (ps_ret (pe_lst (pa_cons (pe_tup (pa_cons (pv 8) (pa_cons (pv 1) (pa_cons (pv 2) (pa_cons (pv 3) pa_nil))))) (pa_cons (pe_tup (pa_cons (pv 6) (pa_cons (pv 4) (pa_cons pe_int (pa_cons (pv 3) pa_nil))))) (pa_cons (pe_tup (pa_cons (pv 7) (pa_cons (pv 1) (pa_cons (pv 2) (pa_cons (pv 5) pa_nil))))) (pa_cons (pe_tup (pa_cons (pv 8) (pa_cons (pv 1) (pa_cons (pe_un un_neg (pv 2)) (pa_cons (pv 5) pa_nil))))) (pa_cons (pe_tup (pa_cons (pv 6) (pa_cons (pv 4) (pa_cons (pe_un un_neg pe_int) (pa_cons (pv 3) pa_nil))))) (pa_cons (pe_tup (pa_cons (pv 7) (pa_cons (pv 1) (pa_cons (pe_un un_neg (pv 2)) (pa_cons (pv 5) pa_nil))))) (pa_cons (pe_tup (pa_cons (pv 8) (pa_cons (pv 1) (pa_cons (pv 2) (pa_cons (pv 5) pa_nil))))) pa_nil))))))))))
      pcs_nil))))))), ?_⟩
    walk_at "start"
    walk_at "x"
    refine ⟨t, fa, f, rfl, hf, t3, f3, fun H1 s1 => ?_⟩
    generalize hb : borF t f = b
    walk_at "x"
    refine ⟨by show 2 ≤ sizeLine; decide, fun p hp => ?_⟩
    have s2 := s1.trans (same_upd (o := .tup [V.str "cell", V.int (b : Int)]) hp)
    have e2 : (upd H1 p (.tup [V.str "cell", V.int (b : Int)])) p = some (.tup [V.str "cell", V.int (b : Int)]) := upd_same
    generalize upd H1 p (.tup [V.str "cell", V.int (b : Int)]) = H2 at s2 e2
    walk_at "x"
    refine ⟨by show 1 ≤ sizeLine; decide, fun r hr0 => ?_⟩
    have s3 := s2.trans (same_upd (o := .tup [V.ref p]) hr0)
    have e3 : (upd H2 r (.tup [V.ref p])) r = some (.tup [V.ref p]) := upd_same
    have e3' := same_upd (o := .tup [V.ref p]) hr0 _ _ e2
    generalize upd H2 r (.tup [V.ref p]) = H3 at s3 e3 e3'
    have hby : FcAt H3 r (some b) := ⟨p, e3, e3'⟩
    have hf3 := hf.tups (Tups.same s3)
    have a3 := s3 _ _ ha
    have hf0 := hf3
    have hby0 := hby
    walk_at "x"
    cases n with
    | con => cases hl
    | inp => cases hl
    | scl => cases hs
    | sum i j =>
      have a3 : H3 a = some (.tup [.str "sum", .int (i : Int), .int (j : Int)]) := a3
      refine x_caseY (st_of a3) rfl ?_
      walk_at "xb"
      have T3 : TksAt H3 [] [] := TksAt.nil
      refine ⟨by show 4 ≤ sizeLine; decide, fun p1 hp1 => ?_⟩
      obtain ⟨s4, T4⟩ := tk_put (i := i) (t := t) (c := c) (g := f) s3 T3 hp1 (f := fa) hf0
      have u4 := (same_upd (o := (.tup [.int (i : Int), .int (t : Int), .int (c), .ref fa])) hp1)
      generalize upd H3 p1 (.tup [.int (i : Int), .int (t : Int), .int (c), .ref fa]) = H4 at s4 T4 u4
      walk_at "x"
      refine ⟨by show 4 ≤ sizeLine; decide, fun p2 hp2 => ?_⟩
      obtain ⟨s5, T5⟩ := tk_put (i := j) (t := t) (c := c) (g := f) s4 T4 hp2 (f := fa) (hf0.tups (Tups.same u4))
      have u5 := u4.trans (same_upd (o := (.tup [.int (j : Int), .int (t : Int), .int (c), .ref fa])) hp2)
      generalize upd H4 p2 (.tup [.int (j : Int), .int (t : Int), .int (c), .ref fa]) = H5 at s5 T5 u5
      walk_at "x"
      refine ⟨by show 2 ≤ sizeLine; decide, fun l hl => ?_⟩
      have T := T5.tups (Tups.same (same_upd (o := .lst [.ref p1, .ref p2]) hl))
      exact q l [p1, p2] _ (s5.trans (same_upd hl)) (s5.free hl) upd_same (by unfold partsF; rw [hb]; exact T)
    | prod i j =>
      have a3 : H3 a = some (.tup [.str "product", .int (i : Int), .int (j : Int)]) := a3
      refine x_caseW (st_of a3) rfl (by decide) ?_
      refine x_caseY (st_of a3) rfl ?_
      walk_at "xb"
      have T3 : TksAt H3 [] [] := TksAt.nil
      refine ⟨by show 4 ≤ sizeLine; decide, fun p1 hp1 => ?_⟩
      obtain ⟨s4, T4⟩ := tk_put (i := i) (t := b) (c := 1) (g := f) s3 T3 hp1 (f := fa) hf0
      have u4 := (same_upd (o := (.tup [.int (i : Int), .int (b : Int), .int (1), .ref fa])) hp1)
      generalize upd H3 p1 (.tup [.int (i : Int), .int (b : Int), .int (1), .ref fa]) = H4 at s4 T4 u4
      walk_at "x"
      refine ⟨by show 4 ≤ sizeLine; decide, fun p2 hp2 => ?_⟩
      obtain ⟨s5, T5⟩ := tk_put (i := j) (t := t) (c := c) (g := (some b)) s4 T4 hp2 (f := r) (hby0.tups (Tups.same u4))
      have u5 := u4.trans (same_upd (o := (.tup [.int (j : Int), .int (t : Int), .int (c), .ref r])) hp2)
      generalize upd H4 p2 (.tup [.int (j : Int), .int (t : Int), .int (c), .ref r]) = H5 at s5 T5 u5
      walk_at "x"
      refine ⟨by show 4 ≤ sizeLine; decide, fun p3 hp3 => ?_⟩
      obtain ⟨s6, T6⟩ := tk_put (i := i) (t := b) (c := -1) (g := f) s5 T5 hp3 (f := fa) (hf0.tups (Tups.same u5))
      have u6 := u5.trans (same_upd (o := (.tup [.int (i : Int), .int (b : Int), .int (-1), .ref fa])) hp3)
      generalize upd H5 p3 (.tup [.int (i : Int), .int (b : Int), .int (-1), .ref fa]) = H6 at s6 T6 u6
      walk_at "x"
      refine ⟨by show 4 ≤ sizeLine; decide, fun p4 hp4 => ?_⟩
      obtain ⟨s7, T7⟩ := tk_put (i := j) (t := t) (c := -c) (g := (some b)) s6 T6 hp4 (f := r) (hby0.tups (Tups.same u6))
      have u7 := u6.trans (same_upd (o := (.tup [.int (j : Int), .int (t : Int), .int (-c), .ref r])) hp4)
      generalize upd H6 p4 (.tup [.int (j : Int), .int (t : Int), .int (-c), .ref r]) = H7 at s7 T7 u7
      walk_at "x"
      refine ⟨by show 4 ≤ sizeLine; decide, fun l hl => ?_⟩
      have T := T7.tups (Tups.same (same_upd (o := .lst [.ref p1, .ref p2, .ref p3, .ref p4]) hl))
      exact q l [p1, p2, p3, p4] _ (s7.trans (same_upd hl)) (s7.free hl) upd_same (by unfold partsF; rw [hb]; exact T)
    | cho i j l =>
      have a3 : H3 a = some (.tup [.str "choose", .int (i : Int), .int (j : Int), .int (l : Int)]) := a3
      refine x_caseNo (st_of a3) (by show (4 : Nat) ≠ 3; decide) ?_
      refine x_caseNo (st_of a3) (by show (4 : Nat) ≠ 3; decide) ?_
      refine x_caseY (st_of a3) rfl ?_
      walk_at "xb"
      have T3 : TksAt H3 [] [] := TksAt.nil
      refine ⟨by show 4 ≤ sizeLine; decide, fun p1 hp1 => ?_⟩
      obtain ⟨s4, T4⟩ := tk_put (i := l) (t := t) (c := c) (g := f) s3 T3 hp1 (f := fa) hf0
      have u4 := (same_upd (o := (.tup [.int (l : Int), .int (t : Int), .int (c), .ref fa])) hp1)
      generalize upd H3 p1 (.tup [.int (l : Int), .int (t : Int), .int (c), .ref fa]) = H4 at s4 T4 u4
      walk_at "x"
      refine ⟨by show 4 ≤ sizeLine; decide, fun p2 hp2 => ?_⟩
      obtain ⟨s5, T5⟩ := tk_put (i := i) (t := b) (c := 1) (g := f) s4 T4 hp2 (f := fa) (hf0.tups (Tups.same u4))
      have u5 := u4.trans (same_upd (o := (.tup [.int (i : Int), .int (b : Int), .int (1), .ref fa])) hp2)
      generalize upd H4 p2 (.tup [.int (i : Int), .int (b : Int), .int (1), .ref fa]) = H5 at s5 T5 u5
      walk_at "x"
      refine ⟨by show 4 ≤ sizeLine; decide, fun p3 hp3 => ?_⟩
      obtain ⟨s6, T6⟩ := tk_put (i := j) (t := t) (c := c) (g := (some b)) s5 T5 hp3 (f := r) (hby0.tups (Tups.same u5))
      have u6 := u5.trans (same_upd (o := (.tup [.int (j : Int), .int (t : Int), .int (c), .ref r])) hp3)
      generalize upd H5 p3 (.tup [.int (j : Int), .int (t : Int), .int (c), .ref r]) = H6 at s6 T6 u6
      walk_at "x"
      refine ⟨by show 4 ≤ sizeLine; decide, fun p4 hp4 => ?_⟩
      obtain ⟨s7, T7⟩ := tk_put (i := l) (t := t) (c := -c) (g := (some b)) s6 T6 hp4 (f := r) (hby0.tups (Tups.same u6))
      have u7 := u6.trans (same_upd (o := (.tup [.int (l : Int), .int (t : Int), .int (-c), .ref r])) hp4)
      generalize upd H6 p4 (.tup [.int (l : Int), .int (t : Int), .int (-c), .ref r]) = H7 at s7 T7 u7
      walk_at "x"
      refine ⟨by show 4 ≤ sizeLine; decide, fun p5 hp5 => ?_⟩
      obtain ⟨s8, T8⟩ := tk_put (i := i) (t := b) (c := -1) (g := f) s7 T7 hp5 (f := fa) (hf0.tups (Tups.same u7))
      have u8 := u7.trans (same_upd (o := (.tup [.int (i : Int), .int (b : Int), .int (-1), .ref fa])) hp5)
      generalize upd H7 p5 (.tup [.int (i : Int), .int (b : Int), .int (-1), .ref fa]) = H8 at s8 T8 u8
      walk_at "x"
      refine ⟨by show 4 ≤ sizeLine; decide, fun p6 hp6 => ?_⟩
      obtain ⟨s9, T9⟩ := tk_put (i := j) (t := t) (c := -c) (g := (some b)) s8 T8 hp6 (f := r) (hby0.tups (Tups.same u8))
      have u9 := u8.trans (same_upd (o := (.tup [.int (j : Int), .int (t : Int), .int (-c), .ref r])) hp6)
      generalize upd H8 p6 (.tup [.int (j : Int), .int (t : Int), .int (-c), .ref r]) = H9 at s9 T9 u9
      walk_at "x"
      refine ⟨by show 4 ≤ sizeLine; decide, fun p7 hp7 => ?_⟩
      obtain ⟨s10, T10⟩ := tk_put (i := l) (t := t) (c := c) (g := (some b)) s9 T9 hp7 (f := r) (hby0.tups (Tups.same u9))
      have u10 := u9.trans (same_upd (o := (.tup [.int (l : Int), .int (t : Int), .int (c), .ref r])) hp7)
      generalize upd H9 p7 (.tup [.int (l : Int), .int (t : Int), .int (c), .ref r]) = H10 at s10 T10 u10
      walk_at "x"
      refine ⟨by show 7 ≤ sizeLine; decide, fun lo hl => ?_⟩
      have T := T10.tups (Tups.same (same_upd (o := .lst [.ref p1, .ref p2, .ref p3, .ref p4, .ref p5, .ref p6, .ref p7]) hl))
      exact q lo [p1, p2, p3, p4, p5, p6, p7] _ (s10.trans (same_upd hl)) (s10.free hl) upd_same (by unfold partsF; rw [hb]; exact T)


theorem bases_rg {m : Nat} {ns : List SN} (m1 : 1 ≤ m) (m9 : m ≤ 1000000000) : ∀ {x}, x ∈ basesF (m : Int) ns → 0 ≤ x.2 ∧ x.2 ≤ 1000000000 := by
  refine revRec (P := fun ns => ∀ {x}, x ∈ basesF (m : Int) ns → 0 ≤ x.2 ∧ x.2 ≤ 1000000000) (fun h => by simp [basesF, scanF] at h) (fun ns n ih => ?_) ns
  intro x hx
  have e : basesF (m : Int) (ns ++ [n]) = basesF (m : Int) ns ++ [base1 m (basesF (m : Int) ns) n] := scanF_snoc
  rw [e] at hx
  rcases List.mem_append.mp hx with hx | hx
  · exact ih hx
  · rw [List.mem_singleton.mp hx]
    cases n with
    | scl c i =>
      have h0 := Int.emod_nonneg (((basesF (m : Int) ns).getD i (0, 0)).2 * (c : Int)) (show (m : Int) ≠ 0 by omega)
      have h1 := Int.emod_lt_of_pos (((basesF (m : Int) ns).getD i (0, 0)).2 * (c : Int)) (show (0 : Int) < m by omega)
      exact ⟨h0, by show _ % _ ≤ _; omega⟩
    | _ => exact ⟨by show (0 : Int) ≤ 1; decide, by show (1 : Int) ≤ 1000000000; decide⟩
def sp_without_scaling (K : PySem.W.Frag) : Sp := fun vs H Q _ => ∃ (d t : Addr) (ns : List SN) (m : Nat), vs = [.ref t, .int (m : Int)] ∧ DAt d H (.ref t) (.tuple (ns.map snD)) ∧ SsOk ns ∧ 1 ≤ m ∧ m ≤ 1000000000 ∧
  ∀ (l : Addr) (as : List Addr) (H' : Hp), Same H H' → H l = none → H' l = some (.lst (as.map V.ref)) → BasL H' as (basesF m ns) → Q (.ref l) H'
theorem ok_without_scaling (T : Txt K mg) : FnOk P w K mg base CX0 1 T.a_without_scaling T.fd_without_scaling ["source", "modulus"] (sp_without_scaling K) := by
  refine T.F_without_scaling.ok sc_without_scaling (fun vs H Q E h => ?_) (fun cdv A outer s H vs Q E hr h => ?_)
  · obtain ⟨d, t, ns, m, rfl, _⟩ := h
    rfl
  · obtain ⟨d, t, ns, m, rfl, ht, ok, m1, m9, q⟩ := h
    have hl2 := ok.l2
    cases ht with
    | tup ha hs =>
      rename_i xs
      obtain ⟨as, rfl, hal, hat⟩ := sns_at hs
      refine ⟨_, (pss_cons (ps_set (i := 2) sc_without_scaling.nd rfl (.inl rfl) (pe_lst pa_nil))
      (pss_cons (ps_for PassesOwn.never rfl (pi_enumT (K2 := K) rfl (by rfl) T.m_enumerate (pa_cons (pv 0) pa_nil)) (pg_tup rfl (pgs_cons (pg_name (i := 3) sc_without_scaling.nd rfl (Or.inl rfl)) (pgs_cons (pg_name (i := 4) sc_without_scaling.nd rfl (Or.inl rfl)) pgs_nil)))
      (pss_one (ps_match (pv 4) (pcs_seq rfl op_eq (pcap_name 5 sc_without_scaling.nd rfl (.inl rfl) (pcap_name 6 sc_without_scaling.nd rfl (.inl rfl) pcap_nil))
      (pss_cons (ps_asg (pe_ix (r := rIxL K) ix_list (pv 2) (pv 6) (fun _ _ => rfl)) (pg_tup rfl (pgs_cons (pg_name (i := 7) sc_without_scaling.nd rfl (Or.inl rfl)) (pgs_cons (pg_name (i := 8) sc_without_scaling.nd rfl (Or.inl rfl)) pgs_nil))))
      (pss_one (ps_expr (pe_bm PySem.F.plainAttrs_list PySem.F.slot_list_append PySem.F.type_list_append mt_append (pv 2) (pa_cons (pe_tup (pa_cons (pv 7) (pa_cons (pe_op op_mod (pe_op op_mul (pv 8) (pv 5)) (pv 1)) pa_nil))) pa_nil)))))
      (pcs_else (rest := _) (pss_one (ps_expr (pe_bm PySem.F.plainAttrs_list PySem.F.slot_list_append PySem.F.type_list_append mt_append (pv 2) (pa_cons (pe_tup (pa_cons (pv 3) (pa_cons pe_int pa_nil))) pa_nil)))))))))
      (pss_one (ps_ret (pv 2))))), ?_⟩
      walk_at "start"
      walk_at "x"
      refine ⟨by show 0 ≤ sizeLine; decide, fun p hp => ?_⟩
      have s1 := same_upd (o := .lst []) hp
      have e1 : (upd H p (.lst [])) p = some (.lst (([] : List Addr).map V.ref)) := upd_same
      generalize upd H p (.lst []) = H1 at s1 e1
      walk_at "x"
      refine x_forI (J := IteT K t) (n := (as.map V.ref).length) (G := fun H => SqT K H t (as.map V.ref)) (fun R r => by unfold iEnumT; walk_at "x"; exact ⟨t, _, rfl, st_of (s1 _ _ ha), r⟩) walk_enumT
        (fun k σ' H' => ∃ v3 v4 v5 v6 v7 v8 bs, σ' = [some (.ref t), some (.int (m : Int)), some (.ref p), v3, v4, v5, v6, v7, v8] ∧ Same H H' ∧ H' p = some (.lst (bs.map V.ref)) ∧ BasL H' bs (basesF m (ns.take k))) ⟨_, _, _, _, _, _, [], rfl, s1, e1, BasL.nil⟩
        (fun k σ' H' _ z => by obtain ⟨_, _, _, _, _, _, _, _, z, _⟩ := z; exact st_of (z _ _ ha)) ?_ ?_
      · rintro k _ σ' H5 H6 hk ⟨v3, v4, v5, v6, v7, v8, bs, rfl, s5, e5, hB⟩ ⟨T, y, rfl, hT, rfl, hx⟩
        refine x_gTup2 (st_of upd_same) ?_
        obtain ⟨b, hb2, rfl⟩ := map_getR hx
        obtain ⟨n, hn⟩ : ∃ n, ns[k]? = some n := ⟨_, List.getElem?_eq_getElem (by rw [List.length_map] at hk; omega)⟩
        have okn := ok.ok k n hn
        have hkl := (List.getElem?_eq_some_iff.mp hn).1
        have u5 := same_upd (o := .tup [V.int (k : Nat), .ref b]) hT
        have s6 := s5.trans u5
        have e6 := u5 _ _ e5
        have hB := hB.tups (Tups.same u5)
        generalize upd H5 T (.tup [V.int (k : Nat), .ref b]) = H6 at s6 e6 hB
        have hb3 := s6 _ _ (hat k n b hn hb2)
        have hll : (basesF (m : Int) (ns.take k)).length = k := by
          have : (basesF (m : Int) (ns.take k)).length = (ns.take k).length := scanF_len
          rw [this, List.length_take]
          omega
        have hst : basesF (m : Int) (ns.take (k + 1)) = basesF (m : Int) (ns.take k) ++ [base1 m (basesF (m : Int) (ns.take k)) n] := by
          rw [take_snocG hn]
          exact scanF_snoc
        have hrg : ∀ {x}, x ∈ basesF (m : Int) (ns.take k) → 0 ≤ x.2 ∧ x.2 ≤ 1000000000 := fun h => bases_rg m1 m9 h
        have hbl := hB.1
        generalize basesF (m : Int) (ns.take k) = C at e6 hll hst hB hrg hbl
        have fin : ∀ (x : Nat × Int) (H7 : Hp) (r : Addr), Same H H7 → H7 p = some (.lst (bs.map V.ref)) → BasL H7 bs C → H7 r = none → base1 m C n = x →
            (∃ (zs : List V), (upd H7 r (.tup [.int (x.1 : Int), .int x.2])) p = some (.lst zs) ∧ zs.length + 1 ≤ 1000 ∧ ∃ bs2, zs ++ [.ref r] = bs2.map V.ref ∧ Same H (upd (upd H7 r (.tup [.int (x.1 : Int), .int x.2])) p (.lst (zs ++ [.ref r]))) ∧ BasL (upd (upd H7 r (.tup [.int (x.1 : Int), .int x.2])) p (.lst (zs ++ [.ref r]))) bs2 (basesF m (ns.take (k + 1)))) := fun x H7 r s7 e7 hB7 hr0 hx => by
          have u7 := same_upd (o := .tup [.int (x.1 : Int), .int x.2]) hr0
          have e8 := u7 _ _ e7
          refine ⟨_, e8, by rw [List.length_map, hbl, hll]; omega, bs ++ [r], by rw [List.map_append]; rfl, same_keep hp (s7.trans u7) keep_upd, ?_⟩
          rw [hst, hx]
          have hT : Tups (upd H7 r (.tup [.int (x.1 : Int), .int x.2])) (upd (upd H7 r (.tup [.int (x.1 : Int), .int x.2])) p (.lst (bs.map V.ref ++ [.ref r]))) := (Tups.refl _).put (no_tupL e8)
          exact ((hB7.tups (Tups.same u7)).tups hT).snoc (hT _ _ upd_same)
        walk_at "x"
        cases n with
        | con c =>
          have hb3 : H6 b = some (.tup [.str "const", .int (c : Int)]) := hb3
          refine x_caseNo (st_of hb3) (by show (2 : Nat) ≠ 3; decide) ?_
          refine x_else ?_
          walk_at "x"
          refine x_tyL e6 ?_
          walk_at "x"
          refine ⟨by show 2 ≤ sizeLine; decide, fun r hr0 => ?_⟩
          obtain ⟨zs, g1, g2, bs2, g3, g4, g5⟩ := fin (k, 1) H6 r s6 e6 hB hr0 (by show (C.length, (1 : Int)) = _; rw [hll])
          dsimp only at g1 g4 g5
          walk_at "x"
          refine x_app g1 (by omega) ?_
          walk_at "x"
          exact ⟨_, _, _, _, _, _, bs2, rfl, g4, by rw [upd_same, g3], g5⟩
        | inp c =>
          have hb3 : H6 b = some (.tup [.str "input", .int (c : Int)]) := hb3
          refine x_caseNo (st_of hb3) (by show (2 : Nat) ≠ 3; decide) ?_
          refine x_else ?_
          walk_at "x"
          refine x_tyL e6 ?_
          walk_at "x"
          refine ⟨by show 2 ≤ sizeLine; decide, fun r hr0 => ?_⟩
          obtain ⟨zs, g1, g2, bs2, g3, g4, g5⟩ := fin (k, 1) H6 r s6 e6 hB hr0 (by show (C.length, (1 : Int)) = _; rw [hll])
          dsimp only at g1 g4 g5
          walk_at "x"
          refine x_app g1 (by omega) ?_
          walk_at "x"
          exact ⟨_, _, _, _, _, _, bs2, rfl, g4, by rw [upd_same, g3], g5⟩
        | scl c i =>
          have hb3 : H6 b = some (.tup [.str "scaled", .int (c : Int), .int (i : Int)]) := hb3
          refine x_caseY (st_of hb3) rfl ?_
          walk_at "xb"
          have hi : i < k := okn.2
          obtain ⟨bb, hb4, hb5⟩ := hB.get (i := i) (by omega)
          refine x_ixL (v := .ref bb) (sq_of e6) (atI_nat (by rw [List.getElem?_map, hb4]; rfl)) ?_
          refine x_gTup2 (st_of hb5) ?_
          have hrg := hrg (x := C.getD i (0, 0)) (by rw [List.getD_eq_getElem?_getD, List.getElem?_eq_getElem (by omega)]; exact List.getElem_mem _)
          have hc := okn.1
          walk_at "x"
          refine x_tyL e6 ?_
          walk_at "x"
          refine ⟨by show 2 ≤ sizeLine; decide, fun r hr0 => ?_⟩
          obtain ⟨zs, g1, g2, bs2, g3, g4, g5⟩ := fin ((C.getD i (0, 0)).1, (C.getD i (0, 0)).2 * (c : Int) % (m : Int)) H6 r s6 e6 hB hr0 rfl
          dsimp only at g1 g4 g5
          walk_at "x"
          refine x_app g1 (by omega) ?_
          walk_at "x"
          exact ⟨_, _, _, _, _, _, bs2, rfl, g4, by rw [upd_same, g3], g5⟩
        | sum i j =>
          have hb3 : H6 b = some (.tup [.str "sum", .int (i : Int), .int (j : Int)]) := hb3
          refine x_caseW (st_of hb3) rfl (by decide) ?_
          refine x_else ?_
          walk_at "x"
          refine x_tyL e6 ?_
          walk_at "x"
          refine ⟨by show 2 ≤ sizeLine; decide, fun r hr0 => ?_⟩
          obtain ⟨zs, g1, g2, bs2, g3, g4, g5⟩ := fin (k, 1) H6 r s6 e6 hB hr0 (by show (C.length, (1 : Int)) = _; rw [hll])
          dsimp only at g1 g4 g5
          walk_at "x"
          refine x_app g1 (by omega) ?_
          walk_at "x"
          exact ⟨_, _, _, _, _, _, bs2, rfl, g4, by rw [upd_same, g3], g5⟩
        | prod i j =>
          have hb3 : H6 b = some (.tup [.str "product", .int (i : Int), .int (j : Int)]) := hb3
          refine x_caseW (st_of hb3) rfl (by decide) ?_
          refine x_else ?_
          walk_at "x"
          refine x_tyL e6 ?_
          walk_at "x"
          refine ⟨by show 2 ≤ sizeLine; decide, fun r hr0 => ?_⟩
          obtain ⟨zs, g1, g2, bs2, g3, g4, g5⟩ := fin (k, 1) H6 r s6 e6 hB hr0 (by show (C.length, (1 : Int)) = _; rw [hll])
          dsimp only at g1 g4 g5
          walk_at "x"
          refine x_app g1 (by omega) ?_
          walk_at "x"
          exact ⟨_, _, _, _, _, _, bs2, rfl, g4, by rw [upd_same, g3], g5⟩
        | cho i j l =>
          have hb3 : H6 b = some (.tup [.str "choose", .int (i : Int), .int (j : Int), .int (l : Int)]) := hb3
          refine x_caseNo (st_of hb3) (by show (4 : Nat) ≠ 3; decide) ?_
          refine x_else ?_
          walk_at "x"
          refine x_tyL e6 ?_
          walk_at "x"
          refine ⟨by show 2 ≤ sizeLine; decide, fun r hr0 => ?_⟩
          obtain ⟨zs, g1, g2, bs2, g3, g4, g5⟩ := fin (k, 1) H6 r s6 e6 hB hr0 (by show (C.length, (1 : Int)) = _; rw [hll])
          dsimp only at g1 g4 g5
          walk_at "x"
          refine x_app g1 (by omega) ?_
          walk_at "x"
          exact ⟨_, _, _, _, _, _, bs2, rfl, g4, by rw [upd_same, g3], g5⟩
      · rintro σ' H5 ⟨v3, v4, v5, v6, v7, v8, bs, rfl, s5, e5, hB⟩
        rw [List.length_map, hal, List.take_length] at hB
        walk_at "x"
        exact q p bs H5 s5 hp e5 hB


def sp_steps_of (K : PySem.W.Frag) : Sp := fun vs H Q _ => ∃ (d t : Addr) (ns : List SN) (m i : Nat), vs = [.ref t, .int (m : Int)] ∧ DAt d H (.ref t) (.tuple (ns.map snD)) ∧ SsOk ns ∧ 1 ≤ m ∧ m ≤ 1000000000 ∧ costF ns ≤ 20000 ∧ (∀ (j c : Nat), ns[j]? = some (SN.inp c) → c < i) ∧
  ∀ (l : Addr) (as : List Addr) (S : List Stp) (H' : Hp), Same H H' → H l = none → H' l = some (.lst (as.map V.ref)) → StpsAt H' as S → CompOk m ns i S → Q (.ref l) H'
theorem ok_steps_of (T : Txt K mg) : FnOk P w K mg base CX0 3 T.a_steps_of T.fd_steps_of ["source", "modulus"] (sp_steps_of K) := by
  refine T.F_steps_of.ok sc_steps_of (fun vs H Q E h => ?_) (fun cdv A outer s H vs Q E hr h => ?_)
  · obtain ⟨d, t, ns, m, i, rfl, _⟩ := h
    rfl
  · obtain ⟨d, t, ns, m, i, rfl, ht, ok, m1, m9, hc20, hin, q⟩ := h
    have hl2 := ok.l2
    have hl1 := ok.l1
    refine ⟨_, (pss_cons (ps_set (i := 2) sc_steps_of.nd rfl (.inl rfl) (pe_call (ok_without_scaling T) (hr.mono (by decide)) (by rfl) T.g_without_scaling T.F_without_scaling.kp T.b_without_scaling .nil pass0 (pa_cons (pv 0) (pa_cons (pv 1) pa_nil))))
      (pss_cons (ps_set (i := 3) sc_steps_of.nd rfl (.inl rfl) (pe_lst pa_nil))
      (pss_cons (ps_set (i := 4) sc_steps_of.nd rfl (.inl rfl) (pe_lst (pa_cons (pe_tup (pa_cons (pe_op op_sub (pe_callB (id := "len") (r := rLen K) cr_len (by rfl) T.m_len PySem.boot_len (pa_cons (pv 0) pa_nil)) pe_int) (pa_cons pe_int (pa_cons pe_int (pa_cons (pe_tup pa_nil) pa_nil))))) pa_nil)))
      (pss_cons (ps_while PassesOwn.never (pt_truth (pv 4) (by intro _; rfl))
      (pss_cons (ps_asg (pe_bm0 PySem.F.plainAttrs_list PySem.F.slot_list_pop PySem.F.type_list_pop mt_pop (pv 4)) (pg_tup rfl (pgs_cons (pg_name (i := 5) sc_steps_of.nd rfl (Or.inl rfl)) (pgs_cons (pg_name (i := 6) sc_steps_of.nd rfl (Or.inl rfl)) (pgs_cons (pg_name (i := 7) sc_steps_of.nd rfl (Or.inl rfl)) (pgs_cons (pg_name (i := 8) sc_steps_of.nd rfl (Or.inl rfl)) pgs_nil))))))
      (pss_cons (ps_asg (pe_ix (r := rIxL K) ix_list (pv 2) (pv 5) (fun _ _ => rfl)) (pg_tup rfl (pgs_cons (pg_name (i := 9) sc_steps_of.nd rfl (Or.inl rfl)) (pgs_cons (pg_name (i := 10) sc_steps_of.nd rfl (Or.inl rfl)) pgs_nil))))
      (pss_cons (ps_set (i := 7) sc_steps_of.nd rfl (.inl rfl) (pe_op op_mod (pe_op op_mul (pv 7) (pv 10)) (pv 1)))
      (pss_one (ps_match (pe_ix (r := rIxT K) ix_tup (pv 0) (pv 9) (fun _ _ => rfl)) (pcs_seq rfl op_eq (pcap_name 11 sc_steps_of.nd rfl (.inl rfl) pcap_nil)
      (pss_one (ps_expr (pe_bm PySem.F.plainAttrs_list PySem.F.slot_list_append PySem.F.type_list_append mt_append (pv 3) (pa_cons (pe_tup (pa_cons pe_str (pa_cons (pv 6) (pa_cons (pe_op op_mod (pe_op op_mul (pv 7) (pv 11)) (pv 1)) (pa_cons (pv 8) pa_nil))))) pa_nil))))
      (pcs_seq rfl op_eq (pcap_name 12 sc_steps_of.nd rfl (.inl rfl) pcap_nil)
      (pss_one (ps_expr (pe_bm PySem.F.plainAttrs_list PySem.F.slot_list_append PySem.F.type_list_append mt_append (pv 3) (pa_cons (pe_tup (pa_cons pe_str (pa_cons (pv 6) (pa_cons (pv 7) (pa_cons (pe_op (r := rCatA K) op_catA (pv 8) (pe_tup (pa_cons (pe_tup (pa_cons pe_str (pa_cons (pv 12) pa_nil))) pa_nil))) pa_nil))))) pa_nil))))
      (pcs_name (i := 13) (rest := _) sc_steps_of.nd rfl (.inl rfl) (pss_one (ps_expr (pe_bm PySem.F.plainAttrs_list PySem.F.slot_list_extend PySem.F.type_list_extend mt_extend (pv 4) (pa_cons (pe_revL (pe_call (ok_parts_of T) hr (by rfl) T.g_parts_of T.F_parts_of.kp T.b_parts_of .nil pass0 (pa_cons (pv 13) (pa_cons (pv 6) (pa_cons (pv 7) (pa_cons (pv 8) pa_nil)))))) pa_nil)))))))))))))
      (pss_one (ps_ret (pv 3))))))), ?_⟩
    walk_at "start"
    walk_at "x"
    refine ⟨d, t, ns, m, rfl, ht, ok, m1, m9, fun pb bas H1 s1 hpb hb1 hB1 => ?_⟩
    cases ht with
    | tup ha hs =>
      rename_i xs
      obtain ⟨as, rfl, hal, hat⟩ := sns_at hs
      walk_at "x"
      refine ⟨by show 0 ≤ sizeLine; decide, fun ps hps => ?_⟩
      have hps0 := s1.free hps
      have u2 := same_upd (o := .lst []) hps
      have s2 := s1.trans u2
      have e2 : (upd H1 ps (.lst [])) ps = some (.lst (([] : List Addr).map V.ref)) := upd_same
      have hb2 := u2 _ _ hb1
      have hB2 := hB1.tups (Tups.same u2)
      generalize upd H1 ps (.lst []) = H2 at s2 e2 hb2 hB2
      walk_at "x"
      refine x_lenT (st_of (s2 _ _ ha)) ?_
      walk_at "x"
      refine ⟨by show 0 ≤ sizeLine; decide, fun pf hpf => ?_⟩
      have u3 := same_upd (o := .tup []) hpf
      have s3 := s2.trans u3
      have e3 := u3 _ _ e2
      have hb3 := u3 _ _ hb2
      have hB3 := hB2.tups (Tups.same u3)
      have f3 : (upd H2 pf (.tup [])) pf = some (.tup []) := upd_same
      generalize upd H2 pf (.tup []) = H3 at s3 e3 hb3 hB3 f3
      walk_at "x"
      have hlast : ((as.map V.ref).length : Int) - 1 = ((ns.length - 1 : Nat) : Int) := by rw [List.length_map, hal]; omega
      rw [hlast]
      refine ⟨by show 4 ≤ sizeLine; decide, fun pk hpk => ?_⟩
      have u4 := same_upd (o := .tup [V.int ((ns.length - 1 : Nat) : Int), V.int 0, V.int 1, V.ref pf]) hpk
      have s4 := s3.trans u4
      have e4 := u4 _ _ e3
      have hb4 := u4 _ _ hb3
      have hB4 := hB3.tups (Tups.same u4)
      have f4 := u4 _ _ f3
      have k4 : TkAt (upd H3 pk (.tup [V.int ((ns.length - 1 : Nat) : Int), V.int 0, V.int 1, V.ref pf])) pk ⟨ns.length - 1, 0, 1, none⟩ := ⟨pf, upd_same, f4⟩
      generalize upd H3 pk (.tup [V.int ((ns.length - 1 : Nat) : Int), V.int 0, V.int 1, V.ref pf]) = H4 at s4 e4 hb4 hB4 f4 k4
      walk_at "x"
      refine ⟨by show 1 ≤ sizeLine; decide, fun pt hpt => ?_⟩
      have hpt0 := s4.free hpt
      have hbt : pb ≠ pt := ne_of_none hb4 hpt
      have hst : ps ≠ pt := ne_of_none e4 hpt
      have hbs : pb ≠ ps := ne_of_none hb1 hps
      have u5 := same_upd (o := .lst [V.ref pk]) hpt
      have s5 := s4.trans u5
      have e5 := u5 _ _ e4
      have hb5 := u5 _ _ hb4
      have hB5 := hB4.tups (Tups.same u5)
      have k5 := k4.tups (Tups.same u5)
      have t5 : (upd H4 pt (.lst [V.ref pk])) pt = some (.lst ([pk].map V.ref)) := upd_same
      generalize upd H4 pt (.lst [V.ref pk]) = H5 at s5 e5 hb5 hB5 k5 t5
      have hC0 := Cmp.init (m := m) (i := i) ok
      walk_at "x"
      refine x_while (fun k σ' H' => ∃ v5 v6 v7 v8 v9 v10 v11 v12 v13 sas tas S T, σ' = [some (.ref t), some (.int (m : Int)), some (.ref pb), some (.ref ps), some (.ref pt), v5, v6, v7, v8, v9, v10, v11, v12, v13] ∧ k = tksM ns T ∧ LoopAt H H' pb ps pt bas sas tas (basesF m ns) S T ∧ Cmp m ns i S T) _
        ⟨_, _, _, _, _, _, _, _, _, [], [pk], [], _, rfl, rfl, ⟨s5, hb5, hB5, e5, ⟨rfl, fun i x b h _ => by simp at h⟩, t5, TksAt.cons k5 TksAt.nil⟩, hC0⟩ ?_
      clear s1 s2 s3 s4 s5 u2 u3 u4 u5 e2 e3 e4 e5 hb1 hb2 hb3 hb4 hb5 hB1 hB2 hB3 hB4 hB5 f3 f4 k4 k5 t5 hC0 hlast hps hpf hpk hpt hpb
      rintro k σ' H1 ⟨v5, v6, v7, v8, v9, v10, v11, v12, v13, sas, tas, S, T, rfl, rfl, L1, hC⟩
      by_cases hT0 : tas = []
      · refine ⟨false, fun R r => ?_, (fun h => by cases h), fun _ => ?_⟩
        · walk_at "x"
          exact ⟨false, .inl ⟨_, sq_of L1.t, by rw [hT0]; rfl⟩, r⟩
        · have hT : T = [] := List.eq_nil_of_length_eq_zero (by rw [← L1.tk.1, hT0]; rfl)
          subst hT
          walk_at "x"
          exact q ps sas S H1 L1.same hps0 L1.e L1.st hC.done
      refine ⟨true, fun R r => ?_, fun _ => ?_, (fun h => by cases h)⟩
      · walk_at "x"
        refine ⟨true, .inl ⟨_, sq_of L1.t, ?_⟩, r⟩
        cases tas with
        | nil => exact absurd rfl hT0
        | cons a l => rfl
      obtain ⟨tas, T, b, k, rfl, rfl, hT2, _⟩ := L1.tk.last hT0
      obtain ⟨hkk, hlen⟩ := hC.pop
      have hmost := hC.most ok
      obtain ⟨bb, sc, n, hBa⟩ := bases_at m1 m9 ok hkk.lt
      walk_at "x"
      refine ⟨_, rfl, x_tyL L1.t ⟨pt, _, .ref b, rfl, rfl, L1.t, by rw [List.map_append, List.length_append, List.getElem?_append_right (by simp)]; simp, ?_⟩⟩
      obtain ⟨L2, f, hk, hf⟩ := L1.pop hpt0 hbt hst hT2.1
      generalize upd H1 pt (.lst ((tas ++ [b]).map V.ref).dropLast) = H2 at L2 hk hf
      refine x_gTup4 (st_of hk) ?_
      walk_at "x"
      have hbl : (basesF (m : Int) ns).length = ns.length := scanF_len
      obtain ⟨br, hbr1, hbr2⟩ := L2.B.get (i := k.at_) (by have := hkk.lt; omega)
      rw [hBa.e] at hbr2
      refine x_ixL (v := .ref br) (sq_of L2.hb) (atI_nat (by rw [List.getElem?_map, hbr1]; rfl)) ?_
      refine x_gTup2 (st_of hbr2) ?_
      have c0 := hkk.c0
      have c1 := hkk.c1
      have sc0 := hBa.s0
      have sc1 := hBa.s1
      have cc := coef_ok (m := m) (c := k.c * sc) m1
      have hbi := (List.getElem?_eq_some_iff.mp hBa.nd).1
      obtain ⟨an, han⟩ : ∃ an, as[bb]? = some an := ⟨_, List.getElem?_eq_getElem (by omega)⟩
      have hnn := L2.same _ _ (hat bb n an hBa.nd han)
      have okn := ok.ok bb n hBa.nd
      walk_at "x"
      refine x_ixT (v := .ref an) (st_of (L2.same _ _ ha)) (atI_nat (by rw [List.getElem?_map, han]; rfl)) ?_
      obtain ⟨fas, hfa, hfs, hf1⟩ := hf.facs
      have hpop := tksM_pop ok hC
      have hsl : sas.length ≤ 20000 := by have := L2.st.1; omega
      have htl : tas.length ≤ 20000 := by have := L2.tk.1; rw [List.length_append] at hmost; omega
      generalize hc2 : k.c * sc % (m : Int) = c2 at *
      cases n with
      | con c =>
        have hnn : H2 an = some (.tup [.str "const", .int (c : Int)]) := hnn
        have hc : c < 1000000000 := okn
        refine x_caseY (st_of hnn) rfl ?_
        walk_at "xb"
        refine x_tyL L2.e ?_
        walk_at "x"
        refine ⟨by show 4 ≤ sizeLine; decide, fun r hr0 => ?_⟩
        have u3 := same_upd (o := .tup [V.str "add", V.int (k.t : Int), V.int (c2 * (c : Int) % (m : Int)), V.ref f]) hr0
        have r3 : (upd H2 r (.tup [V.str "add", V.int (k.t : Int), V.int (c2 * (c : Int) % (m : Int)), V.ref f])) r = some (.tup [V.str "add", V.int (k.t : Int), V.int (c2 * (c : Int) % (m : Int)), V.ref f]) := upd_same
        generalize upd H2 r (.tup [V.str "add", V.int (k.t : Int), V.int (c2 * (c : Int) % (m : Int)), V.ref f]) = H3 at u3 r3
        have L3 := L2.next u3
        have st3 : StpAt H3 r (.add k.t (c2 * (c : Int) % (m : Int)) (facsF k.f)) := (hfs.tups (Tups.same u3)).stp (u3 _ _ hfa) r3
        have hC2 := hC.con m1 ok hBa
        rw [hc2] at hC2
        walk_at "x"
        refine x_app L3.e (by rw [List.length_map]; omega) ?_
        walk_at "x"
        exact ⟨_, hpop, _, _, _, _, _, _, _, _, _, _, _, _, _, rfl, rfl, L3.step hps0 hbs hst st3, hC2⟩
      | inp c =>
        have hnn : H2 an = some (.tup [.str "input", .int (c : Int)]) := hnn
        refine x_caseW (st_of hnn) rfl (by decide) ?_
        refine x_caseY (st_of hnn) rfl ?_
        walk_at "xb"
        refine x_tyL L2.e ?_
        walk_at "x"
        refine ⟨by show 2 ≤ sizeLine; decide, fun r hr0 => ?_⟩
        have u3 := same_upd (o := .tup [V.str "input", V.int (c : Int)]) hr0
        have r3 : (upd H2 r (.tup [V.str "input", V.int (c : Int)])) r = some (.tup [V.str "input", V.int (c : Int)]) := upd_same
        generalize upd H2 r (.tup [V.str "input", V.int (c : Int)]) = H3 at u3 r3
        walk_at "x"
        refine ⟨by show 1 ≤ sizeLine; decide, fun r1 hr1 => ?_⟩
        have u4 := same_upd (o := .tup [V.ref r]) hr1
        have r4 : (upd H3 r1 (.tup [V.ref r])) r1 = some (.tup [V.ref r]) := upd_same
        have r3 := u4 _ _ r3
        have u4 := u3.trans u4
        generalize upd H3 r1 (.tup [V.ref r]) = H4 at u4 r4 r3
        walk_at "x"
        refine x_catA (u4 _ _ hfa) r4 (by rw [List.length_map]; show _ + 1 ≤ 1000000; omega) fun r2 H5 s5 e5 => ?_
        have u5 := u4.trans s5
        have fs5 : FacsAt H5 (fas ++ [r]) (facsF k.f ++ [.inp c]) := (hfs.tups (Tups.same u5)).snoc (s5 _ _ r3)
        have e5 : H5 r2 = some (.tup ((fas ++ [r]).map V.ref)) := by rw [e5, List.map_append]; rfl
        walk_at "x"
        refine ⟨by show 4 ≤ sizeLine; decide, fun r5 hr5 => ?_⟩
        have u6 := same_upd (o := .tup [V.str "add", V.int (k.t : Int), V.int c2, V.ref r2]) hr5
        have r6 : (upd H5 r5 (.tup [V.str "add", V.int (k.t : Int), V.int c2, V.ref r2])) r5 = some (.tup [V.str "add", V.int (k.t : Int), V.int c2, V.ref r2]) := upd_same
        generalize upd H5 r5 (.tup [V.str "add", V.int (k.t : Int), V.int c2, V.ref r2]) = H6 at u6 r6
        have L6 := L2.next (u5.trans u6)
        have st6 : StpAt H6 r5 (.add k.t c2 (facsF k.f ++ [.inp c])) := (fs5.tups (Tups.same u6)).stp (u6 _ _ e5) r6
        have hC2 := hC.inp m1 ok hin hBa
        rw [hc2] at hC2
        walk_at "x"
        refine x_app L6.e (by rw [List.length_map]; omega) ?_
        walk_at "x"
        exact ⟨_, hpop, _, _, _, _, _, _, _, _, _, _, _, _, _, rfl, rfl, L6.step hps0 hbs hst st6, hC2⟩
      | scl c p =>
        have := hBa.nsc
        cases this
      | sum p q =>
        refine x_caseNo (st_of hnn) (by show (3 : Nat) ≠ 2; decide) ?_
        refine x_caseNo (st_of hnn) (by show (3 : Nat) ≠ 2; decide) ?_
        refine x_nameC ?_
        walk_at "x"
        refine x_tyL L2.t ?_
        refine x_revL2 ?_
        walk_at "x"
        have hC2 := hC.node m1 m9 ok hBa rfl
        have hM := tksM_node ok hC hBa rfl
        have p7 := (parts_cost (ns := ns) (t := k.t) (c := c2) (f := k.f) hBa.nsc rfl).2.2
        rw [hc2] at hC2 hM
        refine ⟨an, f, .sum p q, k.t, c2, k.f, rfl, hnn, rfl, rfl, hf, hkk.t3, hkk.f3, cc.1, by omega, fun l bs H3 s3 hl0 hl hT => ?_⟩
        have L3 := L2.next s3
        refine ⟨l, _, rfl, sq_of hl, fun p2 hp2 => ?_⟩
        have u4 := same_upd (o := .lst (bs.map V.ref).reverse) hp2
        have r4 : (upd H3 p2 (.lst (bs.map V.ref).reverse)) p2 = some (.lst (bs.reverse.map V.ref)) := by rw [upd_same, List.map_reverse]
        have T4 := (hT.tups (Tups.same u4)).rev
        generalize upd H3 p2 (.lst (bs.map V.ref).reverse) = H4 at u4 r4 T4
        have L4 := L3.next u4
        walk_at "x"
        refine ⟨pt, p2, _, _, rfl, rfl, L4.t, r4, ?_, ?_⟩
        · have := hT.1
          rw [List.length_map, List.length_map, List.length_reverse]
          exact Nat.le_trans (show _ ≤ 30000 by omega) (by decide)
        walk_at "x"
        exact ⟨_, hM, _, _, _, _, _, _, _, _, _, _, _, _, _, rfl, rfl, L4.push hpt0 hbt hst T4, hC2⟩
      | prod p q =>
        refine x_caseNo (st_of hnn) (by show (3 : Nat) ≠ 2; decide) ?_
        refine x_caseNo (st_of hnn) (by show (3 : Nat) ≠ 2; decide) ?_
        refine x_nameC ?_
        walk_at "x"
        refine x_tyL L2.t ?_
        refine x_revL2 ?_
        walk_at "x"
        have hC2 := hC.node m1 m9 ok hBa rfl
        have hM := tksM_node ok hC hBa rfl
        have p7 := (parts_cost (ns := ns) (t := k.t) (c := c2) (f := k.f) hBa.nsc rfl).2.2
        rw [hc2] at hC2 hM
        refine ⟨an, f, .prod p q, k.t, c2, k.f, rfl, hnn, rfl, rfl, hf, hkk.t3, hkk.f3, cc.1, by omega, fun l bs H3 s3 hl0 hl hT => ?_⟩
        have L3 := L2.next s3
        refine ⟨l, _, rfl, sq_of hl, fun p2 hp2 => ?_⟩
        have u4 := same_upd (o := .lst (bs.map V.ref).reverse) hp2
        have r4 : (upd H3 p2 (.lst (bs.map V.ref).reverse)) p2 = some (.lst (bs.reverse.map V.ref)) := by rw [upd_same, List.map_reverse]
        have T4 := (hT.tups (Tups.same u4)).rev
        generalize upd H3 p2 (.lst (bs.map V.ref).reverse) = H4 at u4 r4 T4
        have L4 := L3.next u4
        walk_at "x"
        refine ⟨pt, p2, _, _, rfl, rfl, L4.t, r4, ?_, ?_⟩
        · have := hT.1
          rw [List.length_map, List.length_map, List.length_reverse]
          exact Nat.le_trans (show _ ≤ 30000 by omega) (by decide)
        walk_at "x"
        exact ⟨_, hM, _, _, _, _, _, _, _, _, _, _, _, _, _, rfl, rfl, L4.push hpt0 hbt hst T4, hC2⟩
      | cho p q l =>
        refine x_caseNo (st_of hnn) (by show (4 : Nat) ≠ 2; decide) ?_
        refine x_caseNo (st_of hnn) (by show (4 : Nat) ≠ 2; decide) ?_
        refine x_nameC ?_
        walk_at "x"
        refine x_tyL L2.t ?_
        refine x_revL2 ?_
        walk_at "x"
        have hC2 := hC.node m1 m9 ok hBa rfl
        have hM := tksM_node ok hC hBa rfl
        have p7 := (parts_cost (ns := ns) (t := k.t) (c := c2) (f := k.f) hBa.nsc rfl).2.2
        rw [hc2] at hC2 hM
        refine ⟨an, f, .cho p q l, k.t, c2, k.f, rfl, hnn, rfl, rfl, hf, hkk.t3, hkk.f3, cc.1, by omega, fun lq bs H3 s3 hl0 hl hT => ?_⟩
        have L3 := L2.next s3
        refine ⟨lq, _, rfl, sq_of hl, fun p2 hp2 => ?_⟩
        have u4 := same_upd (o := .lst (bs.map V.ref).reverse) hp2
        have r4 : (upd H3 p2 (.lst (bs.map V.ref).reverse)) p2 = some (.lst (bs.reverse.map V.ref)) := by rw [upd_same, List.map_reverse]
        have T4 := (hT.tups (Tups.same u4)).rev
        generalize upd H3 p2 (.lst (bs.map V.ref).reverse) = H4 at u4 r4 T4
        have L4 := L3.next u4
        walk_at "x"
        refine ⟨pt, p2, _, _, rfl, rfl, L4.t, r4, ?_, ?_⟩
        · have := hT.1
          rw [List.length_map, List.length_map, List.length_reverse]
          exact Nat.le_trans (show _ ≤ 30000 by omega) (by decide)
        walk_at "x"
        exact ⟨_, hM, _, _, _, _, _, _, _, _, _, _, _, _, _, rfl, rfl, L4.push hpt0 hbt hst T4, hC2⟩


theorem needF_in {ns : List SN} (j c : Nat) (h : ns[j]? = some (SN.inp c)) : c < needF ns := by
  have hm : c + 1 ∈ needL ns := List.mem_filterMap.mpr ⟨_, List.mem_of_getElem? h, rfl⟩
  exact (foldr_max (cs := needL ns) (t := 0)).2.1 _ hm
theorem needF_60 {ns : List SN} (ok : SsOk ns) : needF ns ≤ 60 := by
  have h : ∀ ls : List Nat, (∀ x, x ∈ ls → x ≤ 60) → ls.foldr max 0 ≤ 60 := by
    intro ls
    induction ls with
    | nil => intro _; show 0 ≤ 60; decide
    | cons a ls ih =>
      intro h
      have h1 := h a List.mem_cons_self
      have h2 := ih fun x hx => h x (List.mem_cons_of_mem _ hx)
      show max a (ls.foldr max 0) ≤ 60
      omega
  refine h _ fun x hx => ?_
  obtain ⟨n, hn, he⟩ := List.mem_filterMap.mp hx
  obtain ⟨i, hi⟩ := List.mem_iff_getElem?.mp hn
  have := ok.ok i n hi
  cases n with
  | inp k =>
    have e : k + 1 = x := Option.some.inj he
    have : k < 60 := this
    omega
  | _ => cases he
theorem src_sh2 {ns : List SN} : Sh (.tuple (ns.map snD)) := (ShN.tup (sns_sh (m := 3))).sh (by decide)
theorem modB2 {v : V} (h : (isB v 1000000001 && !isB v 2) = true) : ∃ m : Nat, v = .int (m : Int) ∧ 2 ≤ m ∧ m ≤ 1000000000 := by
  rw [Bool.and_eq_true] at h
  obtain ⟨h1, h2⟩ := h
  cases v with
  | int i =>
    have h1 : (decide (0 ≤ i) && decide (i < 1000000001)) = true := h1
    have h2 : (!(decide (0 ≤ i) && decide (i < 2))) = true := h2
    rw [Bool.and_eq_true, decide_eq_true_iff, decide_eq_true_iff] at h1
    rw [decide_eq_true h1.1, Bool.true_and, Bool.not_eq_true', decide_eq_false_iff_not] at h2
    exact ⟨i.toNat, by rw [show ((i.toNat : Nat) : Int) = i by omega], by omega, by omega⟩
  | _ => cases h1
def sp_compile_source (CS CT CL C : Addr) (K : PySem.W.Frag) : Sp := fun vs H Q E => ∃ (d : Addr) (v mv : V) (e : PyData), vs = [v, mv] ∧ DAt d H v e ∧ Sh e ∧ Odd H mv ∧
  (sourceD e = false → ∀ H', Same H H' → E (.ref CS) none H') ∧
  (sourceD e = true → (isB mv 1000000001 && !isB mv 2) = false → ∀ H', Same H H' → E (.ref CT) none H') ∧
  (∀ (ns : List SN) (m : Nat), e = .tuple (ns.map snD) → SsOk ns → mv = .int (m : Int) → 2 ≤ m → m ≤ 1000000000 →
    (20000 < costF ns → ∀ H', Same H H' → E (.ref CL) none H') ∧
    (costF ns ≤ 20000 → ∀ p L as S H', H L = none → Same H H' → PrAt K C H' p L as S m 3 (needF ns) → CompOk m ns (needF ns) S → PrOk S m 3 (needF ns) → Q (.ref p) H'))
theorem ok_compile_source (T : Txt K mg) : FnOk P w K mg base (L2.CX P w) 8 T.a_compile_source T.fd_compile_source ["source", "modulus"] (sp_compile_source T.E_BadSource T.E_BadStep T.E_TooLong T.C_Program K) := by
  refine T.F_compile_source.okX sc_compile_source (fun vs H Q E h => ?_) (fun cdv A outer s H vs Q E hr h => ?_)
  · obtain ⟨d, v, mv, e, rfl, _⟩ := h
    rfl
  · obtain ⟨d, v, mv, e, rfl, hv, hsh, hm, hS, hT, hQ⟩ := h
    have hC : PC K T.C_Program := ⟨T.cl_Program, T.na_Program_modulus, T.na_Program_cells, T.na_Program_inputs, T.na_Program_steps⟩
    refine ⟨_, (pss_cons (ps_expr (pe_call (ok_check_source T) (hr.mono (by decide)) (by rfl) T.g_check_source T.F_check_source.kp T.b_check_source .nil (passes_call (takes_of rfl rfl rfl rfl) (fun _ _ _ _ h => h)) (pa_cons (pv 0) pa_nil)))
      (pss_cons (ps_if (pt_not (pt_val (pe_call (ok_is_modulus T) (hr.mono (by decide)) (by rfl) T.g_is_modulus T.F_is_modulus.kp T.b_is_modulus .nil pass0 (pa_cons (pv 1) pa_nil))))
      (pss_one (ps_raise rfl (takes_of rfl rfl rfl rfl) (pmk_own PySem.F.excBase_ValueError T.xE_BadStep T.gE_BadStep T.kE_BadStep (raises_own T.bE_BadStep T.tE_BadStep) (by exact rfl))))
      pss_nil)
      (pss_cons (ps_if (pt_cmpR op_gt (pe_call (ok_cost T) (hr.mono (by decide)) (by rfl) T.g_cost T.F_cost.kp T.b_cost .nil (passes_call (takes_of rfl rfl rfl rfl) (fun _ _ _ _ h => h)) (pa_cons (pv 0) pa_nil)) (pe_glob (v := .int 20000) (by rfl) T.c_MOST_STEPS ⟨_, rfl⟩) (nomark _))
      (pss_one (ps_raise rfl (takes_of rfl rfl rfl rfl) (SkE.pmk_own1 PySem.F.excBase_ValueError T.xE_TooLong T.gE_TooLong T.kE_TooLong (raises_own T.bE_TooLong T.tE_TooLong) (by exact rfl) (pe_joined (PJ.cons pe_str (PJ.cons (pe_fmt (pe_glob (v := .int 20000) (by rfl) T.c_MOST_STEPS ⟨_, rfl⟩)) (PJ.cons pe_str PJ.nil)))))))
      pss_nil)
      (pss_one (ps_ret (pe_make T.mk_Program (ok_Program___init T) (hr.mono (by decide)) (by rfl) T.gc_Program T.b_Program___init .nil pass0 (pa_cons (pv 1) (pa_cons (pe_glob (v := .int 3) (by rfl) T.c_CELLS ⟨_, rfl⟩) (pa_cons (pe_call (ok_needs T) (hr.mono (by decide)) (by rfl) T.g_needs T.F_needs.kp T.b_needs .nil (passes_call (takes_of rfl rfl rfl rfl) (fun _ _ _ _ h => h)) (pa_cons (pv 0) pa_nil)) (pa_cons (pe_call (ok_steps_of T) (hr.mono (by decide)) (by rfl) T.g_steps_of T.F_steps_of.kp T.b_steps_of .nil pass0 (pa_cons (pv 0) (pa_cons (pv 1) pa_nil))) pa_nil)))))))))), ?_⟩
    walk_at "start"
    walk_at "x"
    refine ⟨d, v, e, rfl, hv, hsh, hS, fun hse H1 s1 => ?_⟩
    obtain ⟨ns, rfl, hok⟩ := sourceD_iff.mp hse
    obtain ⟨t, rfl⟩ : ∃ t, v = .ref t := by cases hv; exact ⟨_, rfl⟩
    walk_at "x"
    refine ⟨mv, rfl, hm.same s1, ?_⟩
    walk_at "x"
    refine x_iteBN (fun h2 => ?_) (fun h2 => ?_)
    · walk_at "x"
      exact hT hse h2 H1 s1
    obtain ⟨m, rfl, m2, m9⟩ := modB2 h2
    obtain ⟨hL, hQ⟩ := hQ ns m rfl hok rfl m2 m9
    walk_at "x"
    refine ⟨d, .ref t, .tuple (ns.map snD), rfl, DAt.same s1 _ hv, hsh, (fun h => by rw [hse] at h; cases h), fun ns2 he hok2 H2 s2 => ?_⟩
    obtain rfl : ns = ns2 := sns_inj (PyData.tuple.inj he)
    have s2 := s1.trans s2
    walk_at "x"
    refine x_ite (fun h3 => ?_) (fun h3 => ?_)
    · walk_at "x"
      refine ⟨_, rfl, by show (Str.empty ++ _).length ≤ _; rw [Str.length_append]; exact Nat.le_of_ble_eq_true rfl, ?_⟩
      refine x_fmt ?_
      refine .inr ⟨_, rfl, log_nat (n := 20000) (by omega), ⟨_, rfl, ?_, _, rfl, ?_, hL (by omega) H2 s2⟩⟩
      · rw [Str.length_append]
        have := len_nat (n := 20000) (by omega)
        exact Nat.le_trans (Nat.add_le_add_left this _) (Nat.le_of_ble_eq_true rfl)
      · rw [Str.length_append, Str.length_append]
        have := len_nat (n := 20000) (by omega)
        exact Nat.le_trans (Nat.add_le_add_right (Nat.add_le_add_left this _) _) (Nat.le_of_ble_eq_true rfl)
    have hle : costF ns ≤ 20000 := by omega
    have hQ := hQ hle
    walk_at "x"
    refine x_make1 ?_
    walk_at "x"
    refine ⟨d, .ref t, .tuple (ns.map snD), rfl, DAt.same s2 _ hv, hsh, (fun h => by rw [hse] at h; cases h), fun ns2 he hok2 H3 s3 => ?_⟩
    obtain rfl : ns = ns2 := sns_inj (PyData.tuple.inj he)
    have s3 := s2.trans s3
    walk_at "x"
    refine ⟨d, t, ns, m, needF ns, rfl, DAt.same s3 _ hv, hok, by omega, m9, hle, needF_in, fun l as S H4 s4 hl0 hl hst hco => ?_⟩
    have s4 := s3.trans s4
    have okp : PrOk S m 3 (needF ns) := ⟨m2, m9, by decide, by decide, needF_60 hok, by rw [hco.len]; exact hle, hco.ok⟩
    walk_at "x"
    exact new_prog hC hl hst okp fun p' L' H' hL' s5 hP' => hQ p' L' as S H' (s4.free hL') (s4.trans s5) hP' hco okp


end
end Br
namespace Br
open PySem PySem.Spec PyProof.Rows L2
local macro_rules | `(tactic| walk_at "x1") => `(tactic| (with_reducible first
  | refine Br.x_seq ?_ | refine Br.x_set ?_ | refine Br.x_asg ?_ | refine Br.x_next ?_ | refine Br.x_ret ?_ | refine Br.x_retN ?_ | refine Br.x_drop ?_ | refine Br.x_if ?_ | refine Br.x_brk ?_ | refine Br.x_cont ?_
  | refine Br.x_c ?_ | refine Br.x_op ?_ | refine Br.x_un ?_ | refine Br.x_I0 ?_ | refine Br.x_U ?_ | refine Br.x_EqI ?_ | refine Br.x_NeI ?_ | refine Br.x_EqB ?_ | refine Br.x_iN ?_ | refine Br.x_int1 ?_ | refine Br.x_min2 ?_ | refine Br.x_max2 ?_ | refine Br.x_nN ?_ | refine Br.x_ifE ?_
  | refine Br.x_test (b := ()) ?_ | refine Br.x_tB ?_ | refine Br.x_bl ?_ | refine Br.x_and ?_ | refine Br.x_or ?_ | refine Br.x_not ?_ | refine Br.x_andV ?_ | refine Br.x_orV ?_ | refine Br.x_notV ?_ | refine Br.x_blP ?_
  | refine Br.x_nil ?_ | refine Br.x_cons ?_ | refine Br.x_call ?_ | refine Br.x_CB ?_ | refine Br.x_BM ?_ | refine Br.x_tup ?_ | refine Br.x_lst ?_ | refine Br.x_chain ?_ | refine Br.x_par ?_ | refine Br.x_gSub ?_ | refine Br.x_gName ?_ | refine Br.x_fld ?_ | refine Br.x_fldS ?_ | refine Br.x_match ?_ | refine Br.x_else ?_ | refine Br.x_noCase ?_))
local macro_rules | `(tactic| walk_at "xv") => `(tactic| ((with_reducible refine' Br.x_var ?hvar ?_); (case hvar => rfl)))
local macro_rules | `(tactic| walk_at "xd") => `(tactic| (dsimp only [List.set_cons_zero, List.set_cons_succ, List.cons_append, List.nil_append, List.append_nil]))
local macro_rules | `(tactic| walk_at "xi") => `(tactic| ((with_reducible refine Br.x_I ?hside ?_); (case hside => first | exact Br.mul_r (by decide) (by decide) | exact Br.mul_l (by decide) (by decide) | exact Br.mul_l (by omega) (by omega) | exact Br.mul_r (by omega) (by omega) | (show (0 : Int) < _; first | decide | omega) | exact ⟨by decide, by decide⟩ | exact ⟨by omega, by omega⟩ | exact ⟨by decide, by decide, by decide⟩)))
local macro_rules | `(tactic| walk_at "x") => `(tactic| (repeat (first | walk_at "x1" | walk_at "xv" | walk_at "xi" | walk_at "xd")))
local macro_rules | `(tactic| walk_at "start") => `(tactic| (simp only [L2.start, List.map_cons, List.map_nil, List.length_cons, List.length_nil, Nat.reduceAdd, Nat.reduceSub, List.replicate, List.cons_append, List.nil_append, List.append_nil]))
local macro_rules | `(tactic| walk_at "isi") => `(tactic| first
  | refine Br.x_isi (b := true) (.base (.int _)) (by decide +kernel) ?_ | refine Br.x_isi (b := false) (.base (.int _)) (by decide +kernel) ?_
  | refine Br.x_isi (b := true) (.base (.bl _)) (by decide +kernel) ?_ | refine Br.x_isi (b := false) (.base (.bl _)) (by decide +kernel) ?_
  | refine Br.x_isi (b := false) (.base .non) (by decide +kernel) ?_
  | refine Br.x_isi (b := true) (.base (.str _)) (by decide +kernel) ?_ | refine Br.x_isi (b := false) (.base (.str _)) (by decide +kernel) ?_
  | refine Br.x_isi (b := true) (.base (.tup (by assumption))) (by decide +kernel) ?_ | refine Br.x_isi (b := false) (.base (.tup (by assumption))) (by decide +kernel) ?_
  | refine Br.x_isi (b := true) (.base (.lst (by assumption))) (by decide +kernel) ?_ | refine Br.x_isi (b := false) (.base (.lst (by assumption))) (by decide +kernel) ?_)
local macro_rules | `(tactic| walk_at "f") => `(tactic| (refine L2.iteF ?_; walk_at "x"))
local macro_rules | `(tactic| walk_at "t") => `(tactic| (refine L2.iteT ?_; walk_at "x"))
local macro_rules | `(tactic| walk_at "is") => `(tactic| (walk_at "isi"; walk_at "x"))
local macro_rules | `(tactic| walk_at "xb") => `(tactic| (simp only [Br.bindS, List.set_cons_zero, List.set_cons_succ]; walk_at "x"))

section
variable {P : Program} {w : World} {K : PySem.W.Frag} {mg : Str → Option Value} {base : Heap}

open Br

theorem foldr_max_app {as bs : List Nat} : (as ++ bs).foldr max 0 = max (as.foldr max 0) (bs.foldr max 0) := by
  induction as with
  | nil => show bs.foldr max 0 = max 0 _; exact (Nat.zero_max _).symm
  | cons a as ih =>
    show max a ((as ++ bs).foldr max 0) = max (max a (as.foldr max 0)) _
    rw [ih, Nat.max_assoc]
theorem needF_snoc {ns : List SN} {n : SN} : needF (ns ++ [n]) = max (needF ns) ((match need1 n with | some k => [k] | none => []).foldr max 0) := by
  unfold needF
  rw [needL_snoc, foldr_max_app]
  all_goals (cases need1 n <;> rfl)
def sp_law_needs (K : PySem.W.Frag) : Sp := fun vs H Q _ => ∃ (d t : Addr) (ns : List SN), vs = [.ref t] ∧ DAt d H (.ref t) (.tuple (ns.map snD)) ∧ Q (.int ((needF ns : Nat) : Int)) H
theorem ok_law_needs (T : Txt K mg) : FnOk P w K mg base CX0 1 T.a_law_needs T.fd_law_needs ["source"] (sp_law_needs K) := by
  refine T.F_law_needs.ok sc_law_needs (fun vs H Q E h => ?_) (fun cdv A outer s H vs Q E hr h => ?_)
  · obtain ⟨d, t, ns, rfl, _⟩ := h
    rfl
  · obtain ⟨d, t, ns, rfl, ht, q⟩ := h
    cases ht with
    | tup ha hs =>
      rename_i xs
      obtain ⟨as, rfl, hal, hat⟩ := sns_at hs
      refine ⟨_, (pss_cons (ps_set (i := 1) sc_law_needs.nd rfl (.inl rfl) pe_int)
      (pss_cons (ps_for PassesOwn.never rfl (pi_tup (pv 0)) (pg_name (i := 2) sc_law_needs.nd rfl (Or.inl rfl))
      (pss_one (ps_if (pt_cmpR op_eq (pe_ix (r := rIxT K) ix_tup (pv 2) pe_int (fun _ _ => rfl)) pe_str (nomark _))
      (pss_one (ps_set (i := 1) sc_law_needs.nd rfl (.inl rfl) (pe_callB (id := "max") (r := rMax2) (cr_max2 rfl) (by rfl) T.m_max (by decide +kernel) (pa_cons (pv 1) (pa_cons (pe_op op_add (pe_ix (r := rIxT K) ix_tup (pv 2) pe_int (fun _ _ => rfl)) pe_int) pa_nil)))))
      pss_nil)))
      (pss_one (ps_ret (pv 1))))), ?_⟩
      walk_at "start"
      walk_at "x"
      refine x_forI (J := Itt K t) (n := (as.map V.ref).length) (G := fun H => SqT K H t (as.map V.ref)) (fun R r => ⟨_, rfl, t, rfl, ⟨_, st_of ha⟩, r⟩) walk_tup (fun k σ' H' => ∃ v2, σ' = [some (V.ref t), some (.int ((needF (ns.take k) : Nat) : Int)), v2] ∧ H = H') ⟨_, rfl, rfl⟩ (fun k σ' H' _ z => by obtain ⟨_, _, rfl⟩ := z; exact st_of ha) ?_ ?_
      · rintro k x σ' H3 H4 hk ⟨v2, rfl, rfl⟩ ⟨rfl, hx⟩
        obtain ⟨b, hb2, rfl⟩ := map_getR hx
        obtain ⟨n, hn⟩ : ∃ n, ns[k]? = some n := ⟨_, List.getElem?_eq_getElem (by rw [List.length_map] at hk; omega)⟩
        have hb3 := hat k n b hn hb2
        have hst := needF_snoc (ns := ns.take k) (n := n)
        rw [← take_snocG hn] at hst
        generalize needF (ns.take k) = C at hst
        generalize needF (ns.take (k + 1)) = C2 at hst
        walk_at "x"
        cases n with
        | inp c =>
          have hst : C2 = max C (max (c + 1) 0) := hst
          have hb3 : H4 b = some (.tup [.str "input", .int (c : Int)]) := hb3
          refine x_ixT (v := .str "input") (st_of hb3) (atI_nat (j := 0) rfl) ?_
          walk_at "x"
          refine x_EqS ?_
          walk_at "x"
          rw [decide_eq_true rfl]
          refine iteT ?_
          walk_at "x"
          refine x_ixT (v := .int (c : Int)) (st_of hb3) (atI_nat (j := 1) rfl) ?_
          walk_at "x"
          have e : (if (C : Int) < (c : Int) + 1 then (c : Int) + 1 else (C : Int)) = ((C2 : Nat) : Int) := by split <;> omega
          exact ⟨_, by rw [← e], rfl⟩
        | con c =>
          have hst : C2 = max C 0 := hst
          have hb3 : H4 b = some (.tup [.str "const", .int (c : Int)]) := hb3
          refine x_ixT (v := .str "const") (st_of hb3) (atI_nat (j := 0) rfl) ?_
          walk_at "x"
          refine x_EqS ?_
          walk_at "x"
          rw [decide_eq_false (by decide : ¬ (("const" : Str) = "input"))]
          refine iteF ?_
          walk_at "x"
          exact ⟨_, by rw [show C2 = C by omega], rfl⟩
        | sum i j =>
          have hst : C2 = max C 0 := hst
          have hb3 : H4 b = some (.tup [.str "sum", .int (i : Int), .int (j : Int)]) := hb3
          refine x_ixT (v := .str "sum") (st_of hb3) (atI_nat (j := 0) rfl) ?_
          walk_at "x"
          refine x_EqS ?_
          walk_at "x"
          rw [decide_eq_false (by decide : ¬ (("sum" : Str) = "input"))]
          refine iteF ?_
          walk_at "x"
          exact ⟨_, by rw [show C2 = C by omega], rfl⟩
        | prod i j =>
          have hst : C2 = max C 0 := hst
          have hb3 : H4 b = some (.tup [.str "product", .int (i : Int), .int (j : Int)]) := hb3
          refine x_ixT (v := .str "product") (st_of hb3) (atI_nat (j := 0) rfl) ?_
          walk_at "x"
          refine x_EqS ?_
          walk_at "x"
          rw [decide_eq_false (by decide : ¬ (("product" : Str) = "input"))]
          refine iteF ?_
          walk_at "x"
          exact ⟨_, by rw [show C2 = C by omega], rfl⟩
        | scl c i =>
          have hst : C2 = max C 0 := hst
          have hb3 : H4 b = some (.tup [.str "scaled", .int (c : Int), .int (i : Int)]) := hb3
          refine x_ixT (v := .str "scaled") (st_of hb3) (atI_nat (j := 0) rfl) ?_
          walk_at "x"
          refine x_EqS ?_
          walk_at "x"
          rw [decide_eq_false (by decide : ¬ (("scaled" : Str) = "input"))]
          refine iteF ?_
          walk_at "x"
          exact ⟨_, by rw [show C2 = C by omega], rfl⟩
        | cho i j l =>
          have hst : C2 = max C 0 := hst
          have hb3 : H4 b = some (.tup [.str "choose", .int (i : Int), .int (j : Int), .int (l : Int)]) := hb3
          refine x_ixT (v := .str "choose") (st_of hb3) (atI_nat (j := 0) rfl) ?_
          walk_at "x"
          refine x_EqS ?_
          walk_at "x"
          rw [decide_eq_false (by decide : ¬ (("choose" : Str) = "input"))]
          refine iteF ?_
          walk_at "x"
          exact ⟨_, by rw [show C2 = C by omega], rfl⟩
      · rintro σ' H3 ⟨v2, rfl, rfl⟩
        rw [List.length_map, hal, List.take_length]
        walk_at "x"
        exact q


def sp_law_values (K : PySem.W.Frag) : Sp := fun vs H Q _ => ∃ (d t g : Addr) (ns : List SN) (m : Nat) (gs : List Int), vs = [.ref t, .int (m : Int), .ref g] ∧ DAt d H (.ref t) (.tuple (ns.map snD)) ∧ SsOk ns ∧ 2 ≤ m ∧ m ≤ 1000000000 ∧ H g = some (.lst (gs.map V.int)) ∧ needF ns ≤ gs.length ∧
  ∀ p H', Same H H' → H' p = some (.lst ((valsF m gs ns).map V.int)) → Q (.ref p) H'
theorem ok_law_values (T : Txt K mg) : FnOk P w K mg base CX0 1 T.a_law_values T.fd_law_values ["source", "modulus", "given"] (sp_law_values K) := by
  refine T.F_law_values.ok sc_law_values (fun vs H Q E h => ?_) (fun cdv A outer s H vs Q E hr h => ?_)
  · obtain ⟨d, t, g, ns, m, gs, rfl, _⟩ := h
    rfl
  · obtain ⟨d, t, g, ns, m, gs, rfl, ht, ok, m2, m9, hg, hgl, q⟩ := h
    obtain ⟨o1, o2, o3⟩ := ok
    cases ht with
    | tup ha hs =>
      rename_i xs
      obtain ⟨as, rfl, hal, hat⟩ := sns_at hs
      refine ⟨_, (pss_cons (ps_set (i := 3) sc_law_values.nd rfl (.inl rfl) (pe_lst pa_nil))
      (pss_cons (ps_for PassesOwn.never rfl (pi_tup (pv 0)) (pg_name (i := 4) sc_law_values.nd rfl (Or.inl rfl))
      (pss_cons (ps_set (i := 5) sc_law_values.nd rfl (.inl rfl) pe_int)
      (Evl.pss_cut (ps_if (pt_cmpR op_eq (pe_ix (r := rIxT K) ix_tup (pv 4) pe_int (fun _ _ => rfl)) pe_str (nomark _))
      (pss_one (ps_set (i := 5) sc_law_values.nd rfl (.inl rfl) (pe_ix (r := rIxT K) ix_tup (pv 4) pe_int (fun _ _ => rfl))))
      (pss_one (ps_if (pt_cmpR op_eq (pe_ix (r := rIxT K) ix_tup (pv 4) pe_int (fun _ _ => rfl)) pe_str (nomark _))
      (pss_one (ps_set (i := 5) sc_law_values.nd rfl (.inl rfl) (pe_ix (r := rIxL K) ix_list (pv 2) (pe_ix (r := rIxT K) ix_tup (pv 4) pe_int (fun _ _ => rfl)) (fun _ _ => rfl))))
      (pss_one (ps_if (pt_cmpR op_eq (pe_ix (r := rIxT K) ix_tup (pv 4) pe_int (fun _ _ => rfl)) pe_str (nomark _))
      (pss_one (ps_set (i := 5) sc_law_values.nd rfl (.inl rfl) (pe_op op_add (pe_ix (r := rIxL K) ix_list (pv 3) (pe_ix (r := rIxT K) ix_tup (pv 4) pe_int (fun _ _ => rfl)) (fun _ _ => rfl)) (pe_ix (r := rIxL K) ix_list (pv 3) (pe_ix (r := rIxT K) ix_tup (pv 4) pe_int (fun _ _ => rfl)) (fun _ _ => rfl)))))
      (pss_one (ps_if (pt_cmpR op_eq (pe_ix (r := rIxT K) ix_tup (pv 4) pe_int (fun _ _ => rfl)) pe_str (nomark _))
      (pss_one (ps_set (i := 5) sc_law_values.nd rfl (.inl rfl) (pe_op op_mul (pe_ix (r := rIxL K) ix_list (pv 3) (pe_ix (r := rIxT K) ix_tup (pv 4) pe_int (fun _ _ => rfl)) (fun _ _ => rfl)) (pe_ix (r := rIxL K) ix_list (pv 3) (pe_ix (r := rIxT K) ix_tup (pv 4) pe_int (fun _ _ => rfl)) (fun _ _ => rfl)))))
      (pss_one (ps_if (pt_cmpR op_eq (pe_ix (r := rIxT K) ix_tup (pv 4) pe_int (fun _ _ => rfl)) pe_str (nomark _))
      (pss_one (ps_set (i := 5) sc_law_values.nd rfl (.inl rfl) (pe_op op_mul (pe_ix (r := rIxT K) ix_tup (pv 4) pe_int (fun _ _ => rfl)) (pe_ix (r := rIxL K) ix_list (pv 3) (pe_ix (r := rIxT K) ix_tup (pv 4) pe_int (fun _ _ => rfl)) (fun _ _ => rfl)))))
      (pss_one (ps_set (i := 5) sc_law_values.nd rfl (.inl rfl) (pe_op op_add (pe_ix (r := rIxL K) ix_list (pv 3) (pe_ix (r := rIxT K) ix_tup (pv 4) pe_int (fun _ _ => rfl)) (fun _ _ => rfl)) (pe_op op_mul (pe_ix (r := rIxL K) ix_list (pv 3) (pe_ix (r := rIxT K) ix_tup (pv 4) pe_int (fun _ _ => rfl)) (fun _ _ => rfl)) (pe_op op_sub (pe_ix (r := rIxL K) ix_list (pv 3) (pe_ix (r := rIxT K) ix_tup (pv 4) pe_int (fun _ _ => rfl)) (fun _ _ => rfl)) (pe_ix (r := rIxL K) ix_list (pv 3) (pe_ix (r := rIxT K) ix_tup (pv 4) pe_int (fun _ _ => rfl)) (fun _ _ => rfl))))))))))))))))
      (pss_one (ps_expr (pe_bm PySem.F.plainAttrs_list PySem.F.slot_list_append PySem.F.type_list_append mt_append (pv 3) (pa_cons (pe_op op_mod (pe_callTy (T := "int") (r := rInt1) cr_int1 (by rfl) T.m_int (by decide +kernel) (pa_cons (pv 5) pa_nil)) (pv 1)) pa_nil)))))))
      (pss_one (ps_ret (pv 3))))), ?_⟩
      walk_at "start"
      walk_at "x"
      refine ⟨by show 0 ≤ sizeLine; decide, fun p hp => ?_⟩
      have s2 := same_upd (o := .lst []) hp
      have e2 : (upd H p (.lst [])) p = some (.lst (([] : List Int).map V.int)) := upd_same
      generalize upd H p (.lst []) = H2 at s2 e2
      walk_at "x"
      refine x_forI (J := Itt K t) (n := (as.map V.ref).length) (G := fun H => SqT K H t (as.map V.ref)) (fun R r => ⟨_, rfl, t, rfl, ⟨_, st_of (s2 _ _ ha)⟩, r⟩) walk_tup (fun k σ' H' => ∃ v4 v5, σ' = [some (V.ref t), some (.int (m : Int)), some (.ref g), some (.ref p), v4, v5] ∧ Same H H' ∧ H' p = some (.lst ((valsF m gs (ns.take k)).map V.int))) ⟨_, _, rfl, s2, e2⟩ (fun k σ' H' _ z => by obtain ⟨_, _, _, z, _⟩ := z; exact st_of (z _ _ ha)) ?_ ?_
      · rintro k x σ' H3 H4 hk ⟨v4, v5, rfl, s3, e3⟩ ⟨rfl, hx⟩
        obtain ⟨b, hb2, rfl⟩ := map_getR hx
        obtain ⟨n, hn⟩ : ∃ n, ns[k]? = some n := ⟨_, List.getElem?_eq_getElem (by rw [List.length_map] at hk; omega)⟩
        have hb3 := s3 _ _ (hat k n b hn hb2)
        have okn := o3 k n hn
        have hll : (valsF m gs (ns.take k)).length = k := by
          unfold valsF
          rw [scanF_len, List.length_take]
          have := (List.getElem?_eq_some_iff.mp hn).1
          omega
        have hst : valsF m gs (ns.take (k + 1)) = valsF m gs (ns.take k) ++ [val1 gs (valsF m gs (ns.take k)) n % (m : Int)] := by
          rw [take_snocG hn]
          exact scanF_snoc
        have hrg := vals_rg (m := (m : Int)) (by omega) (gs := gs) (ns.take k)
        generalize valsF m gs (ns.take k) = C at e3 hll hst hrg
        have hga := s3 _ _ hg
        walk_at "x"
        refine x_cut (fun σ' H' => [some (V.ref t), some (.int (m : Int)), some (.ref g), some (.ref p), some (.ref b), some (.int (val1 gs C n))] = σ' ∧ H4 = H') ?_ ?_
        · walk_at "x"
          cases n with
          | con c =>
            have hb3 : H4 b = some (.tup [.str "const", .int (c : Int)]) := hb3
            refine x_ixT (v := .str "const") (st_of hb3) (atI_nat (j := 0) rfl) ?_
            walk_at "x"
            refine x_EqS ?_
            walk_at "x"
            rw [decide_eq_true rfl]
            refine iteT ?_
            walk_at "x"
            refine x_ixT (v := .int (c : Int)) (st_of hb3) (atI_nat (j := 1) rfl) ?_
            walk_at "x"
            exact ⟨rfl, rfl⟩
          | inp c =>
            have hb3 : H4 b = some (.tup [.str "input", .int (c : Int)]) := hb3
            refine x_ixT (v := .str "input") (st_of hb3) (atI_nat (j := 0) rfl) ?_
            walk_at "x"
            refine x_EqS ?_
            walk_at "x"
            rw [decide_eq_false (by decide : ¬ (("input" : Str) = "const"))]
            refine iteF ?_
            walk_at "x"
            refine x_ixT (v := .str "input") (st_of hb3) (atI_nat (j := 0) rfl) ?_
            walk_at "x"
            refine x_EqS ?_
            walk_at "x"
            rw [decide_eq_true rfl]
            refine iteT ?_
            walk_at "x"
            refine x_ixT (v := .int (c : Int)) (st_of hb3) (atI_nat (j := 1) rfl) ?_
            walk_at "x"
            refine x_ixL (sq_of hga) (atI_nat (int_get (Nat.lt_of_lt_of_le (needF_le hn) hgl))) ?_
            walk_at "x"
            exact ⟨rfl, rfl⟩
          | sum i j =>
            have hb3 : H4 b = some (.tup [.str "sum", .int (i : Int), .int (j : Int)]) := hb3
            refine x_ixT (v := .str "sum") (st_of hb3) (atI_nat (j := 0) rfl) ?_
            walk_at "x"
            refine x_EqS ?_
            walk_at "x"
            rw [decide_eq_false (by decide : ¬ (("sum" : Str) = "const"))]
            refine iteF ?_
            walk_at "x"
            refine x_ixT (v := .str "sum") (st_of hb3) (atI_nat (j := 0) rfl) ?_
            walk_at "x"
            refine x_EqS ?_
            walk_at "x"
            rw [decide_eq_false (by decide : ¬ (("sum" : Str) = "input"))]
            refine iteF ?_
            walk_at "x"
            refine x_ixT (v := .str "sum") (st_of hb3) (atI_nat (j := 0) rfl) ?_
            walk_at "x"
            refine x_EqS ?_
            walk_at "x"
            rw [decide_eq_true rfl]
            refine iteT ?_
            walk_at "x"
            refine x_ixT (v := .int (i : Int)) (st_of hb3) (atI_nat (j := 1) rfl) ?_
            walk_at "x"
            refine x_ixL (sq_of e3) (atI_nat (int_get (by rw [hll]; exact okn.1))) ?_
            walk_at "x"
            refine x_ixT (v := .int (j : Int)) (st_of hb3) (atI_nat (j := 2) rfl) ?_
            walk_at "x"
            refine x_ixL (sq_of e3) (atI_nat (int_get (by rw [hll]; exact okn.2))) ?_
            walk_at "x"
            exact ⟨rfl, rfl⟩
          | prod i j =>
            have hb3 : H4 b = some (.tup [.str "product", .int (i : Int), .int (j : Int)]) := hb3
            refine x_ixT (v := .str "product") (st_of hb3) (atI_nat (j := 0) rfl) ?_
            walk_at "x"
            refine x_EqS ?_
            walk_at "x"
            rw [decide_eq_false (by decide : ¬ (("product" : Str) = "const"))]
            refine iteF ?_
            walk_at "x"
            refine x_ixT (v := .str "product") (st_of hb3) (atI_nat (j := 0) rfl) ?_
            walk_at "x"
            refine x_EqS ?_
            walk_at "x"
            rw [decide_eq_false (by decide : ¬ (("product" : Str) = "input"))]
            refine iteF ?_
            walk_at "x"
            refine x_ixT (v := .str "product") (st_of hb3) (atI_nat (j := 0) rfl) ?_
            walk_at "x"
            refine x_EqS ?_
            walk_at "x"
            rw [decide_eq_false (by decide : ¬ (("product" : Str) = "sum"))]
            refine iteF ?_
            walk_at "x"
            refine x_ixT (v := .str "product") (st_of hb3) (atI_nat (j := 0) rfl) ?_
            walk_at "x"
            refine x_EqS ?_
            walk_at "x"
            rw [decide_eq_true rfl]
            refine iteT ?_
            walk_at "x"
            refine x_ixT (v := .int (i : Int)) (st_of hb3) (atI_nat (j := 1) rfl) ?_
            walk_at "x"
            refine x_ixL (sq_of e3) (atI_nat (int_get (by rw [hll]; exact okn.1))) ?_
            walk_at "x"
            refine x_ixT (v := .int (j : Int)) (st_of hb3) (atI_nat (j := 2) rfl) ?_
            walk_at "x"
            refine x_ixL (sq_of e3) (atI_nat (int_get (by rw [hll]; exact okn.2))) ?_
            walk_at "x"
            have := rg_get hrg (by rw [hll]; exact okn.1)
            refine ⟨_, _, rfl, rfl, mul_l (by omega) (by omega), ?_⟩
            walk_at "x"
            exact ⟨rfl, rfl⟩
          | scl c i =>
            have hb3 : H4 b = some (.tup [.str "scaled", .int (c : Int), .int (i : Int)]) := hb3
            refine x_ixT (v := .str "scaled") (st_of hb3) (atI_nat (j := 0) rfl) ?_
            walk_at "x"
            refine x_EqS ?_
            walk_at "x"
            rw [decide_eq_false (by decide : ¬ (("scaled" : Str) = "const"))]
            refine iteF ?_
            walk_at "x"
            refine x_ixT (v := .str "scaled") (st_of hb3) (atI_nat (j := 0) rfl) ?_
            walk_at "x"
            refine x_EqS ?_
            walk_at "x"
            rw [decide_eq_false (by decide : ¬ (("scaled" : Str) = "input"))]
            refine iteF ?_
            walk_at "x"
            refine x_ixT (v := .str "scaled") (st_of hb3) (atI_nat (j := 0) rfl) ?_
            walk_at "x"
            refine x_EqS ?_
            walk_at "x"
            rw [decide_eq_false (by decide : ¬ (("scaled" : Str) = "sum"))]
            refine iteF ?_
            walk_at "x"
            refine x_ixT (v := .str "scaled") (st_of hb3) (atI_nat (j := 0) rfl) ?_
            walk_at "x"
            refine x_EqS ?_
            walk_at "x"
            rw [decide_eq_false (by decide : ¬ (("scaled" : Str) = "product"))]
            refine iteF ?_
            walk_at "x"
            refine x_ixT (v := .str "scaled") (st_of hb3) (atI_nat (j := 0) rfl) ?_
            walk_at "x"
            refine x_EqS ?_
            walk_at "x"
            rw [decide_eq_true rfl]
            refine iteT ?_
            walk_at "x"
            refine x_ixT (v := .int (c : Int)) (st_of hb3) (atI_nat (j := 1) rfl) ?_
            walk_at "x"
            refine x_ixT (v := .int (i : Int)) (st_of hb3) (atI_nat (j := 2) rfl) ?_
            walk_at "x"
            refine x_ixL (sq_of e3) (atI_nat (int_get (by rw [hll]; exact okn.2))) ?_
            walk_at "x"
            have := rg_get hrg (by rw [hll]; exact okn.2)
            refine ⟨_, _, rfl, rfl, mul_r (by omega) (by omega), ?_⟩
            walk_at "x"
            exact ⟨rfl, rfl⟩
          | cho i j l =>
            have hb3 : H4 b = some (.tup [.str "choose", .int (i : Int), .int (j : Int), .int (l : Int)]) := hb3
            refine x_ixT (v := .str "choose") (st_of hb3) (atI_nat (j := 0) rfl) ?_
            walk_at "x"
            refine x_EqS ?_
            walk_at "x"
            rw [decide_eq_false (by decide : ¬ (("choose" : Str) = "const"))]
            refine iteF ?_
            walk_at "x"
            refine x_ixT (v := .str "choose") (st_of hb3) (atI_nat (j := 0) rfl) ?_
            walk_at "x"
            refine x_EqS ?_
            walk_at "x"
            rw [decide_eq_false (by decide : ¬ (("choose" : Str) = "input"))]
            refine iteF ?_
            walk_at "x"
            refine x_ixT (v := .str "choose") (st_of hb3) (atI_nat (j := 0) rfl) ?_
            walk_at "x"
            refine x_EqS ?_
            walk_at "x"
            rw [decide_eq_false (by decide : ¬ (("choose" : Str) = "sum"))]
            refine iteF ?_
            walk_at "x"
            refine x_ixT (v := .str "choose") (st_of hb3) (atI_nat (j := 0) rfl) ?_
            walk_at "x"
            refine x_EqS ?_
            walk_at "x"
            rw [decide_eq_false (by decide : ¬ (("choose" : Str) = "product"))]
            refine iteF ?_
            walk_at "x"
            refine x_ixT (v := .str "choose") (st_of hb3) (atI_nat (j := 0) rfl) ?_
            walk_at "x"
            refine x_EqS ?_
            walk_at "x"
            rw [decide_eq_false (by decide : ¬ (("choose" : Str) = "scaled"))]
            refine iteF ?_
            walk_at "x"
            refine x_ixT (v := .int (l : Int)) (st_of hb3) (atI_nat (j := 3) rfl) ?_
            walk_at "x"
            refine x_ixL (sq_of e3) (atI_nat (int_get (by rw [hll]; exact okn.2.2))) ?_
            walk_at "x"
            refine x_ixT (v := .int (i : Int)) (st_of hb3) (atI_nat (j := 1) rfl) ?_
            walk_at "x"
            refine x_ixL (sq_of e3) (atI_nat (int_get (by rw [hll]; exact okn.1))) ?_
            walk_at "x"
            refine x_ixT (v := .int (j : Int)) (st_of hb3) (atI_nat (j := 2) rfl) ?_
            walk_at "x"
            refine x_ixL (sq_of e3) (atI_nat (int_get (by rw [hll]; exact okn.2.1))) ?_
            walk_at "x"
            refine x_ixT (v := .int (l : Int)) (st_of hb3) (atI_nat (j := 3) rfl) ?_
            walk_at "x"
            refine x_ixL (sq_of e3) (atI_nat (int_get (by rw [hll]; exact okn.2.2))) ?_
            walk_at "x"
            have := rg_get hrg (by rw [hll]; exact okn.1)
            refine ⟨_, _, rfl, rfl, mul_l (by omega) (by omega), ?_⟩
            walk_at "x"
            exact ⟨rfl, rfl⟩
        rintro _ _ ⟨rfl, rfl⟩
        walk_at "x"
        refine x_tyL e3 ?_
        walk_at "x"
        refine x_app e3 (by rw [List.length_map, hll]; rw [List.length_map] at hk; omega) ?_
        walk_at "x"
        exact ⟨_, _, rfl, same_keep hp s3 keep_upd, by rw [upd_same, hst, List.map_append]; rfl⟩
      · rintro σ' H3 ⟨v4, v5, rfl, s3, e3⟩
        rw [List.length_map, hal, List.take_length] at e3
        walk_at "x"
        exact q p H3 s3 e3


def sp_law_meaning (K : PySem.W.Frag) : Sp := fun vs H Q _ => ∃ (d t g : Addr) (ns : List SN) (m : Nat) (gs : List Int), vs = [.ref t, .int (m : Int), .ref g] ∧ DAt d H (.ref t) (.tuple (ns.map snD)) ∧ SsOk ns ∧ 2 ≤ m ∧ m ≤ 1000000000 ∧ H g = some (.lst (gs.map V.int)) ∧ needF ns ≤ gs.length ∧
  ∀ H', Same H H' → Q (.int (valF m gs ns)) H'
theorem ok_law_meaning (T : Txt K mg) : FnOk P w K mg base CX0 2 T.a_law_meaning T.fd_law_meaning ["source", "modulus", "given"] (sp_law_meaning K) := by
  refine T.F_law_meaning.ok sc_law_meaning (fun vs H Q E h => ?_) (fun cdv A outer s H vs Q E hr h => ?_)
  · obtain ⟨d, t, g, ns, m, gs, rfl, _⟩ := h
    rfl
  · obtain ⟨d, t, g, ns, m, gs, rfl, ht, ok, m2, m9, hg, hgl, q⟩ := h
    refine ⟨_, (pss_one (ps_ret (pe_ix (r := rIxL K) ix_list (pe_call (ok_law_values T) hr (by rfl) T.g_law_values T.F_law_values.kp T.b_law_values .nil pass0 (pa_cons (pv 0) (pa_cons (pv 1) (pa_cons (pv 2) pa_nil)))) (pe_op op_sub (pe_callB (id := "len") (r := rLen K) cr_len (by rfl) T.m_len PySem.boot_len (pa_cons (pv 0) pa_nil)) pe_int) (fun _ _ => rfl)))), ?_⟩
    walk_at "start"
    walk_at "x"
    refine ⟨d, t, g, ns, m, gs, rfl, ht, ok, m2, m9, hg, hgl, fun p H1 s1 e1 => ?_⟩
    have o1 := ok.l1
    have hll : (valsF m gs ns).length = ns.length := scanF_len
    have e1 := e1
    cases ht with
    | tup ha hs =>
      have hxl := hs.len
      rw [List.length_map] at hxl
      walk_at "x"
      refine x_lenT (st_of (s1 _ _ ha)) ?_
      rw [hxl]
      walk_at "x"
      rw [show (ns.length : Int) - 1 = ((ns.length - 1 : Nat) : Int) by omega]
      refine x_ixL (sq_of e1) (atI_nat (int_get (by rw [hll]; omega))) ?_
      exact q H1 s1


end
end Br
namespace Br
open PySem PySem.Spec PyProof.Rows L2
local macro_rules | `(tactic| walk_at "x1") => `(tactic| (with_reducible first
  | refine Br.x_seq ?_ | refine Br.x_set ?_ | refine Br.x_asg ?_ | refine Br.x_next ?_ | refine Br.x_ret ?_ | refine Br.x_retN ?_ | refine Br.x_drop ?_ | refine Br.x_if ?_ | refine Br.x_brk ?_ | refine Br.x_cont ?_
  | refine Br.x_c ?_ | refine Br.x_op ?_ | refine Br.x_un ?_ | refine Br.x_I0 ?_ | refine Br.x_U ?_ | refine Br.x_EqI ?_ | refine Br.x_NeI ?_ | refine Br.x_EqB ?_ | refine Br.x_iN ?_ | refine Br.x_int1 ?_ | refine Br.x_min2 ?_ | refine Br.x_max2 ?_ | refine Br.x_nN ?_ | refine Br.x_ifE ?_
  | refine Br.x_test (b := ()) ?_ | refine Br.x_tB ?_ | refine Br.x_bl ?_ | refine Br.x_and ?_ | refine Br.x_or ?_ | refine Br.x_not ?_ | refine Br.x_andV ?_ | refine Br.x_orV ?_ | refine Br.x_notV ?_ | refine Br.x_blP ?_
  | refine Br.x_nil ?_ | refine Br.x_cons ?_ | refine Br.x_call ?_ | refine Br.x_CB ?_ | refine Br.x_BM ?_ | refine Br.x_tup ?_ | refine Br.x_lst ?_ | refine Br.x_chain ?_ | refine Br.x_par ?_ | refine Br.x_gSub ?_ | refine Br.x_gName ?_ | refine Br.x_fld ?_ | refine Br.x_fldS ?_ | refine Br.x_match ?_ | refine Br.x_else ?_ | refine Br.x_noCase ?_))
local macro_rules | `(tactic| walk_at "xv") => `(tactic| ((with_reducible refine' Br.x_var ?hvar ?_); (case hvar => rfl)))
local macro_rules | `(tactic| walk_at "xd") => `(tactic| (dsimp only [List.set_cons_zero, List.set_cons_succ, List.cons_append, List.nil_append, List.append_nil]))
local macro_rules | `(tactic| walk_at "xi") => `(tactic| ((with_reducible refine Br.x_I ?hside ?_); (case hside => first | exact Br.mul_r (by decide) (by decide) | exact Br.mul_l (by decide) (by decide) | exact Br.mul_l (by omega) (by omega) | exact Br.mul_r (by omega) (by omega) | (show (0 : Int) < _; first | decide | omega) | exact ⟨by decide, by decide⟩ | exact ⟨by omega, by omega⟩ | exact ⟨by decide, by decide, by decide⟩)))
local macro_rules | `(tactic| walk_at "x") => `(tactic| (repeat (first | walk_at "x1" | walk_at "xv" | walk_at "xi" | walk_at "xd")))
local macro_rules | `(tactic| walk_at "start") => `(tactic| (simp only [L2.start, List.map_cons, List.map_nil, List.length_cons, List.length_nil, Nat.reduceAdd, Nat.reduceSub, List.replicate, List.cons_append, List.nil_append, List.append_nil]))
local macro_rules | `(tactic| walk_at "isi") => `(tactic| first
  | refine Br.x_isi (b := true) (.base (.int _)) (by decide +kernel) ?_ | refine Br.x_isi (b := false) (.base (.int _)) (by decide +kernel) ?_
  | refine Br.x_isi (b := true) (.base (.bl _)) (by decide +kernel) ?_ | refine Br.x_isi (b := false) (.base (.bl _)) (by decide +kernel) ?_
  | refine Br.x_isi (b := false) (.base .non) (by decide +kernel) ?_
  | refine Br.x_isi (b := true) (.base (.str _)) (by decide +kernel) ?_ | refine Br.x_isi (b := false) (.base (.str _)) (by decide +kernel) ?_
  | refine Br.x_isi (b := true) (.base (.tup (by assumption))) (by decide +kernel) ?_ | refine Br.x_isi (b := false) (.base (.tup (by assumption))) (by decide +kernel) ?_
  | refine Br.x_isi (b := true) (.base (.lst (by assumption))) (by decide +kernel) ?_ | refine Br.x_isi (b := false) (.base (.lst (by assumption))) (by decide +kernel) ?_)
local macro_rules | `(tactic| walk_at "f") => `(tactic| (refine L2.iteF ?_; walk_at "x"))
local macro_rules | `(tactic| walk_at "t") => `(tactic| (refine L2.iteT ?_; walk_at "x"))
local macro_rules | `(tactic| walk_at "is") => `(tactic| (walk_at "isi"; walk_at "x"))
local macro_rules | `(tactic| walk_at "xb") => `(tactic| (simp only [Br.bindS, List.set_cons_zero, List.set_cons_succ]; walk_at "x"))

section
variable {P : Program} {w : World} {K : PySem.W.Frag} {mg : Str → Option Value} {base : Heap}

open Br

theorem belF_yes2 {m n : Nat} {gs : List Int} (h : Mem m n gs) : belF (some (gs.map V.int)) (n : Int) (m : Int) = true := by
  obtain ⟨h1, h2⟩ := h
  show (decide (((gs.map V.int).length : Int) = (n : Int)) && (gs.map V.int).all fun x => isB x (m : Int)) = true
  rw [Bool.and_eq_true, decide_eq_true_iff, List.all_eq_true]
  refine ⟨by rw [List.length_map]; omega, fun x hx => ?_⟩
  obtain ⟨z, hz, rfl⟩ := List.mem_map.mp hx
  have := h2 z hz
  exact isB_int this.1 this.2
def sp_answer (CM C : Addr) (K : PySem.W.Frag) : Sp := fun vs H Q E => ∃ (d p L : Addr) (as : List Addr) (S : List Stp) (m c i : Nat) (v1 v2 : V) (o1 o2 : Option (List V)), vs = [.ref p, v1, v2] ∧ PrAt K C H p L as S m c i ∧ PrOk S m c i ∧ NumsAt d H v1 o1 ∧ NumsAt d H v2 o2 ∧
  ((belF o1 (c : Int) (m : Int) && belF o2 (i : Int) (m : Int)) = false → ∀ H', Same H H' → E (.ref CM) none H') ∧
  (∀ (mo io : Addr) (mv iv : List Int), v1 = .ref mo → v2 = .ref io → H mo = some (.lst (mv.map V.int)) → H io = some (.lst (iv.map V.int)) → Mem m c mv → Mem m i iv →
    ∀ (t l : Addr) (H' : Hp), H t = none → H l = none → Same H H' → H' t = some (.tup [.int (((runF m iv S mv).getD 0 0 - mv.getD 0 0) % m), .ref l]) → H' l = some (.lst (mv.map V.int)) → Q (.ref t) H')
theorem ok_answer (T : Txt K mg) : FnOk P w K mg base (L2.CX P w) 20 T.a_answer T.fd_answer ["program", "memory", "given"] (sp_answer T.E_BadMemory T.C_Program K) := by
  refine T.F_answer.okX sc_answer (fun vs H Q E h => ?_) (fun cdv A outer s H vs Q E hr h => ?_)
  · obtain ⟨d, p, L, as, S, m, c, i, v1, v2, o1, o2, rfl, _⟩ := h
    rfl
  · obtain ⟨d, p, L, as, S, m, c, i, v1, v2, o1, o2, rfl, hP, ok, hN1, hN2, hE, hQ⟩ := h
    obtain ⟨dx, hp, hC⟩ := id hP.ob
    have m1 : 1 ≤ m := Nat.le_trans (by decide) ok.m2
    refine ⟨_, (pss_cons (ps_set (i := 3) sc_answer.nd rfl (.inl rfl) (pe_meth (pv 0) T.cl_Program T.me_Program_run (ok_Program_run T) (hr.mono (by decide)) T.b_Program_run .nil (passes_call (takes_of rfl rfl rfl rfl) (fun _ _ _ _ h => h)) (pa_cons (pv 1) (pa_cons (pv 2) pa_nil))))
      (pss_cons (ps_set (i := 4) sc_answer.nd rfl (.inl rfl) (pe_op op_mod (pe_op op_sub (pe_ix (r := rIxL K) ix_list (pv 3) pe_int (fun _ _ => rfl)) (pe_ix (r := rIxL K) ix_list (pv 1) pe_int (fun _ _ => rfl))) (pe_fld (pv 0) rfl)))
      (pss_cons (ps_set (i := 5) sc_answer.nd rfl (.inl rfl) (pe_un (r := rNegM T.C_Program (sp_Program___neg T.C_Program K) [] E) (un_negM T.me_Program___neg (ok_Program___neg T) (hr.mono (by decide)) T.b_Program___neg .nil pass0) (pv 0)))
      (pss_one (ps_ret (pe_tup (pa_cons (pv 4) (pa_cons (pe_meth (pv 5) T.cl_Program T.me_Program_run (ok_Program_run T) (hr.mono (by decide)) T.b_Program_run .nil (passes_call (takes_of rfl rfl rfl rfl) (fun _ _ _ _ h => h)) (pa_cons (pv 3) (pa_cons (pv 2) pa_nil))) pa_nil)))))))), ?_⟩
    walk_at "start"
    walk_at "x"
    refine x_meth1 ?_
    walk_at "x"
    refine ⟨p, dx, _, rfl, hp, rfl, ?_⟩
    walk_at "x"
    refine ⟨d, T.C_Program, p, L, as, S, m, c, i, v1, v2, o1, o2, rfl, hP, ok, hN1, hN2, hE, fun mo io mv iv e1 e2 hmo hio mm mi l H1 hl s1 hl1 => ?_⟩
    subst e1
    subst e2
    have hQ := hQ mo io mv iv rfl rfl hmo hio mm mi
    have c1 := ok.c1
    have hmr := runF_mem (inp := iv) m1 mm ok.ok
    have hP1 := hP.same s1
    have hp1 := s1 _ _ hp
    walk_at "x"
    refine x_ixL (sq_of hl1) (atI_nat (j := 0) (int_get (by rw [hmr.len]; exact c1))) ?_
    walk_at "x"
    refine x_ixL (sq_of (s1 _ _ hmo)) (atI_nat (j := 0) (int_get (by rw [mm.len]; exact c1))) ?_
    walk_at "x"
    refine x_fldR hp1 hC.cl hC.m progF_m ?_
    walk_at "x"
    refine ⟨p, dx, _, rfl, hp1, p, L, as, S, m, c, i, rfl, hP1, ok, fun p2 L2 as2 S2 H2 s2 hP2 hB2 ok2 => ?_⟩
    obtain ⟨dx2, hp2, _⟩ := id hP2.ob
    have hl2 := s2 _ _ hl1
    have hio2 := s2 _ _ (s1 _ _ hio)
    have mlen := hmr.len
    have ilen := mi.len
    have c60 := ok.c60
    have i60 := ok.i60
    walk_at "x"
    refine x_meth1 ?_
    walk_at "x"
    refine ⟨p2, dx2, _, rfl, hp2, rfl, ?_⟩
    walk_at "x"
    obtain ⟨d2, n1, n2⟩ : ∃ d2 : Addr, l ≠ d2 ∧ io ≠ d2 := ⟨l + io + 1, Nat.ne_of_lt (Nat.lt_succ_of_le (Nat.le_add_right l io)), Nat.ne_of_lt (Nat.lt_succ_of_le (Nat.le_add_left io l))⟩
    refine ⟨d2, T.C_Program, p2, L2, as2, S2, m, c, i, .ref l, .ref io, _, _, rfl, hP2, ok2, NumsAt.ints hl2 n1 (by omega), NumsAt.ints hio2 n2 (by omega), (fun h => by rw [belF_yes2 hmr, belF_yes2 mi] at h; cases h), fun mo2 io2 mv2 iv2 e1 e2 hmo2 hio2b mm2 mi2 l2 H3 hl2n s3 hl3 => ?_⟩
    cases e1
    cases e2
    obtain rfl : runF m iv S mv = mv2 := (List.map_inj_right (fun _ _ z => V.int.inj z)).mp (by rw [hl2] at hmo2; exact HO.lst.inj (Option.some.inj hmo2))
    obtain rfl : iv = iv2 := (List.map_inj_right (fun _ _ z => V.int.inj z)).mp (by rw [hio2] at hio2b; exact HO.lst.inj (Option.some.inj hio2b))
    rw [runF_back m1 hB2 mm ok.ok] at hl3
    have s03 := (s1.trans s2).trans s3
    walk_at "x"
    refine ⟨by show 2 ≤ sizeLine; decide, fun t ht => ?_⟩
    exact hQ t l2 _ (s03.free ht) ((s1.trans s2).free hl2n) (s03.trans (same_upd ht)) upd_same (same_upd ht _ _ hl3)


def sp_law_asked (C : Addr) (K : PySem.W.Frag) : Sp := fun vs H Q _ => ∃ (p L mo io : Addr) (as : List Addr) (S : List Stp) (m c i : Nat) (mv iv : List Int) (v : Int), vs = [.ref p, .ref mo, .ref io, .int v] ∧ PrAt K C H p L as S m c i ∧ PrOk S m c i ∧ H mo = some (.lst (mv.map V.int)) ∧ H io = some (.lst (iv.map V.int)) ∧ Mem m c mv ∧ Mem m i iv ∧
  ((runF m iv S mv).getD 0 0 - mv.getD 0 0) % m = v ∧ ∀ H', Same H H' → Q (.bl true) H'
theorem eqv_answer {K : PySem.W.Frag} {H : Hp} {t u l mo : Addr} {v : Int} {mv : List Int} (h1 : H t = some (.tup [.int v, .ref l])) (h2 : H u = some (.tup [.int v, .ref mo])) (hl : H l = some (.lst (mv.map V.int))) (hm : H mo = some (.lst (mv.map V.int))) (hz : mv.length ≤ 60) : Eqv K H 4 (.ref t) (.ref u) := by
  refine Eqv.tup (n := 3) h1 h2 rfl (by show 2 ≤ 100000; decide) fun i x y e1 e2 => ?_
  match i, e1, e2 with
  | 0, e1, e2 => cases e1; cases e2; exact Eqv.int
  | 1, e1, e2 => cases e1; cases e2; exact Eqv.ints (n := 1) hl hm (by omega)
  | i + 2, e1, _ => simp at e1
theorem ok_law_asked (T : Txt K mg) : FnOk P w K mg base CX0 22 T.a_law_asked T.fd_law_asked ["program", "memory", "given", "due"] (sp_law_asked T.C_Program K) := by
  refine T.F_law_asked.ok sc_law_asked (fun vs H Q E h => ?_) (fun cdv A outer s H vs Q E hr h => ?_)
  · obtain ⟨p, L, mo, io, as, S, m, c, i, mv, iv, v, rfl, _⟩ := h
    rfl
  · obtain ⟨p, L, mo, io, as, S, m, c, i, mv, iv, v, rfl, hP, ok, hmo, hio, mm, mi, hv, q⟩ := h
    have c1 := ok.c1
    have c60 := ok.c60
    have i60 := ok.i60
    have mlen := mm.len
    have ilen := mi.len
    refine ⟨_, (pss_cons (ps_set (i := 4) sc_law_asked.nd rfl (.inl rfl) (pe_callTy (T := "list") (r := rListOf K) cr_list_of (by rfl) T.m_list (by decide +kernel) (pa_cons (pv 1) pa_nil)))
      (pss_cons (ps_set (i := 5) sc_law_asked.nd rfl (.inl rfl) (pe_callTy (T := "list") (r := rListOf K) cr_list_of (by rfl) T.m_list (by decide +kernel) (pa_cons (pv 2) pa_nil)))
      (pss_cons (ps_set (i := 6) sc_law_asked.nd rfl (.inl rfl) (pe_call (ok_answer T) (hr.mono (by decide)) (by rfl) T.g_answer T.F_answer.kp T.b_answer .nil passL (pa_cons (pv 0) (pa_cons (pv 4) (pa_cons (pv 5) pa_nil)))))
      (pss_cons (ps_if (PW.pt (pw_or (pt_not (pt_val (pe_call (ok_law_equal T 4) (hr.mono (by decide)) (by rfl) T.g_law_equal T.F_law_equal.kp T.b_law_equal .nil pass0 (pa_cons (pv 4) (pa_cons (pv 1) pa_nil))))) (pw_or1 (pt_not (pt_val (pe_call (ok_law_equal T 4) (hr.mono (by decide)) (by rfl) T.g_law_equal T.F_law_equal.kp T.b_law_equal .nil pass0 (pa_cons (pv 5) (pa_cons (pv 2) pa_nil))))))))
      (pss_one (ps_ret pe_bl))
      pss_nil)
      (pss_cons (ps_if (pt_not (pt_val (pe_call (ok_law_equal T 4) (hr.mono (by decide)) (by rfl) T.g_law_equal T.F_law_equal.kp T.b_law_equal .nil pass0 (pa_cons (pv 6) (pa_cons (pe_tup (pa_cons (pv 3) (pa_cons (pv 1) pa_nil))) pa_nil)))))
      (pss_one (ps_ret pe_bl))
      pss_nil)
      (pss_cons (ps_asg (pe_un un_neg pe_int) (pg_sub (pe_ix (r := rIxT K) ix_tup (pv 6) pe_int (fun _ _ => rfl)) pe_int set_list))
      (pss_one (ps_ret (pe_and (pe_call (ok_law_equal T 4) (hr.mono (by decide)) (by rfl) T.g_law_equal T.F_law_equal.kp T.b_law_equal .nil pass0 (pa_cons (pv 4) (pa_cons (pv 1) pa_nil))) (pe_one (pe_call (ok_law_equal T 4) (hr.mono (by decide)) (by rfl) T.g_law_equal T.F_law_equal.kp T.b_law_equal .nil pass0 (pa_cons (pe_call (ok_answer T) (hr.mono (by decide)) (by rfl) T.g_answer T.F_answer.kp T.b_answer .nil passL (pa_cons (pv 0) (pa_cons (pv 4) (pa_cons (pv 5) pa_nil)))) (pa_cons (pe_tup (pa_cons (pv 3) (pa_cons (pv 1) pa_nil))) pa_nil))))))))))))), ?_⟩
    walk_at "start"
    walk_at "x"
    refine x_listL (sq_of hmo) fun h1 hh1 => ?_
    have s1 := same_upd (o := .lst (mv.map V.int)) hh1
    have e1 : (upd H h1 (.lst (mv.map V.int))) h1 = some (.lst (mv.map V.int)) := upd_same
    generalize upd H h1 (.lst (mv.map V.int)) = H1 at s1 e1
    walk_at "x"
    refine x_listL (sq_of (s1 _ _ hio)) fun h2 hh2 => ?_
    have s2 := same_upd (o := .lst (iv.map V.int)) hh2
    have e2 : (upd H1 h2 (.lst (iv.map V.int))) h2 = some (.lst (iv.map V.int)) := upd_same
    have e1 := s2 _ _ e1
    have s2 := s1.trans s2
    generalize upd H1 h2 (.lst (iv.map V.int)) = H2 at s2 e1 e2
    have ask : ∀ (H3 : Hp) (Q2 : VK), PrAt K T.C_Program H3 p L as S m c i → H3 h1 = some (.lst (mv.map V.int)) → H3 h2 = some (.lst (iv.map V.int)) →
        (∀ (t l : Addr) (H' : Hp), H3 t = none → H3 l = none → Same H3 H' → H' t = some (.tup [.int v, .ref l]) → H' l = some (.lst (mv.map V.int)) → Q2 (.ref t) H') → sp_answer T.E_BadMemory T.C_Program K [.ref p, .ref h1, .ref h2] H3 Q2 E0 := fun H3 Q2 hP3 f1 f2 go => by
      obtain ⟨d2, n1, n2⟩ : ∃ d2 : Addr, h1 ≠ d2 ∧ h2 ≠ d2 := ⟨h1 + h2 + 1, Nat.ne_of_lt (Nat.lt_succ_of_le (Nat.le_add_right h1 h2)), Nat.ne_of_lt (Nat.lt_succ_of_le (Nat.le_add_left h2 h1))⟩
      refine ⟨d2, p, L, as, S, m, c, i, .ref h1, .ref h2, _, _, rfl, hP3, ok, NumsAt.ints f1 n1 (by omega), NumsAt.ints f2 n2 (by omega), (fun h => by rw [belF_yes2 mm, belF_yes2 mi] at h; cases h), fun mo2 io2 mv2 iv2 g1 g2 hm2 hi2 mm2 mi2 t l H' ht hl s ht2 hl2 => ?_⟩
      cases g1
      cases g2
      obtain rfl : mv = mv2 := (List.map_inj_right (fun _ _ z => V.int.inj z)).mp (by rw [f1] at hm2; exact HO.lst.inj (Option.some.inj hm2))
      obtain rfl : iv = iv2 := (List.map_inj_right (fun _ _ z => V.int.inj z)).mp (by rw [f2] at hi2; exact HO.lst.inj (Option.some.inj hi2))
      rw [hv] at ht2
      exact go t l H' ht hl s ht2 hl2
    walk_at "x"
    refine ask _ _ (hP.same s2) e1 e2 fun t l H3 ht hl s3 ht3 hl3 => ?_
    have f1' := s3
    have s3 := s2.trans s3
    have hln : H l = none := s2.free hl
    have hl1 : l ≠ h1 := fun e => by rw [e, e1] at hl; cases hl
    have hl2 : l ≠ h2 := fun e => by rw [e, e2] at hl; cases hl
    have s23 : Same H2 H3 := fun b o e => f1' b o e
    have g1 := s23 _ _ e1
    have g2 := s23 _ _ e2
    walk_at "x"
    refine ⟨_, _, rfl, Eqv.ints (n := 2) g1 (s3 _ _ hmo) (by omega), ?_⟩
    walk_at "x"
    walk_at "f"
    refine ⟨_, _, rfl, Eqv.ints (n := 2) g2 (s3 _ _ hio) (by omega), ?_⟩
    walk_at "x"
    walk_at "f"
    refine ⟨by show 2 ≤ sizeLine; decide, fun u hu => ?_⟩
    have u4 := same_upd (o := .tup [.int v, .ref mo]) hu
    have f4 : (upd H3 u (.tup [.int v, .ref mo])) u = some (.tup [.int v, .ref mo]) := upd_same
    generalize upd H3 u (.tup [.int v, .ref mo]) = H4 at u4 f4
    have s4 := s3.trans u4
    have ht4 := u4 _ _ ht3
    have hl4 := u4 _ _ hl3
    have g1 := u4 _ _ g1
    have g2 := u4 _ _ g2
    walk_at "x"
    refine ⟨_, _, rfl, eqv_answer ht4 f4 hl4 (s4 _ _ hmo) (by omega), ?_⟩
    walk_at "x"
    walk_at "f"
    refine x_ixT (v := .ref l) (st_of ht4) (atI_nat (j := 1) rfl) ?_
    walk_at "x"
    refine x_subL (k := 0) hl4 (by rw [List.length_map]; exact ixN_nat (i := 0) (by rw [mlen]; exact c1)) ?_
    have s5 : Same H (upd H4 l (.lst ((mv.map V.int).set 0 (.int (-1))))) := Same.put s4 hln
    have g1 : (upd H4 l (.lst ((mv.map V.int).set 0 (.int (-1))))) h1 = some (.lst (mv.map V.int)) := by rw [upd_ne hl1.symm]; exact g1
    have g2 : (upd H4 l (.lst ((mv.map V.int).set 0 (.int (-1))))) h2 = some (.lst (iv.map V.int)) := by rw [upd_ne hl2.symm]; exact g2
    generalize upd H4 l (.lst ((mv.map V.int).set 0 (.int (-1)))) = H5 at s5 g1 g2
    walk_at "x"
    refine ⟨_, _, rfl, Eqv.ints (n := 2) g1 (s5 _ _ hmo) (by omega), ?_⟩
    walk_at "x"
    rw [if_pos rfl]
    walk_at "x"
    refine ask _ _ (hP.same s5) g1 g2 fun t2 l2 H6 ht2 hl2n s6 ht6 hl6 => ?_
    have s6 := s5.trans s6
    walk_at "x"
    refine ⟨by show 2 ≤ sizeLine; decide, fun u2 hu2 => ?_⟩
    have u7 := same_upd (o := .tup [.int v, .ref mo]) hu2
    have s7 := s6.trans u7
    walk_at "x"
    exact ⟨_, _, rfl, eqv_answer (u7 _ _ ht6) upd_same (u7 _ _ hl6) (s7 _ _ hmo) (by omega), q _ s7⟩


def sp_law_refused (C : Addr) (K : PySem.W.Frag) : Sp := fun vs H Q _ => ∃ (d p L : Addr) (as : List Addr) (S : List Stp) (m c i : Nat) (v1 v2 : V) (o1 o2 : Option (List V)), vs = [.ref p, v1, v2] ∧ PrAt K C H p L as S m c i ∧ PrOk S m c i ∧ NumsAt d H v1 o1 ∧ NumsAt d H v2 o2 ∧
  (belF o1 (c : Int) (m : Int) && belF o2 (i : Int) (m : Int)) = false ∧ ∀ H', Same H H' → Q (.bl true) H'
theorem ok_law_refused (T : Txt K mg) : FnOk P w K mg base CX0 22 T.a_law_refused T.fd_law_refused ["program", "memory", "given"] (sp_law_refused T.C_Program K) := by
  refine T.F_law_refused.ok sc_law_refused (fun vs H Q E h => ?_) (fun cdv A outer s H vs Q E hr h => ?_)
  · obtain ⟨d, p, L, as, S, m, c, i, v1, v2, o1, o2, rfl, _⟩ := h
    rfl
  · obtain ⟨d, p, L, as, S, m, c, i, v1, v2, o1, o2, rfl, hP, ok, hN1, hN2, hb, q⟩ := h
    refine ⟨_, (pss_cons (ps_try_as (i := 3) rfl rfl sc_law_refused.nd rfl rfl ⟨rfl, by decide, .inl T.gE_BadMemory⟩ takes0 (fun W pn xe tk _ => (pss_one (ps_expr (pe_callS (sp := sp_answer T.E_BadMemory T.C_Program K) (E := WE W) (ok_answer T) (hr.mono (by decide)) (by rfl) T.g_answer T.F_answer.kp T.b_answer (fun σ => passAt tk σ) (pa_cons (pv 0) (pa_cons (pv 1) (pa_cons (pv 2) pa_nil)))))))
      (fun a oe cls d pn hz hf => (pss_one (ps_ret (pe_not (pe_callB (id := "isinstance") (r := rIsEQ K a cls d) (call_isEQ rfl hz hf) (by rfl) T.m_isinstance (by decide +kernel) (pa_cons (pv 3) (pa_cons (pe_glob (v := .ref T.E_BadStep) (by rfl) T.gE_BadStep rfl) pa_nil))))))))
      (pss_one (ps_ret pe_bl))), ?_⟩
    walk_at "start"
    walk_at "x"
    refine x_callS ?_
    walk_at "x"
    refine ⟨d, p, L, as, S, m, c, i, v1, v2, o1, o2, rfl, hP, ok, hN1, hN2, fun _ H' s => ?_, fun mo io mv iv e1 e2 hmo hio mm mi t l H' _ _ s _ _ => ?_⟩
    · refine ⟨true, PySem.W.exm_ref T.bE_BadMemory T.dE_BadMemory T.tE_BadMemory T.sE_BadMemory_BadMemory, (fun _ a ha => ?_), (fun z => nomatch z)⟩
      walk_at "x"
      refine ⟨_, _, false, rfl, rfl, T.cE_BadMemory, rfl, kit_ref T.dE_BadStep T.tE_BadStep T.sE_BadMemory_BadStep T.sE_BadStep_BadStep, ?_⟩
      walk_at "x"
      exact q H' s
    · exfalso
      have hb1 : belF o1 (c : Int) (m : Int) = true := by
        subst e1
        cases hN1 with
        | lst _ xs h _ _ _ =>
          rw [h] at hmo
          cases hmo
          exact belF_yes2 mm
        | tup _ xs h => rw [h] at hmo; cases hmo
      have hb2 : belF o2 (i : Int) (m : Int) = true := by
        subst e2
        cases hN2 with
        | lst _ xs h _ _ _ =>
          rw [h] at hio
          cases hio
          exact belF_yes2 mi
        | tup _ xs h => rw [h] at hio; cases hio
      rw [hb1, hb2] at hb
      cases hb

theorem modI {m : Nat} (m2 : 2 ≤ m) (m9 : m ≤ 1000000000) : (isB (.int (m : Int)) 1000000001 && !isB (.int (m : Int)) 2) = true := by
  rw [show (isB (.int (m : Int)) 1000000001 && !isB (.int (m : Int)) 2) = ((decide (0 ≤ (m : Int)) && decide ((m : Int) < 1000000001)) && !(decide (0 ≤ (m : Int)) && decide ((m : Int) < 2))) from rfl, decide_eq_true (show (0 : Int) ≤ (m : Int) by omega), decide_eq_true (show (m : Int) < 1000000001 by omega), decide_eq_false (show ¬ (m : Int) < 2 by omega)]
  rfl
theorem set3 {x y z v : Int} : ([x, y, z] : List Int).set 0 v = [v, y, z] := rfl
theorem mem3 {m : Nat} {xs : List Int} (h : Mem m 3 xs) : ∃ x y z, xs = [x, y, z] := by
  obtain ⟨hl, _⟩ := h
  match xs, hl with
  | [x, y, z], _ => exact ⟨x, y, z, rfl⟩
theorem bel_len {xs : List V} {n m : Int} (h : (xs.length : Int) ≠ n) : belF (some xs) n m = false := by
  show (decide ((xs.length : Int) = n) && _) = false
  rw [decide_eq_false h, Bool.false_and]
theorem bel_first {xs : List V} {n m : Int} : belF (some (.int m :: xs)) n m = false := by
  show (decide _ && (isB (.int m) m && _)) = false
  have : isB (.int m) m = false := by
    show (decide (0 ≤ m) && decide (m < m)) = false
    rw [decide_eq_false (show ¬ m < m by omega), Bool.and_false]
  rw [this, Bool.false_and, Bool.and_false]
def sp_law (K : PySem.W.Frag) : Sp := fun vs H Q _ => ∃ (a : Addr) (ns : List Int), vs = [.ref a] ∧ SqL K H a (ns.map V.int) ∧ ns.length ≤ 63 ∧ ∀ H', Q (.bl true) H'
theorem ok_law (T : Txt K mg) : FnOk P w K mg base CX0 26 T.a_law T.fd_law ["script"] (sp_law K) := by
  refine T.F_law.ok sc_law (fun vs H Q E h => ?_) (fun cdv A outer s H vs Q E hr h => ?_)
  · obtain ⟨a, ns, rfl, _⟩ := h
    rfl
  · obtain ⟨a, ns, rfl, hS, hl, q⟩ := h
    refine ⟨_, (pss_cons (ps_set (i := 1) sc_law.nd rfl (.inr rfl) (pe_lst (pa_cons (pe_call (ok_law_numbers T) (hr.mono (by decide)) (by rfl) T.g_law_numbers T.F_law_numbers.kp T.b_law_numbers .nil pass0 (pa_cons (pv 0) pa_nil)) (pa_cons pe_int pa_nil))))
      (pss_cons (ps_set (i := 2) sc_law.nd rfl (.inl rfl) (pe_ix (r := rIxL K) ix_list (pe_call (ok_law_source T) (hr.mono (by decide)) (by rfl) T.g_law_source T.F_law_source.kp T.b_law_source .nil pass0 (pa_cons (pv 1) (pa_cons pe_int pa_nil))) pe_int (fun _ _ => rfl)))
      (pss_cons (ps_set (i := 3) sc_law.nd rfl (.inr rfl) (pe_call (ok_law_modulus T) (hr.mono (by decide)) (by rfl) T.g_law_modulus T.F_law_modulus.kp T.b_law_modulus .nil pass0 (pa_cons (pv 1) pa_nil)))
      (pss_cons (ps_setLc (i := 4) (own := [("k", 10)]) (g := gName 10) (tt := tYes) rfl sc_law.nd rfl rfl (sw_true rfl rfl rfl (by decide +kernel)) (pi_range1 (by rfl) T.m_range (pa_cons (pe_call (ok_law_needs T) (hr.mono (by decide)) (by rfl) T.g_law_needs T.F_law_needs.kp T.b_law_needs .nil pass0 (pa_cons (pv 2) pa_nil)) pa_nil)) (blkOk_by (N := N_law) (sc := defScope s_law) (by decide +kernel)) (fun _ _ _ _ _ => (pg_name (i := 10) sc_law.nd rfl (Or.inl rfl))) (fun _ _ _ _ _ => pts_nil) (fun _ _ _ _ _ => (pe_call (ok_law_number T) (hr.mono (by decide)) (by rfl) T.g_law_number T.F_law_number.kp T.b_law_number .nil pass0 (pa_cons (pv 1) (pa_cons (pv 3) pa_nil)))))
      (pss_cons (ps_setLc (i := 5) (own := [("k", 10)]) (g := gName 10) (tt := tYes) rfl sc_law.nd rfl rfl (sw_true rfl rfl rfl (by decide +kernel)) (pi_range1 (by rfl) T.m_range (pa_cons pe_int pa_nil)) (blkOk_by (N := N_law) (sc := defScope s_law) (by decide +kernel)) (fun _ _ _ _ _ => (pg_name (i := 10) sc_law.nd rfl (Or.inl rfl))) (fun _ _ _ _ _ => pts_nil) (fun _ _ _ _ _ => (pe_call (ok_law_number T) (hr.mono (by decide)) (by rfl) T.g_law_number T.F_law_number.kp T.b_law_number .nil pass0 (pa_cons (pv 1) (pa_cons (pv 3) pa_nil)))))
      (pss_cons (ps_set (i := 6) sc_law.nd rfl (.inl rfl) (pe_call (ok_compile_source T) (hr.mono (by decide)) (by rfl) T.g_compile_source T.F_compile_source.kp T.b_compile_source .nil passL (pa_cons (pv 2) (pa_cons (pv 3) pa_nil))))
      (pss_cons (ps_if (pt_not (pt_val (pe_call (ok_law_asked T) (hr.mono (by decide)) (by rfl) T.g_law_asked T.F_law_asked.kp T.b_law_asked .nil pass0 (pa_cons (pv 6) (pa_cons (pv 5) (pa_cons (pv 4) (pa_cons (pe_call (ok_law_meaning T) (hr.mono (by decide)) (by rfl) T.g_law_meaning T.F_law_meaning.kp T.b_law_meaning .nil pass0 (pa_cons (pv 2) (pa_cons (pv 3) (pa_cons (pv 4) pa_nil)))) pa_nil)))))))
      (pss_one (ps_ret pe_bl))
      pss_nil)
      (pss_cons (ps_set (i := 7) sc_law.nd rfl (.inl rfl) (pe_call (ok_law_program T) (hr.mono (by decide)) (by rfl) T.g_law_program T.F_law_program.kp T.b_law_program .nil pass0 (pa_cons (pv 1) (pa_cons pe_int pa_nil))))
      (pss_cons (ps_set (i := 5) sc_law.nd rfl (.inl rfl) (pe_call (ok_law_memory T) (hr.mono (by decide)) (by rfl) T.g_law_memory T.F_law_memory.kp T.b_law_memory .nil pass0 (pa_cons (pv 1) (pa_cons (pv 7) pa_nil))))
      (pss_cons (ps_set (i := 4) sc_law.nd rfl (.inl rfl) (pe_call (ok_law_given T) (hr.mono (by decide)) (by rfl) T.g_law_given T.F_law_given.kp T.b_law_given .nil pass0 (pa_cons (pv 1) (pa_cons (pv 7) pa_nil))))
      (pss_cons (ps_set (i := 8) sc_law.nd rfl (.inl rfl) (pe_call (ok_law_ran T) (hr.mono (by decide)) (by rfl) T.g_law_ran T.F_law_ran.kp T.b_law_ran .nil pass0 (pa_cons (pv 7) (pa_cons (pv 5) (pa_cons (pv 4) pa_nil)))))
      (pss_cons (ps_set (i := 9) sc_law.nd rfl (.inl rfl) (pe_ix (r := rIxL K) ix_list (pe_lst (pa_cons (pe_op op_cat (pv 5) (pe_lst (pa_cons pe_int pa_nil))) (pa_cons (pe_slice (r := rSlL K) sl_list (pv 5) (po_some pe_int) po_none) (pa_cons (pe_op op_cat (pe_lst (pa_cons (pe_dget (hu_of hr) (pv 7) pe_str (fun _ _ => rfl)) pa_nil)) (pe_slice (r := rSlL K) sl_list (pv 5) (po_some pe_int) po_none)) (pa_cons (pe_callTy (T := "tuple") (r := rTupOf K) cr_tup_of (by rfl) T.m_tuple (by decide +kernel) (pa_cons (pv 5) pa_nil)) pa_nil))))) (pe_op op_mod (pe_call (ok_law_draw T) (hr.mono (by decide)) (by rfl) T.g_law_draw T.F_law_draw.kp T.b_law_draw .nil pass0 (pa_cons (pv 1) pa_nil)) pe_int) (fun _ _ => rfl)))
      (pss_cons (ps_if (PW.pt (pw_or (pt_not (pt_val (pe_call (ok_law_refused T) (hr.mono (by decide)) (by rfl) T.g_law_refused T.F_law_refused.kp T.b_law_refused .nil pass0 (pa_cons (pe_call (ok_law_made T) (hr.mono (by decide)) (by rfl) T.g_law_made T.F_law_made.kp T.b_law_made .nil pass0 (pa_cons (pv 7) pa_nil)) (pa_cons (pv 9) (pa_cons (pv 4) pa_nil)))))) (pw_or1 (pt_not (pt_val (pe_call (ok_law_refused T) (hr.mono (by decide)) (by rfl) T.g_law_refused T.F_law_refused.kp T.b_law_refused .nil pass0 (pa_cons (pe_call (ok_law_made T) (hr.mono (by decide)) (by rfl) T.g_law_made T.F_law_made.kp T.b_law_made .nil pass0 (pa_cons (pv 7) pa_nil)) (pa_cons (pv 5) (pa_cons (pe_op op_cat (pv 4) (pe_lst (pa_cons pe_int pa_nil))) pa_nil)))))))))
      (pss_one (ps_ret pe_bl))
      pss_nil)
      (pss_one (ps_ret (pe_call (ok_law_asked T) (hr.mono (by decide)) (by rfl) T.g_law_asked T.F_law_asked.kp T.b_law_asked .nil pass0 (pa_cons (pe_call (ok_law_made T) (hr.mono (by decide)) (by rfl) T.g_law_made T.F_law_made.kp T.b_law_made .nil pass0 (pa_cons (pv 7) pa_nil)) (pa_cons (pv 5) (pa_cons (pv 4) (pa_cons (pe_op op_mod (pe_callTy (T := "int") (r := rInt1) cr_int1 (by rfl) T.m_int (by decide +kernel) (pa_cons (pe_op op_sub (pe_ix (r := rIxL K) ix_list (pv 8) pe_int (fun _ _ => rfl)) (pe_ix (r := rIxL K) ix_list (pv 5) pe_int (fun _ _ => rfl))) pa_nil)) (pe_dget (hu_of hr) (pv 7) pe_str (fun _ _ => rfl))) pa_nil)))))))))))))))))))), ?_⟩
    walk_at "start"
    walk_at "x"
    refine ⟨a, ns, rfl, hS, hl, fun nn ms H1 hn1 hs1 hn2 hr hlen => ?_⟩
    walk_at "x"
    refine ⟨by show 2 ≤ sizeLine; decide, fun d hd => ?_⟩
    have hD := Dr.mk hn2 hr hlen hd
    generalize upd H1 d (.lst [.ref nn, .int 0]) = H2 at hD
    clear hn1 hs1 hn2 hr hlen hd hS hl
    walk_at "x"
    refine ⟨d, nn, 300, rfl, by decide, hD, ?_⟩
    rintro _ H4 ⟨r, t, bs, rfl, hr, hrd, ht, ok, _, hco, _⟩ hD4 k4
    walk_at "x"
    refine x_ixL (v := .ref t) (sq_of hr) (atI_nat (j := 0) rfl) ?_
    walk_at "x"
    refine ⟨d, nn, rfl, hD4, ?_⟩
    rintro _ H5 ⟨z, rfl, z0, z1⟩ hD5 k5
    have ht5 := DAt.keep (by obtain ⟨_, _, h, _⟩ := hD4; exact ⟨_, h⟩) k5 _ ht
    obtain ⟨m, rfl⟩ : ∃ m : Nat, z = (m : Int) := ⟨z.toNat, by omega⟩
    have m2 : 2 ≤ m := by omega
    have m9 : m ≤ 1000000000 := by omega
    have hcost : costF bs ≤ 20000 := by unfold costF; omega
    have n60 := needF_60 ok
    walk_at "x"
    refine x_lcR1 ((needF bs : Nat) : Int) (fun p k H' => Dr H' d nn ∧ Keep d H5 H' ∧ p ≠ d ∧ p ≠ nn ∧ ∃ gs : List Int, H' p = some (.lst (gs.map V.int)) ∧ gs.length = k ∧ Rg 0 m gs) (fun R r => by walk_at "x"; exact ⟨d, t, bs, rfl, ht5, r⟩) (by omega) (by omega) (fun p hp => ⟨hD5.upd0 hp, Same.keep (same_upd hp), hD5.new hp, hD5.newN hp, [], upd_same, rfl, .nil⟩) (fun x => rfl) ?_ ?_
    · rintro p k H7 hp hk ⟨hD7, k7, hpd, hpn, gs, hP, hgl, hrg⟩
      walk_at "x"
      refine ⟨d, nn, _, rfl, by omega, hD7, ?_⟩
      rintro _ H8 ⟨w, rfl, w0, w1⟩ hD8 k8
      exact ⟨_, k8 _ _ hP hpd, lt_line (by rw [List.length_map]; omega), hD8.upd hpd hpn, kput (k7.trans k8) hp, hpd, hpn, gs ++ [w], by rw [upd_same, List.map_append]; rfl, by rw [List.length_append, hgl]; rfl, hrg.snoc w0 w1⟩
    rintro io H7 hp ⟨hD7, k7, hid, hin, gs, hG, hgl, hrg⟩
    have mi : Mem m (needF bs) gs := ⟨by omega, hrg⟩
    have ht7 := DAt.keep (by obtain ⟨_, _, h, _⟩ := hD5; exact ⟨_, h⟩) k7 _ ht5
    clear hp hin hD5 ht5 k7
    walk_at "x"
    refine x_lcR1 3 (fun p k H' => Dr H' d nn ∧ Keep d H7 H' ∧ p ≠ d ∧ p ≠ nn ∧ ∃ gs : List Int, H' p = some (.lst (gs.map V.int)) ∧ gs.length = k ∧ Rg 0 m gs) (fun R r => r) (by decide) (by decide) (fun p hp => ⟨hD7.upd0 hp, Same.keep (same_upd hp), hD7.new hp, hD7.newN hp, [], upd_same, rfl, .nil⟩) (fun x => rfl) ?_ ?_
    · rintro p k H8 hp hk ⟨hD8, k8, hpd, hpn, xs, hP, hxl, hrx⟩
      walk_at "x"
      refine ⟨d, nn, _, rfl, by omega, hD8, ?_⟩
      rintro _ H9 ⟨w, rfl, w0, w1⟩ hD9 k9
      exact ⟨_, k9 _ _ hP hpd, lt_line (by rw [List.length_map]; omega), hD9.upd hpd hpn, kput (k8.trans k9) hp, hpd, hpn, xs ++ [w], by rw [upd_same, List.map_append]; rfl, by rw [List.length_append, hxl]; rfl, hrx.snoc w0 w1⟩
    rintro mo H8 hp ⟨hD8, k8, hmd, hmn, mv, hM, hml, hmr⟩
    have mm : Mem m 3 mv := ⟨hml, hmr⟩
    have ht8 := DAt.keep (by obtain ⟨_, _, h, _⟩ := hD7; exact ⟨_, h⟩) k8 _ ht7
    have hG8 := k8 _ _ hG hid
    clear hp hmn hD7 ht7 k8 hG
    walk_at "x"
    refine ⟨d, .ref t, .int (m : Int), .tuple (bs.map snD), rfl, ht8, src_sh2, .int _, (fun h => by rw [sourceD_iff.mpr ⟨bs, rfl, ok⟩] at h; cases h), (fun _ hb => by rw [modI m2 m9] at hb; cases hb), fun ns' m' e ok' em _ _ => ⟨fun hc => ?_, fun _ p L as S H9 hL0 s6 hP hco okp => ?_⟩⟩
    · obtain rfl : bs = ns' := sns_inj (PyData.tuple.inj e)
      omega
    obtain rfl : bs = ns' := sns_inj (PyData.tuple.inj e)
    obtain rfl : m = m' := by injection em with em; omega
    have hLd : L ≠ d := fun e => hD8.ne (e ▸ hL0)
    have hD9 := hD8.same s6
    have ht9 := DAt.same s6 _ ht8
    have hG9 := s6 _ _ hG8
    have hM9 := s6 _ _ hM
    have n60 := needF_60 ok
    clear hD8 ht8 hG8 hM s6
    walk_at "x"
    refine ⟨d, t, io, bs, m, gs, rfl, ht9, ok, m2, m9, hG9, by have := mi.len; omega, fun HA sA => ?_⟩
    have hDA := hD9.same sA
    have hPA := hP.same sA
    have hGA := sA _ _ hG9
    have hMA := sA _ _ hM9
    have hval : ((runF m gs S mv).getD 0 0 - mv.getD 0 0) % (m : Int) = valF m gs bs := by
      obtain ⟨x, y, z, rfl⟩ := mem3 mm
      rw [hco.eff gs _ mi mm]
      show ((x + valF m gs bs) % (m : Int) - x) % (m : Int) = valF m gs bs
      have hr := vals_rg (m := (m : Int)) (by omega) (gs := gs) bs
      have hvl : (valsF m gs bs).length = bs.length := scanF_len
      have o1 := ok.l1
      have hb := rg_get hr (i := bs.length - 1) (by rw [hvl]; omega)
      exact Cg.small (Cg.trans (Cg.add (c := -x) (d := -x) Cg.md Cg.rfl') ⟨0, by rw [Int.mul_zero]; show x + valF (m : Int) gs bs + -x - valF (m : Int) gs bs = 0; omega⟩) hb.1 hb.2
    walk_at "x"
    refine ⟨p, L, mo, io, as, S, m, 3, needF bs, mv, gs, _, rfl, hPA, okp, hMA, hGA, mm, mi, hval, fun HB sB => ?_⟩
    have hDB := hDA.same sB
    clear hDA hPA hGA hMA hD9 hP hG9 hM9 ht9 sA sB
    walk_at "x"
    walk_at "f"
    refine ⟨d, nn, 12, rfl, by decide, hDB, ?_⟩
    rintro _ HC ⟨D, L2, as2, ss2, m', c, i, rfl, hMd, _⟩ hDC _
    walk_at "x"
    refine ⟨d, nn, D, L2, as2, ss2, m', c, i, rfl, hMd, hDC, fun mo2 mv2 HE _ hmod hmo mm2 hDE hkE => ?_⟩
    have hMd := hMd.keep hDC hkE
    walk_at "x"
    refine ⟨d, nn, D, L2, as2, ss2, m', c, i, rfl, hMd, hDE, fun io2 iv2 HF _ hiod hio mi2 hDF hkF => ?_⟩
    have hMd := hMd.keep hDE hkF
    have hmo := hkF _ _ hmo hmod
    clear hDB hDC hkE hDE hkF
    walk_at "x"
    refine ⟨d, D, L2, mo2, io2, as2, ss2, m', c, i, mv2, iv2, rfl, hMd, hmo, hio, mm2, mi2, fun la HG hlG sG hla => ?_⟩
    have hlad := hDF.new hlG
    have hMd := hMd.same sG
    have hDG := hDF.same sG
    have hmo := sG _ _ hmo
    have hio := sG _ _ hio
    have ok2 := hMd.ok
    have c1 := ok2.c1
    have c60 := ok2.c60
    have i60 := ok2.i60
    have mlen := mm2.len
    have ilen := mi2.len
    clear hDF sG hlG
    walk_at "x"
    refine ⟨by show 1 ≤ sizeLine; decide, fun w0 hw0 => ?_⟩
    have sH := same_upd (o := .lst [V.int 0]) hw0
    have e0 : (upd HG w0 (.lst [V.int 0])) w0 = some (.lst [V.int 0]) := upd_same
    generalize upd HG w0 (.lst [V.int 0]) = HH at sH e0
    walk_at "x"
    refine x_cat (sH _ _ hmo) e0 (by rw [List.length_map]; show _ + 1 ≤ _; omega) fun w1 hw1 => ?_
    have sI := sH.trans (same_upd (o := .lst (mv2.map V.int ++ [V.int 0])) hw1)
    have e1 : (upd HH w1 (.lst (mv2.map V.int ++ [V.int 0]))) w1 = some (.lst (mv2.map V.int ++ [V.int 0])) := upd_same
    generalize upd HH w1 (.lst (mv2.map V.int ++ [V.int 0])) = HI at sI e1
    walk_at "x"
    refine x_sl ?_
    walk_at "x"
    refine ⟨(1 : Int), rfl, ?_⟩
    refine x_noPart ?_
    refine x_cutL (sq_of (sI _ _ hmo)) fun w2 hw2 => ?_
    rw [show cutV (mv2.map V.int) (some 1) none = (mv2.map V.int).drop 1 from cutV_from (k := 1) (by rw [List.length_map, mlen]; exact c1)]
    have u2 := same_upd (o := .lst ((mv2.map V.int).drop 1)) hw2
    have e2 : (upd HI w2 (.lst ((mv2.map V.int).drop 1))) w2 = some (.lst ((mv2.map V.int).drop 1)) := upd_same
    have e1 := u2 _ _ e1
    have sJ := sI.trans u2
    generalize upd HI w2 (.lst ((mv2.map V.int).drop 1)) = HJ at sJ e1 e2
    walk_at "x"
    refine x_dgVC rfl (sJ _ _ hMd.dk) mdl_m ?_
    walk_at "x"
    refine ⟨by show 1 ≤ sizeLine; decide, fun w3 hw3 => ?_⟩
    have u3 := same_upd (o := .lst [V.int (m' : Int)]) hw3
    have e3 : (upd HJ w3 (.lst [V.int (m' : Int)])) w3 = some (.lst [V.int (m' : Int)]) := upd_same
    have e1 := u3 _ _ e1
    have e2 := u3 _ _ e2
    have sK := sJ.trans u3
    generalize upd HJ w3 (.lst [V.int (m' : Int)]) = HK at sK e1 e2 e3
    walk_at "x"
    refine x_sl ?_
    walk_at "x"
    refine ⟨(1 : Int), rfl, ?_⟩
    refine x_noPart ?_
    refine x_cutL (sq_of (sK _ _ hmo)) fun w4 hw4 => ?_
    rw [show cutV (mv2.map V.int) (some 1) none = (mv2.map V.int).drop 1 from cutV_from (k := 1) (by rw [List.length_map, mlen]; exact c1)]
    have u4 := same_upd (o := .lst ((mv2.map V.int).drop 1)) hw4
    have e4 : (upd HK w4 (.lst ((mv2.map V.int).drop 1))) w4 = some (.lst ((mv2.map V.int).drop 1)) := upd_same
    have e1 := u4 _ _ e1
    have e2 := u4 _ _ e2
    have e3 := u4 _ _ e3
    have sL := sK.trans u4
    generalize upd HK w4 (.lst ((mv2.map V.int).drop 1)) = HL at sL e1 e2 e3 e4
    walk_at "x"
    refine x_cat e3 e4 (by rw [List.length_drop, List.length_map, mlen]; show 1 + _ ≤ _; omega) fun w5 hw5 => ?_
    have u5 := same_upd (o := .lst ([V.int (m' : Int)] ++ (mv2.map V.int).drop 1)) hw5
    have e5 : (upd HL w5 (.lst ([V.int (m' : Int)] ++ (mv2.map V.int).drop 1))) w5 = some (.lst (V.int (m' : Int) :: (mv2.map V.int).drop 1)) := upd_same
    have e1 := u5 _ _ e1
    have e2 := u5 _ _ e2
    have sM := sL.trans u5
    generalize upd HL w5 (.lst ([V.int (m' : Int)] ++ (mv2.map V.int).drop 1)) = HM at sM e1 e2 e5
    walk_at "x"
    refine x_tupL (sq_of (sM _ _ hmo)) fun w6 hw6 => ?_
    have u6 := same_upd (o := .tup (mv2.map V.int)) hw6
    have e6 : (upd HM w6 (.tup (mv2.map V.int))) w6 = some (.tup (mv2.map V.int)) := upd_same
    have e1 := u6 _ _ e1
    have e2 := u6 _ _ e2
    have e5 := u6 _ _ e5
    have sN := sM.trans u6
    generalize upd HM w6 (.tup (mv2.map V.int)) = HN at sN e1 e2 e5 e6
    walk_at "x"
    refine ⟨by show 4 ≤ sizeLine; decide, fun w7 hw7 => ?_⟩
    have u7 := same_upd (o := .lst [V.ref w1, V.ref w2, V.ref w5, V.ref w6]) hw7
    have e7 : (upd HN w7 (.lst [V.ref w1, V.ref w2, V.ref w5, V.ref w6])) w7 = some (.lst [V.ref w1, V.ref w2, V.ref w5, V.ref w6]) := upd_same
    have e1 := u7 _ _ e1
    have e2 := u7 _ _ e2
    have e5 := u7 _ _ e5
    have e6 := u7 _ _ e6
    have sO := sN.trans u7
    generalize upd HN w7 (.lst [V.ref w1, V.ref w2, V.ref w5, V.ref w6]) = HO2 at sO e1 e2 e5 e6 e7
    have hD7 := hDG.same sO
    have intsN : ∀ {lw : Addr} {xs : List V}, HO2 lw = some (.lst xs) → lw ≠ d → xs.length ≤ 200 → (∀ x, x ∈ xs → ∃ z, x = .int z) → NumsAt d HO2 (.ref lw) (some xs) := fun h hd hn hi => .lst _ _ h hd hn fun x hx => by
      obtain ⟨z, rfl⟩ := hi x hx
      exact ⟨.int _, fun e => by cases e⟩
    have iall : ∀ x, x ∈ mv2.map V.int → ∃ z, x = .int z := fun x hx => by
      obtain ⟨z, _, rfl⟩ := List.mem_map.mp hx
      exact ⟨z, rfl⟩
    have nd : ∀ {lw : Addr} {Hx : Hp}, Same HG Hx → Hx lw = none → lw ≠ d := fun s h => (hDG.same s).new h
    have N1 : NumsAt d HO2 (.ref w1) (some (mv2.map V.int ++ [V.int 0])) := intsN e1 (nd sH hw1) (by rw [List.length_append, List.length_map, mlen]; show _ + 1 ≤ _; omega) fun x hx => by
      rcases List.mem_append.mp hx with hx | hx
      · exact iall x hx
      · exact ⟨0, List.mem_singleton.mp hx⟩
    have N2 : NumsAt d HO2 (.ref w2) (some ((mv2.map V.int).drop 1)) := intsN e2 (nd sI hw2) (by rw [List.length_drop, List.length_map, mlen]; omega) fun x hx => iall x (List.mem_of_mem_drop hx)
    have N5 : NumsAt d HO2 (.ref w5) (some (V.int (m' : Int) :: (mv2.map V.int).drop 1)) := intsN e5 (nd sL hw5) (by rw [List.length_cons, List.length_drop, List.length_map, mlen]; omega) fun x hx => by
      rcases List.mem_cons.mp hx with hx | hx
      · exact ⟨_, hx⟩
      · exact iall x (List.mem_of_mem_drop hx)
    have N6 : NumsAt d HO2 (.ref w6) none := .tup _ _ e6
    have h7d := nd sN hw7
    have hMd := hMd.same sO
    have hmo := sO _ _ hmo
    have hio := sO _ _ hio
    have hla := sO _ _ hla
    clear sH e0 sI u2 sJ u3 e3 sK u4 e4 sL u5 sM u6 sN u7 sO hDG iall intsN nd e1 e2 e5 e6
    walk_at "x"
    refine ⟨d, nn, rfl, hD7, ?_⟩
    rintro _ HP ⟨wd, rfl, wd0, wd1⟩ hDP kP
    have e7 := kP _ _ e7 h7d
    have hMd := hMd.keep hD7 kP
    have hmo := kP _ _ hmo hmod
    have hio := kP _ _ hio hiod
    have hla := kP _ _ hla hlad
    have N1 := N1.keep hD7 kP
    have N2 := N2.keep hD7 kP
    have N5 := N5.keep hD7 kP
    have N6 := N6.keep hD7 kP
    walk_at "x"
    obtain ⟨gw, hv, hm2⟩ := at_lt (xs := [V.ref w1, V.ref w2, V.ref w5, V.ref w6]) (i := wd % 4) (Int.emod_nonneg _ (by decide)) (Int.emod_lt_of_pos wd (show (0 : Int) < 4 by decide))
    refine x_ixL (sq_of e7) hv ?_
    obtain ⟨o, hN, hbo⟩ : ∃ o, NumsAt d HP gw o ∧ belF o (c : Int) (m' : Int) = false := by
      simp only [List.mem_cons, List.not_mem_nil, or_false] at hm2
      rcases hm2 with rfl | rfl | rfl | rfl
      · exact ⟨_, N1, bel_len (by rw [List.length_append, List.length_map, mlen]; show ((c + 1 : Nat) : Int) ≠ (c : Int); omega)⟩
      · exact ⟨_, N2, bel_len (by rw [List.length_drop, List.length_map, mlen]; omega)⟩
      · exact ⟨_, N5, bel_first⟩
      · exact ⟨_, N6, rfl⟩
    clear N1 N2 N5 N6 hm2 hv e7 hD7 kP h7d
    walk_at "x"
    refine ⟨d, D, L2, as2, ss2, m', c, i, rfl, hMd, fun p2 L3 HQ _ sQ hP2 => ?_⟩
    walk_at "x"
    refine ⟨d, p2, L3, as2, ss2, m', c, i, gw, .ref io2, _, _, rfl, hP2, ok2, hN.same sQ, NumsAt.ints (sQ _ _ hio) hiod (by omega), (by rw [hbo, Bool.false_and]), fun HR sR => ?_⟩
    have sR := sQ.trans sR
    have hMd := hMd.same sR
    have hmo := sR _ _ hmo
    have hio := sR _ _ hio
    have hla := sR _ _ hla
    clear hP2 sQ hN sR
    walk_at "x"
    walk_at "f"
    refine ⟨d, D, L2, as2, ss2, m', c, i, rfl, hMd, fun p3 L4 HS _ sS hP3 => ?_⟩
    walk_at "x"
    refine ⟨by show 1 ≤ sizeLine; decide, fun z0 hz0 => ?_⟩
    have sT := sS.trans (same_upd (o := .lst [V.int 0]) hz0)
    have hP3 := hP3.same (same_upd (o := .lst [V.int 0]) hz0)
    have ez : (upd HS z0 (.lst [V.int 0])) z0 = some (.lst [V.int 0]) := upd_same
    generalize upd HS z0 (.lst [V.int 0]) = HT at sT ez hP3
    walk_at "x"
    refine x_cat (sT _ _ hio) ez (by rw [List.length_map]; show _ + 1 ≤ _; omega) fun z1 hz1 => ?_
    have uU := same_upd (o := .lst (iv2.map V.int ++ [V.int 0])) hz1
    have eU : (upd HT z1 (.lst (iv2.map V.int ++ [V.int 0]))) z1 = some (.lst (iv2.map V.int ++ [V.int 0])) := upd_same
    have sU := sT.trans uU
    have hP3 := hP3.same uU
    obtain ⟨d3, n1, n2⟩ : ∃ d3 : Addr, z1 ≠ d3 ∧ mo2 ≠ d3 := ⟨z1 + mo2 + 1, Nat.ne_of_lt (Nat.lt_succ_of_le (Nat.le_add_right z1 mo2)), Nat.ne_of_lt (Nat.lt_succ_of_le (Nat.le_add_left mo2 z1))⟩
    generalize upd HT z1 (.lst (iv2.map V.int ++ [V.int 0])) = HU at sU eU hP3
    walk_at "x"
    refine ⟨d3, p3, L4, as2, ss2, m', c, i, .ref mo2, .ref z1, _, _, rfl, hP3, ok2, NumsAt.ints (sU _ _ hmo) n2 (by omega), .lst z1 _ eU n1 (by rw [List.length_append, List.length_map, ilen]; show _ + 1 ≤ _; omega) (fun x hx => ?_), ?_, fun HV sV => ?_⟩
    · rcases List.mem_append.mp hx with hx | hx
      · obtain ⟨z, _, rfl⟩ := List.mem_map.mp hx
        exact ⟨.int _, fun e => by cases e⟩
      · rw [List.mem_singleton.mp hx]
        exact ⟨.int _, fun e => by cases e⟩
    · rw [bel_len (xs := iv2.map V.int ++ [V.int 0]) (by rw [List.length_append, List.length_map, ilen]; show ((i + 1 : Nat) : Int) ≠ (i : Int); omega), Bool.and_false]
    have sV := sU.trans sV
    have hMd := hMd.same sV
    have hmo := sV _ _ hmo
    have hio := sV _ _ hio
    have hla := sV _ _ hla
    clear hP3 sS sT uU sU sV ez eU
    walk_at "x"
    walk_at "f"
    refine ⟨d, D, L2, as2, ss2, m', c, i, rfl, hMd, fun p4 L5 HW _ sW hP4 => ?_⟩
    have hrl := runF_mem (inp := iv2) (show 1 ≤ m' from Nat.le_trans (by decide) ok2.m2) mm2 ok2.ok
    have m2' := ok2.m2
    walk_at "x"
    refine x_ixL (sq_of (sW _ _ hla)) (atI_nat (j := 0) (int_get (by rw [hrl.len]; exact c1))) ?_
    walk_at "x"
    refine x_ixL (sq_of (sW _ _ hmo)) (atI_nat (j := 0) (int_get (by rw [mlen]; exact c1))) ?_
    walk_at "x"
    refine x_dgVC rfl (sW _ _ hMd.dk) mdl_m ?_
    walk_at "x"
    exact ⟨p4, L5, mo2, io2, as2, ss2, m', c, i, mv2, iv2, _, rfl, hP4, ok2, sW _ _ hmo, sW _ _ hio, mm2, mi2, rfl, fun HX _ => q HX⟩

theorem all_mk {l : PySem.W.OpenLaw} {w : World} {K : PySem.W.Frag} {h : Heap} {mg : Str → Option Value} {fa : Addr} (X : K.In h) (G : h.Ns mainGlobals mg) (hfa : mg "law" = some (.ref fa))
    {f0 : Addr} {od0 an0 : Option Addr} {sl0 : Array (Option Value)} {oc0 kV0 dc0 pm0 cd0 ct0 : Value}
    {f1 : Addr} {od1 an1 : Option Addr} {sl1 : Array (Option Value)} {oc1 kV1 dc1 pm1 cd1 ct1 : Value}
    {f2 : Addr} {od2 an2 : Option Addr} {sl2 : Array (Option Value)} {oc2 kV2 dc2 pm2 cd2 ct2 : Value}
    {f3 : Addr} {od3 an3 : Option Addr} {sl3 : Array (Option Value)} {oc3 kV3 dc3 pm3 cd3 ct3 : Value}
    {f4 : Addr} {od4 an4 : Option Addr} {sl4 : Array (Option Value)} {oc4 kV4 dc4 pm4 cd4 ct4 : Value}
    {f5 : Addr} {od5 an5 : Option Addr} {sl5 : Array (Option Value)} {oc5 kV5 dc5 pm5 cd5 ct5 : Value}
    {f6 : Addr} {od6 an6 : Option Addr} {sl6 : Array (Option Value)} {oc6 kV6 dc6 pm6 cd6 ct6 : Value}
    {f7 : Addr} {od7 an7 : Option Addr} {sl7 : Array (Option Value)} {oc7 kV7 dc7 pm7 cd7 ct7 : Value}
    {f8 : Addr} {od8 an8 : Option Addr} {sl8 : Array (Option Value)} {oc8 kV8 dc8 pm8 cd8 ct8 : Value}
    {f9 : Addr} {od9 an9 : Option Addr} {sl9 : Array (Option Value)} {oc9 kV9 dc9 pm9 cd9 ct9 : Value}
    {f10 : Addr} {od10 an10 : Option Addr} {sl10 : Array (Option Value)} {oc10 kV10 dc10 pm10 cd10 ct10 : Value}
    {f11 : Addr} {od11 an11 : Option Addr} {sl11 : Array (Option Value)} {oc11 kV11 dc11 pm11 cd11 ct11 : Value}
    {f12 : Addr} {od12 an12 : Option Addr} {sl12 : Array (Option Value)} {oc12 kV12 dc12 pm12 cd12 ct12 : Value}
    {f13 : Addr} {od13 an13 : Option Addr} {sl13 : Array (Option Value)} {oc13 kV13 dc13 pm13 cd13 ct13 : Value}
    {f14 : Addr} {od14 an14 : Option Addr} {sl14 : Array (Option Value)} {oc14 kV14 dc14 pm14 cd14 ct14 : Value}
    {f15 : Addr} {od15 an15 : Option Addr} {sl15 : Array (Option Value)} {oc15 kV15 dc15 pm15 cd15 ct15 : Value}
    {f16 : Addr} {od16 an16 : Option Addr} {sl16 : Array (Option Value)} {oc16 kV16 dc16 pm16 cd16 ct16 : Value}
    {f17 : Addr} {od17 an17 : Option Addr} {sl17 : Array (Option Value)} {oc17 kV17 dc17 pm17 cd17 ct17 : Value}
    {f18 : Addr} {od18 an18 : Option Addr} {sl18 : Array (Option Value)} {oc18 kV18 dc18 pm18 cd18 ct18 : Value}
    {f19 : Addr} {od19 an19 : Option Addr} {sl19 : Array (Option Value)} {oc19 kV19 dc19 pm19 cd19 ct19 : Value}
    {f20 : Addr} {od20 an20 : Option Addr} {sl20 : Array (Option Value)} {oc20 kV20 dc20 pm20 cd20 ct20 : Value}
    {f21 : Addr} {od21 an21 : Option Addr} {sl21 : Array (Option Value)} {oc21 kV21 dc21 pm21 cd21 ct21 : Value}
    {f22 : Addr} {od22 an22 : Option Addr} {sl22 : Array (Option Value)} {oc22 kV22 dc22 pm22 cd22 ct22 : Value}
    {f23 : Addr} {od23 an23 : Option Addr} {sl23 : Array (Option Value)} {oc23 kV23 dc23 pm23 cd23 ct23 : Value}
    {f24 : Addr} {od24 an24 : Option Addr} {sl24 : Array (Option Value)} {oc24 kV24 dc24 pm24 cd24 ct24 : Value}
    {f25 : Addr} {od25 an25 : Option Addr} {sl25 : Array (Option Value)} {oc25 kV25 dc25 pm25 cd25 ct25 : Value}
    {f26 : Addr} {od26 an26 : Option Addr} {sl26 : Array (Option Value)} {oc26 kV26 dc26 pm26 cd26 ct26 : Value}
    {f27 : Addr} {od27 an27 : Option Addr} {sl27 : Array (Option Value)} {oc27 kV27 dc27 pm27 cd27 ct27 : Value}
    {f28 : Addr} {od28 an28 : Option Addr} {sl28 : Array (Option Value)} {oc28 kV28 dc28 pm28 cd28 ct28 : Value}
    {f29 : Addr} {od29 an29 : Option Addr} {sl29 : Array (Option Value)} {oc29 kV29 dc29 pm29 cd29 ct29 : Value}
    {f30 : Addr} {od30 an30 : Option Addr} {sl30 : Array (Option Value)} {oc30 kV30 dc30 pm30 cd30 ct30 : Value}
    {f31 : Addr} {od31 an31 : Option Addr} {sl31 : Array (Option Value)} {oc31 kV31 dc31 pm31 cd31 ct31 : Value}
    {f32 : Addr} {od32 an32 : Option Addr} {sl32 : Array (Option Value)} {oc32 kV32 dc32 pm32 cd32 ct32 : Value}
    {f33 : Addr} {od33 an33 : Option Addr} {sl33 : Array (Option Value)} {oc33 kV33 dc33 pm33 cd33 ct33 : Value}
    {f34 : Addr} {od34 an34 : Option Addr} {sl34 : Array (Option Value)} {oc34 kV34 dc34 pm34 cd34 ct34 : Value}
    {f35 : Addr} {od35 an35 : Option Addr} {sl35 : Array (Option Value)} {oc35 kV35 dc35 pm35 cd35 ct35 : Value}
    {f36 : Addr} {od36 an36 : Option Addr} {sl36 : Array (Option Value)} {oc36 kV36 dc36 pm36 cd36 ct36 : Value}
    {f37 : Addr} {od37 an37 : Option Addr} {sl37 : Array (Option Value)} {oc37 kV37 dc37 pm37 cd37 ct37 : Value}
    {f38 : Addr} {od38 an38 : Option Addr} {sl38 : Array (Option Value)} {oc38 kV38 dc38 pm38 cd38 ct38 : Value}
    {f39 : Addr} {od39 an39 : Option Addr} {sl39 : Array (Option Value)} {oc39 kV39 dc39 pm39 cd39 ct39 : Value}
    {f40 : Addr} {od40 an40 : Option Addr} {sl40 : Array (Option Value)} {oc40 kV40 dc40 pm40 cd40 ct40 : Value}
    {f41 : Addr} {od41 an41 : Option Addr} {sl41 : Array (Option Value)} {oc41 kV41 dc41 pm41 cd41 ct41 : Value}
    {f42 : Addr} {od42 an42 : Option Addr} {sl42 : Array (Option Value)} {oc42 kV42 dc42 pm42 cd42 ct42 : Value}
    {f43 : Addr} {od43 an43 : Option Addr} {sl43 : Array (Option Value)} {oc43 kV43 dc43 pm43 cd43 ct43 : Value}
    {f44 : Addr} {od44 an44 : Option Addr} {sl44 : Array (Option Value)} {oc44 kV44 dc44 pm44 cd44 ct44 : Value}
    {f45 : Addr} {od45 an45 : Option Addr} {sl45 : Array (Option Value)} {oc45 kV45 dc45 pm45 cd45 ct45 : Value}
    {f46 : Addr} {od46 an46 : Option Addr} {sl46 : Array (Option Value)} {oc46 kV46 dc46 pm46 cd46 ct46 : Value}
    {f47 : Addr} {od47 an47 : Option Addr} {sl47 : Array (Option Value)} {oc47 kV47 dc47 pm47 cd47 ct47 : Value}
    {f48 : Addr} {od48 an48 : Option Addr} {sl48 : Array (Option Value)} {oc48 kV48 dc48 pm48 cd48 ct48 : Value}
    {f49 : Addr} {od49 an49 : Option Addr} {sl49 : Array (Option Value)} {oc49 kV49 dc49 pm49 cd49 ct49 : Value}
    {f50 : Addr} {od50 an50 : Option Addr} {sl50 : Array (Option Value)} {oc50 kV50 dc50 pm50 cd50 ct50 : Value}
    {f51 : Addr} {od51 an51 : Option Addr} {sl51 : Array (Option Value)} {oc51 kV51 dc51 pm51 cd51 ct51 : Value}
    {f52 : Addr} {od52 an52 : Option Addr} {sl52 : Array (Option Value)} {oc52 kV52 dc52 pm52 cd52 ct52 : Value}
    {f53 : Addr} {od53 an53 : Option Addr} {sl53 : Array (Option Value)} {oc53 kV53 dc53 pm53 cd53 ct53 : Value}
    {f54 : Addr} {od54 an54 : Option Addr} {sl54 : Array (Option Value)} {oc54 kV54 dc54 pm54 cd54 ct54 : Value}
    {f55 : Addr} {od55 an55 : Option Addr} {sl55 : Array (Option Value)} {oc55 kV55 dc55 pm55 cd55 ct55 : Value}
    {f56 : Addr} {od56 an56 : Option Addr} {sl56 : Array (Option Value)} {oc56 kV56 dc56 pm56 cd56 ct56 : Value}
    {f57 : Addr} {od57 an57 : Option Addr} {sl57 : Array (Option Value)} {oc57 kV57 dc57 pm57 cd57 ct57 : Value}
    {f58 : Addr} {od58 an58 : Option Addr} {sl58 : Array (Option Value)} {oc58 kV58 dc58 pm58 cd58 ct58 : Value}
    {f59 : Addr} {od59 an59 : Option Addr} {sl59 : Array (Option Value)} {oc59 kV59 dc59 pm59 cd59 ct59 : Value}
    {f60 : Addr} {od60 an60 : Option Addr} {sl60 : Array (Option Value)} {oc60 kV60 dc60 pm60 cd60 ct60 : Value}
    {f61 : Addr} {od61 an61 : Option Addr} {sl61 : Array (Option Value)} {oc61 kV61 dc61 pm61 cd61 ct61 : Value}
    {f62 : Addr} {od62 an62 : Option Addr} {sl62 : Array (Option Value)} {oc62 kV62 dc62 pm62 cd62 ct62 : Value}
    {f63 : Addr} {od63 an63 : Option Addr} {sl63 : Array (Option Value)} {oc63 kV63 dc63 pm63 cd63 ct63 : Value}
    {f64 : Addr} {od64 an64 : Option Addr} {sl64 : Array (Option Value)} {oc64 kV64 dc64 pm64 cd64 ct64 : Value}
    {f65 : Addr} {od65 an65 : Option Addr} {sl65 : Array (Option Value)} {oc65 kV65 dc65 pm65 cd65 ct65 : Value}
    {f66 : Addr} {od66 an66 : Option Addr} {sl66 : Array (Option Value)} {oc66 kV66 dc66 pm66 cd66 ct66 : Value}
    {f67 : Addr} {od67 an67 : Option Addr} {sl67 : Array (Option Value)} {oc67 kV67 dc67 pm67 cd67 ct67 : Value}
    {f68 : Addr} {od68 an68 : Option Addr} {sl68 : Array (Option Value)} {oc68 kV68 dc68 pm68 cd68 ct68 : Value}
    {f69 : Addr} {od69 an69 : Option Addr} {sl69 : Array (Option Value)} {oc69 kV69 dc69 pm69 cd69 ct69 : Value}
    {f70 : Addr} {od70 an70 : Option Addr} {sl70 : Array (Option Value)} {oc70 kV70 dc70 pm70 cd70 ct70 : Value}
    {f71 : Addr} {od71 an71 : Option Addr} {sl71 : Array (Option Value)} {oc71 kV71 dc71 pm71 cd71 ct71 : Value}
    {f72 : Addr} {od72 an72 : Option Addr} {sl72 : Array (Option Value)} {oc72 kV72 dc72 pm72 cd72 ct72 : Value}
    {f73 : Addr} {od73 an73 : Option Addr} {sl73 : Array (Option Value)} {oc73 kV73 dc73 pm73 cd73 ct73 : Value}
    {f74 : Addr} {od74 an74 : Option Addr} {sl74 : Array (Option Value)} {oc74 kV74 dc74 pm74 cd74 ct74 : Value}
    {C_Program : Addr}
    {E_BrimfulError : Addr}
    {E_BadSource : Addr}
    {E_BadStep : Addr}
    {E_TooLong : Addr}
    {E_BadMemory : Addr}
    {t_CELLS : Tok}
    {t_CONSTANTS_END : Tok}
    {t_GREATEST_MODULUS : Tok}
    {t_MOST_CELLS : Tok}
    {t_MOST_FACTORS : Tok}
    {t_MOST_INPUTS_nodes : Tok}
    {t_MOST_INPUTS_programs : Tok}
    {t_MOST_NODES : Tok}
    {t_MOST_STEPS : Tok}
    (aC_Program : PySem.W.nsIn K mainGlobals "Program" = some (some (.ref C_Program)))
    (pg_Program : PySem.W.plainGet K C_Program Str.empty = true) (hd_Program : PySem.W.hasDictIn K C_Program = true) (po_Program : PySem.W.plainOver K C_Program = true)
    (sa_Program : PySem.W.findIn K (.ref C_Program) "__setattr__" = some (some (.builtin "object.__setattr__"))) (mk_Program : PySem.W.makesIn K C_Program = true) (kc_Program : PySem.W.keepIn K (.ref C_Program) = true)
    (hnE : PySem.W.specialIn K (.builtin "object.__class__") "__get__" = some (some (.builtin "getset_descriptor.__get__"))) (htE : PySem.W.takesIn K (.builtin "object.__class__") = some true)
    (aE_BrimfulError : PySem.W.nsIn K mainGlobals "BrimfulError" = some (some (.ref E_BrimfulError))) (xE_BrimfulError : PySem.W.excIn K E_BrimfulError [.type "ValueError", .type "Exception", .type "BaseException", .type "object"] "ValueError.__new__" = true) (kE_BrimfulError : PySem.W.keepIn K (.ref E_BrimfulError) = true)
    (bE_BrimfulError : PySem.W.subIn K (.ref E_BrimfulError) (.type "BaseException") = some true) (tE_BrimfulError : PySem.W.typeIn K (.ref E_BrimfulError) = some (.type "type")) (dE_BrimfulError : PySem.W.hasDictIn K E_BrimfulError = true)
    (h1E_BrimfulError : PySem.W.findIn K (.ref E_BrimfulError) "__getattribute__" = some (some (.builtin "BaseException.__getattribute__"))) (h2E_BrimfulError : PySem.W.findIn K (.ref E_BrimfulError) "__getattr__" = some none) (h3E_BrimfulError : PySem.W.findIn K (.ref E_BrimfulError) "__class__" = some (some (.builtin "object.__class__"))) (h4E_BrimfulError : PySem.W.mroIn K E_BrimfulError (.type "object") = some true)
    (aE_BadSource : PySem.W.nsIn K mainGlobals "BadSource" = some (some (.ref E_BadSource))) (xE_BadSource : PySem.W.excIn K E_BadSource [.type "ValueError", .type "Exception", .type "BaseException", .type "object"] "ValueError.__new__" = true) (kE_BadSource : PySem.W.keepIn K (.ref E_BadSource) = true)
    (bE_BadSource : PySem.W.subIn K (.ref E_BadSource) (.type "BaseException") = some true) (tE_BadSource : PySem.W.typeIn K (.ref E_BadSource) = some (.type "type")) (dE_BadSource : PySem.W.hasDictIn K E_BadSource = true)
    (h1E_BadSource : PySem.W.findIn K (.ref E_BadSource) "__getattribute__" = some (some (.builtin "BaseException.__getattribute__"))) (h2E_BadSource : PySem.W.findIn K (.ref E_BadSource) "__getattr__" = some none) (h3E_BadSource : PySem.W.findIn K (.ref E_BadSource) "__class__" = some (some (.builtin "object.__class__"))) (h4E_BadSource : PySem.W.mroIn K E_BadSource (.type "object") = some true)
    (aE_BadStep : PySem.W.nsIn K mainGlobals "BadStep" = some (some (.ref E_BadStep))) (xE_BadStep : PySem.W.excIn K E_BadStep [.type "ValueError", .type "Exception", .type "BaseException", .type "object"] "ValueError.__new__" = true) (kE_BadStep : PySem.W.keepIn K (.ref E_BadStep) = true)
    (bE_BadStep : PySem.W.subIn K (.ref E_BadStep) (.type "BaseException") = some true) (tE_BadStep : PySem.W.typeIn K (.ref E_BadStep) = some (.type "type")) (dE_BadStep : PySem.W.hasDictIn K E_BadStep = true)
    (h1E_BadStep : PySem.W.findIn K (.ref E_BadStep) "__getattribute__" = some (some (.builtin "BaseException.__getattribute__"))) (h2E_BadStep : PySem.W.findIn K (.ref E_BadStep) "__getattr__" = some none) (h3E_BadStep : PySem.W.findIn K (.ref E_BadStep) "__class__" = some (some (.builtin "object.__class__"))) (h4E_BadStep : PySem.W.mroIn K E_BadStep (.type "object") = some true)
    (aE_TooLong : PySem.W.nsIn K mainGlobals "TooLong" = some (some (.ref E_TooLong))) (xE_TooLong : PySem.W.excIn K E_TooLong [.type "ValueError", .type "Exception", .type "BaseException", .type "object"] "ValueError.__new__" = true) (kE_TooLong : PySem.W.keepIn K (.ref E_TooLong) = true)
    (bE_TooLong : PySem.W.subIn K (.ref E_TooLong) (.type "BaseException") = some true) (tE_TooLong : PySem.W.typeIn K (.ref E_TooLong) = some (.type "type")) (dE_TooLong : PySem.W.hasDictIn K E_TooLong = true)
    (h1E_TooLong : PySem.W.findIn K (.ref E_TooLong) "__getattribute__" = some (some (.builtin "BaseException.__getattribute__"))) (h2E_TooLong : PySem.W.findIn K (.ref E_TooLong) "__getattr__" = some none) (h3E_TooLong : PySem.W.findIn K (.ref E_TooLong) "__class__" = some (some (.builtin "object.__class__"))) (h4E_TooLong : PySem.W.mroIn K E_TooLong (.type "object") = some true)
    (aE_BadMemory : PySem.W.nsIn K mainGlobals "BadMemory" = some (some (.ref E_BadMemory))) (xE_BadMemory : PySem.W.excIn K E_BadMemory [.type "ValueError", .type "Exception", .type "BaseException", .type "object"] "ValueError.__new__" = true) (kE_BadMemory : PySem.W.keepIn K (.ref E_BadMemory) = true)
    (bE_BadMemory : PySem.W.subIn K (.ref E_BadMemory) (.type "BaseException") = some true) (tE_BadMemory : PySem.W.typeIn K (.ref E_BadMemory) = some (.type "type")) (dE_BadMemory : PySem.W.hasDictIn K E_BadMemory = true)
    (h1E_BadMemory : PySem.W.findIn K (.ref E_BadMemory) "__getattribute__" = some (some (.builtin "BaseException.__getattribute__"))) (h2E_BadMemory : PySem.W.findIn K (.ref E_BadMemory) "__getattr__" = some none) (h3E_BadMemory : PySem.W.findIn K (.ref E_BadMemory) "__class__" = some (some (.builtin "object.__class__"))) (h4E_BadMemory : PySem.W.mroIn K E_BadMemory (.type "object") = some true)
    (sE_BrimfulError_BrimfulError : PySem.W.subIn K (.ref E_BrimfulError) (.ref E_BrimfulError) = some true)
    (sE_BrimfulError_BadSource : PySem.W.subIn K (.ref E_BrimfulError) (.ref E_BadSource) = some false)
    (sE_BrimfulError_BadStep : PySem.W.subIn K (.ref E_BrimfulError) (.ref E_BadStep) = some false)
    (sE_BrimfulError_TooLong : PySem.W.subIn K (.ref E_BrimfulError) (.ref E_TooLong) = some false)
    (sE_BrimfulError_BadMemory : PySem.W.subIn K (.ref E_BrimfulError) (.ref E_BadMemory) = some false)
    (sE_BadSource_BrimfulError : PySem.W.subIn K (.ref E_BadSource) (.ref E_BrimfulError) = some true)
    (sE_BadSource_BadSource : PySem.W.subIn K (.ref E_BadSource) (.ref E_BadSource) = some true)
    (sE_BadSource_BadStep : PySem.W.subIn K (.ref E_BadSource) (.ref E_BadStep) = some false)
    (sE_BadSource_TooLong : PySem.W.subIn K (.ref E_BadSource) (.ref E_TooLong) = some false)
    (sE_BadSource_BadMemory : PySem.W.subIn K (.ref E_BadSource) (.ref E_BadMemory) = some false)
    (sE_BadStep_BrimfulError : PySem.W.subIn K (.ref E_BadStep) (.ref E_BrimfulError) = some true)
    (sE_BadStep_BadSource : PySem.W.subIn K (.ref E_BadStep) (.ref E_BadSource) = some false)
    (sE_BadStep_BadStep : PySem.W.subIn K (.ref E_BadStep) (.ref E_BadStep) = some true)
    (sE_BadStep_TooLong : PySem.W.subIn K (.ref E_BadStep) (.ref E_TooLong) = some false)
    (sE_BadStep_BadMemory : PySem.W.subIn K (.ref E_BadStep) (.ref E_BadMemory) = some false)
    (sE_TooLong_BrimfulError : PySem.W.subIn K (.ref E_TooLong) (.ref E_BrimfulError) = some true)
    (sE_TooLong_BadSource : PySem.W.subIn K (.ref E_TooLong) (.ref E_BadSource) = some false)
    (sE_TooLong_BadStep : PySem.W.subIn K (.ref E_TooLong) (.ref E_BadStep) = some false)
    (sE_TooLong_TooLong : PySem.W.subIn K (.ref E_TooLong) (.ref E_TooLong) = some true)
    (sE_TooLong_BadMemory : PySem.W.subIn K (.ref E_TooLong) (.ref E_BadMemory) = some false)
    (sE_BadMemory_BrimfulError : PySem.W.subIn K (.ref E_BadMemory) (.ref E_BrimfulError) = some true)
    (sE_BadMemory_BadSource : PySem.W.subIn K (.ref E_BadMemory) (.ref E_BadSource) = some false)
    (sE_BadMemory_BadStep : PySem.W.subIn K (.ref E_BadMemory) (.ref E_BadStep) = some false)
    (sE_BadMemory_TooLong : PySem.W.subIn K (.ref E_BadMemory) (.ref E_TooLong) = some false)
    (sE_BadMemory_BadMemory : PySem.W.subIn K (.ref E_BadMemory) (.ref E_BadMemory) = some true)
    (a0 : PySem.W.nsIn K mainGlobals "is_below" = some (some (.ref f0)))
    (l0 : K.lookup f0 = some ⟨oc0, od0, .func (PySem.W.fnOf "is_below" "is_below" (defArgs s_is_below) (defBody s_is_below) (defScope s_is_below) .none kV0 dc0 pm0 an0 cd0 ct0), sl0⟩)
    (c0 : PySem.W.codeIn K cd0 "is_below" = true) (k0 : PySem.W.keepIn K (.ref f0) = true)
    (a1 : PySem.W.nsIn K mainGlobals "is_modulus" = some (some (.ref f1)))
    (l1 : K.lookup f1 = some ⟨oc1, od1, .func (PySem.W.fnOf "is_modulus" "is_modulus" (defArgs s_is_modulus) (defBody s_is_modulus) (defScope s_is_modulus) .none kV1 dc1 pm1 an1 cd1 ct1), sl1⟩)
    (c1 : PySem.W.codeIn K cd1 "is_modulus" = true) (k1 : PySem.W.keepIn K (.ref f1) = true)
    (a2 : PySem.W.nsIn K mainGlobals "are_numbers" = some (some (.ref f2)))
    (l2 : K.lookup f2 = some ⟨oc2, od2, .func (PySem.W.fnOf "are_numbers" "are_numbers" (defArgs s_are_numbers) (defBody s_are_numbers) (defScope s_are_numbers) .none kV2 dc2 pm2 an2 cd2 ct2), sl2⟩)
    (c2 : PySem.W.codeIn K cd2 "are_numbers" = true) (k2 : PySem.W.keepIn K (.ref f2) = true)
    (a3 : PySem.W.nsIn K mainGlobals "is_prime" = some (some (.ref f3)))
    (l3 : K.lookup f3 = some ⟨oc3, od3, .func (PySem.W.fnOf "is_prime" "is_prime" (defArgs s_is_prime) (defBody s_is_prime) (defScope s_is_prime) .none kV3 dc3 pm3 an3 cd3 ct3), sl3⟩)
    (c3 : PySem.W.codeIn K cd3 "is_prime" = true) (k3 : PySem.W.keepIn K (.ref f3) = true)
    (a4 : PySem.W.nsIn K mainGlobals "inverse_of" = some (some (.ref f4)))
    (l4 : K.lookup f4 = some ⟨oc4, od4, .func (PySem.W.fnOf "inverse_of" "inverse_of" (defArgs s_inverse_of) (defBody s_inverse_of) (defScope s_inverse_of) .none kV4 dc4 pm4 an4 cd4 ct4), sl4⟩)
    (c4 : PySem.W.codeIn K cd4 "inverse_of" = true) (k4 : PySem.W.keepIn K (.ref f4) = true)
    (a5 : PySem.W.nsIn K mainGlobals "interpolate" = some (some (.ref f5)))
    (l5 : K.lookup f5 = some ⟨oc5, od5, .func (PySem.W.fnOf "interpolate" "interpolate" (defArgs s_interpolate) (defBody s_interpolate) (defScope s_interpolate) .none kV5 dc5 pm5 an5 cd5 ct5), sl5⟩)
    (c5 : PySem.W.codeIn K cd5 "interpolate" = true) (k5 : PySem.W.keepIn K (.ref f5) = true)
    (a6 : PySem.W.nsIn K mainGlobals "_weighted" = some (some (.ref f6)))
    (l6 : K.lookup f6 = some ⟨oc6, od6, .func (PySem.W.fnOf "_weighted" "_weighted" (defArgs s_weighted) (defBody s_weighted) (defScope s_weighted) .none kV6 dc6 pm6 an6 cd6 ct6), sl6⟩)
    (c6 : PySem.W.codeIn K cd6 "_weighted" = true) (k6 : PySem.W.keepIn K (.ref f6) = true)
    (a7 : PySem.W.nsIn K mainGlobals "_shares" = some (some (.ref f7)))
    (l7 : K.lookup f7 = some ⟨oc7, od7, .func (PySem.W.fnOf "_shares" "_shares" (defArgs s_shares) (defBody s_shares) (defScope s_shares) .none kV7 dc7 pm7 an7 cd7 ct7), sl7⟩)
    (c7 : PySem.W.codeIn K cd7 "_shares" = true) (k7 : PySem.W.keepIn K (.ref f7) = true)
    (a8 : PySem.W.nsIn K mainGlobals "products_of_differences" = some (some (.ref f8)))
    (l8 : K.lookup f8 = some ⟨oc8, od8, .func (PySem.W.fnOf "products_of_differences" "products_of_differences" (defArgs s_products_of_differences) (defBody s_products_of_differences) (defScope s_products_of_differences) .none kV8 dc8 pm8 an8 cd8 ct8), sl8⟩)
    (c8 : PySem.W.codeIn K cd8 "products_of_differences" = true) (k8 : PySem.W.keepIn K (.ref f8) = true)
    (a9 : PySem.W.nsIn K mainGlobals "is_step" = some (some (.ref f9)))
    (l9 : K.lookup f9 = some ⟨oc9, od9, .func (PySem.W.fnOf "is_step" "is_step" (defArgs s_is_step) (defBody s_is_step) (defScope s_is_step) .none kV9 dc9 pm9 an9 cd9 ct9), sl9⟩)
    (c9 : PySem.W.codeIn K cd9 "is_step" = true) (k9 : PySem.W.keepIn K (.ref f9) = true)
    (a10 : PySem.W.nsIn K mainGlobals "_are_factors" = some (some (.ref f10)))
    (l10 : K.lookup f10 = some ⟨oc10, od10, .func (PySem.W.fnOf "_are_factors" "_are_factors" (defArgs s_are_factors) (defBody s_are_factors) (defScope s_are_factors) .none kV10 dc10 pm10 an10 cd10 ct10), sl10⟩)
    (c10 : PySem.W.codeIn K cd10 "_are_factors" = true) (k10 : PySem.W.keepIn K (.ref f10) = true)
    (a11 : PySem.W.nsIn K mainGlobals "_is_factor" = some (some (.ref f11)))
    (l11 : K.lookup f11 = some ⟨oc11, od11, .func (PySem.W.fnOf "_is_factor" "_is_factor" (defArgs s_is_factor) (defBody s_is_factor) (defScope s_is_factor) .none kV11 dc11 pm11 an11 cd11 ct11), sl11⟩)
    (c11 : PySem.W.codeIn K cd11 "_is_factor" = true) (k11 : PySem.W.keepIn K (.ref f11) = true)
    (a12 : PySem.W.nsIn K mainGlobals "_are_three_cells" = some (some (.ref f12)))
    (l12 : K.lookup f12 = some ⟨oc12, od12, .func (PySem.W.fnOf "_are_three_cells" "_are_three_cells" (defArgs s_are_three_cells) (defBody s_are_three_cells) (defScope s_are_three_cells) .none kV12 dc12 pm12 an12 cd12 ct12), sl12⟩)
    (c12 : PySem.W.codeIn K cd12 "_are_three_cells" = true) (k12 : PySem.W.keepIn K (.ref f12) = true)
    (a13 : PySem.W.nsIn K mainGlobals "_is_sign" = some (some (.ref f13)))
    (l13 : K.lookup f13 = some ⟨oc13, od13, .func (PySem.W.fnOf "_is_sign" "_is_sign" (defArgs s_is_sign) (defBody s_is_sign) (defScope s_is_sign) .none kV13 dc13 pm13 an13 cd13 ct13), sl13⟩)
    (c13 : PySem.W.codeIn K cd13 "_is_sign" = true) (k13 : PySem.W.keepIn K (.ref f13) = true)
    (a14 : PySem.W.nsIn K mainGlobals "is_table" = some (some (.ref f14)))
    (l14 : K.lookup f14 = some ⟨oc14, od14, .func (PySem.W.fnOf "is_table" "is_table" (defArgs s_is_table) (defBody s_is_table) (defScope s_is_table) .none kV14 dc14 pm14 an14 cd14 ct14), sl14⟩)
    (c14 : PySem.W.codeIn K cd14 "is_table" = true) (k14 : PySem.W.keepIn K (.ref f14) = true)
    (a15 : PySem.W.nsIn K mainGlobals "_is_row" = some (some (.ref f15)))
    (l15 : K.lookup f15 = some ⟨oc15, od15, .func (PySem.W.fnOf "_is_row" "_is_row" (defArgs s_is_row) (defBody s_is_row) (defScope s_is_row) .none kV15 dc15 pm15 an15 cd15 ct15), sl15⟩)
    (c15 : PySem.W.codeIn K cd15 "_is_row" = true) (k15 : PySem.W.keepIn K (.ref f15) = true)
    (a16 : PySem.W.nsIn K mainGlobals "changes" = some (some (.ref f16)))
    (l16 : K.lookup f16 = some ⟨oc16, od16, .func (PySem.W.fnOf "changes" "changes" (defArgs s_changes) (defBody s_changes) (defScope s_changes) .none kV16 dc16 pm16 an16 cd16 ct16), sl16⟩)
    (c16 : PySem.W.codeIn K cd16 "changes" = true) (k16 : PySem.W.keepIn K (.ref f16) = true)
    (a17 : PySem.W.nsIn K mainGlobals "performed" = some (some (.ref f17)))
    (l17 : K.lookup f17 = some ⟨oc17, od17, .func (PySem.W.fnOf "performed" "performed" (defArgs s_performed) (defBody s_performed) (defScope s_performed) .none kV17 dc17 pm17 an17 cd17 ct17), sl17⟩)
    (c17 : PySem.W.codeIn K cd17 "performed" = true) (k17 : PySem.W.keepIn K (.ref f17) = true)
    (a18 : PySem.W.nsIn K mainGlobals "_product_of" = some (some (.ref f18)))
    (l18 : K.lookup f18 = some ⟨oc18, od18, .func (PySem.W.fnOf "_product_of" "_product_of" (defArgs s_product_of) (defBody s_product_of) (defScope s_product_of) .none kV18 dc18 pm18 an18 cd18 ct18), sl18⟩)
    (c18 : PySem.W.codeIn K cd18 "_product_of" = true) (k18 : PySem.W.keepIn K (.ref f18) = true)
    (a19 : PySem.W.nsIn K mainGlobals "inverse_step" = some (some (.ref f19)))
    (l19 : K.lookup f19 = some ⟨oc19, od19, .func (PySem.W.fnOf "inverse_step" "inverse_step" (defArgs s_inverse_step) (defBody s_inverse_step) (defScope s_inverse_step) .none kV19 dc19 pm19 an19 cd19 ct19), sl19⟩)
    (c19 : PySem.W.codeIn K cd19 "inverse_step" = true) (k19 : PySem.W.keepIn K (.ref f19) = true)
    (a20 : PySem.W.nsIn K mainGlobals "_check_sizes" = some (some (.ref f20)))
    (l20 : K.lookup f20 = some ⟨oc20, od20, .func (PySem.W.fnOf "_check_sizes" "_check_sizes" (defArgs s_check_sizes) (defBody s_check_sizes) (defScope s_check_sizes) .none kV20 dc20 pm20 an20 cd20 ct20), sl20⟩)
    (c20 : PySem.W.codeIn K cd20 "_check_sizes" = true) (k20 : PySem.W.keepIn K (.ref f20) = true)
    (a21 : PySem.W.nsIn K mainGlobals "_check_steps" = some (some (.ref f21)))
    (l21 : K.lookup f21 = some ⟨oc21, od21, .func (PySem.W.fnOf "_check_steps" "_check_steps" (defArgs s_check_steps) (defBody s_check_steps) (defScope s_check_steps) .none kV21 dc21 pm21 an21 cd21 ct21), sl21⟩)
    (c21 : PySem.W.codeIn K cd21 "_check_steps" = true) (k21 : PySem.W.keepIn K (.ref f21) = true)
    (a22 : PySem.W.nsIn K mainGlobals "are_nodes" = some (some (.ref f22)))
    (l22 : K.lookup f22 = some ⟨oc22, od22, .func (PySem.W.fnOf "are_nodes" "are_nodes" (defArgs s_are_nodes) (defBody s_are_nodes) (defScope s_are_nodes) .none kV22 dc22 pm22 an22 cd22 ct22), sl22⟩)
    (c22 : PySem.W.codeIn K cd22 "are_nodes" = true) (k22 : PySem.W.keepIn K (.ref f22) = true)
    (a23 : PySem.W.nsIn K mainGlobals "is_input" = some (some (.ref f23)))
    (l23 : K.lookup f23 = some ⟨oc23, od23, .func (PySem.W.fnOf "is_input" "is_input" (defArgs s_is_input) (defBody s_is_input) (defScope s_is_input) .none kV23 dc23 pm23 an23 cd23 ct23), sl23⟩)
    (c23 : PySem.W.codeIn K cd23 "is_input" = true) (k23 : PySem.W.keepIn K (.ref f23) = true)
    (a24 : PySem.W.nsIn K mainGlobals "are_before" = some (some (.ref f24)))
    (l24 : K.lookup f24 = some ⟨oc24, od24, .func (PySem.W.fnOf "are_before" "are_before" (defArgs s_are_before) (defBody s_are_before) (defScope s_are_before) .none kV24 dc24 pm24 an24 cd24 ct24), sl24⟩)
    (c24 : PySem.W.codeIn K cd24 "are_before" = true) (k24 : PySem.W.keepIn K (.ref f24) = true)
    (a25 : PySem.W.nsIn K mainGlobals "inputs_needed" = some (some (.ref f25)))
    (l25 : K.lookup f25 = some ⟨oc25, od25, .func (PySem.W.fnOf "inputs_needed" "inputs_needed" (defArgs s_inputs_needed) (defBody s_inputs_needed) (defScope s_inputs_needed) .none kV25 dc25 pm25 an25 cd25 ct25), sl25⟩)
    (c25 : PySem.W.codeIn K cd25 "inputs_needed" = true) (k25 : PySem.W.keepIn K (.ref f25) = true)
    (a26 : PySem.W.nsIn K mainGlobals "check_source" = some (some (.ref f26)))
    (l26 : K.lookup f26 = some ⟨oc26, od26, .func (PySem.W.fnOf "check_source" "check_source" (defArgs s_check_source) (defBody s_check_source) (defScope s_check_source) .none kV26 dc26 pm26 an26 cd26 ct26), sl26⟩)
    (c26 : PySem.W.codeIn K cd26 "check_source" = true) (k26 : PySem.W.keepIn K (.ref f26) = true)
    (a27 : PySem.W.nsIn K mainGlobals "_is_source" = some (some (.ref f27)))
    (l27 : K.lookup f27 = some ⟨oc27, od27, .func (PySem.W.fnOf "_is_source" "_is_source" (defArgs s_is_source) (defBody s_is_source) (defScope s_is_source) .none kV27 dc27 pm27 an27 cd27 ct27), sl27⟩)
    (c27 : PySem.W.codeIn K cd27 "_is_source" = true) (k27 : PySem.W.keepIn K (.ref f27) = true)
    (a28 : PySem.W.nsIn K mainGlobals "_is_node" = some (some (.ref f28)))
    (l28 : K.lookup f28 = some ⟨oc28, od28, .func (PySem.W.fnOf "_is_node" "_is_node" (defArgs s_is_node) (defBody s_is_node) (defScope s_is_node) .none kV28 dc28 pm28 an28 cd28 ct28), sl28⟩)
    (c28 : PySem.W.codeIn K cd28 "_is_node" = true) (k28 : PySem.W.keepIn K (.ref f28) = true)
    (a29 : PySem.W.nsIn K mainGlobals "needs" = some (some (.ref f29)))
    (l29 : K.lookup f29 = some ⟨oc29, od29, .func (PySem.W.fnOf "needs" "needs" (defArgs s_needs) (defBody s_needs) (defScope s_needs) .none kV29 dc29 pm29 an29 cd29 ct29), sl29⟩)
    (c29 : PySem.W.codeIn K cd29 "needs" = true) (k29 : PySem.W.keepIn K (.ref f29) = true)
    (a30 : PySem.W.nsIn K mainGlobals "cost" = some (some (.ref f30)))
    (l30 : K.lookup f30 = some ⟨oc30, od30, .func (PySem.W.fnOf "cost" "cost" (defArgs s_cost) (defBody s_cost) (defScope s_cost) .none kV30 dc30 pm30 an30 cd30 ct30), sl30⟩)
    (c30 : PySem.W.codeIn K cd30 "cost" = true) (k30 : PySem.W.keepIn K (.ref f30) = true)
    (a31 : PySem.W.nsIn K mainGlobals "_cost_of" = some (some (.ref f31)))
    (l31 : K.lookup f31 = some ⟨oc31, od31, .func (PySem.W.fnOf "_cost_of" "_cost_of" (defArgs s_cost_of) (defBody s_cost_of) (defScope s_cost_of) .none kV31 dc31 pm31 an31 cd31 ct31), sl31⟩)
    (c31 : PySem.W.codeIn K cd31 "_cost_of" = true) (k31 : PySem.W.keepIn K (.ref f31) = true)
    (a32 : PySem.W.nsIn K mainGlobals "compile_source" = some (some (.ref f32)))
    (l32 : K.lookup f32 = some ⟨oc32, od32, .func (PySem.W.fnOf "compile_source" "compile_source" (defArgs s_compile_source) (defBody s_compile_source) (defScope s_compile_source) .none kV32 dc32 pm32 an32 cd32 ct32), sl32⟩)
    (c32 : PySem.W.codeIn K cd32 "compile_source" = true) (k32 : PySem.W.keepIn K (.ref f32) = true)
    (a33 : PySem.W.nsIn K mainGlobals "answer" = some (some (.ref f33)))
    (l33 : K.lookup f33 = some ⟨oc33, od33, .func (PySem.W.fnOf "answer" "answer" (defArgs s_answer) (defBody s_answer) (defScope s_answer) .none kV33 dc33 pm33 an33 cd33 ct33), sl33⟩)
    (c33 : PySem.W.codeIn K cd33 "answer" = true) (k33 : PySem.W.keepIn K (.ref f33) = true)
    (a34 : PySem.W.nsIn K mainGlobals "_steps_of" = some (some (.ref f34)))
    (l34 : K.lookup f34 = some ⟨oc34, od34, .func (PySem.W.fnOf "_steps_of" "_steps_of" (defArgs s_steps_of) (defBody s_steps_of) (defScope s_steps_of) .none kV34 dc34 pm34 an34 cd34 ct34), sl34⟩)
    (c34 : PySem.W.codeIn K cd34 "_steps_of" = true) (k34 : PySem.W.keepIn K (.ref f34) = true)
    (a35 : PySem.W.nsIn K mainGlobals "_without_scaling" = some (some (.ref f35)))
    (l35 : K.lookup f35 = some ⟨oc35, od35, .func (PySem.W.fnOf "_without_scaling" "_without_scaling" (defArgs s_without_scaling) (defBody s_without_scaling) (defScope s_without_scaling) .none kV35 dc35 pm35 an35 cd35 ct35), sl35⟩)
    (c35 : PySem.W.codeIn K cd35 "_without_scaling" = true) (k35 : PySem.W.keepIn K (.ref f35) = true)
    (a36 : PySem.W.nsIn K mainGlobals "_parts_of" = some (some (.ref f36)))
    (l36 : K.lookup f36 = some ⟨oc36, od36, .func (PySem.W.fnOf "_parts_of" "_parts_of" (defArgs s_parts_of) (defBody s_parts_of) (defScope s_parts_of) .none kV36 dc36 pm36 an36 cd36 ct36), sl36⟩)
    (c36 : PySem.W.codeIn K cd36 "_parts_of" = true) (k36 : PySem.W.keepIn K (.ref f36) = true)
    (a37 : PySem.W.nsIn K mainGlobals "_borrowed_cell" = some (some (.ref f37)))
    (l37 : K.lookup f37 = some ⟨oc37, od37, .func (PySem.W.fnOf "_borrowed_cell" "_borrowed_cell" (defArgs s_borrowed_cell) (defBody s_borrowed_cell) (defScope s_borrowed_cell) .none kV37 dc37 pm37 an37 cd37 ct37), sl37⟩)
    (c37 : PySem.W.codeIn K cd37 "_borrowed_cell" = true) (k37 : PySem.W.keepIn K (.ref f37) = true)
    (a38 : PySem.W.nsIn K mainGlobals "_law_mixed" = some (some (.ref f38)))
    (l38 : K.lookup f38 = some ⟨oc38, od38, .func (PySem.W.fnOf "_law_mixed" "_law_mixed" (defArgs s_law_mixed) (defBody s_law_mixed) (defScope s_law_mixed) .none kV38 dc38 pm38 an38 cd38 ct38), sl38⟩)
    (c38 : PySem.W.codeIn K cd38 "_law_mixed" = true) (k38 : PySem.W.keepIn K (.ref f38) = true)
    (a39 : PySem.W.nsIn K mainGlobals "_law_numbers" = some (some (.ref f39)))
    (l39 : K.lookup f39 = some ⟨oc39, od39, .func (PySem.W.fnOf "_law_numbers" "_law_numbers" (defArgs s_law_numbers) (defBody s_law_numbers) (defScope s_law_numbers) .none kV39 dc39 pm39 an39 cd39 ct39), sl39⟩)
    (c39 : PySem.W.codeIn K cd39 "_law_numbers" = true) (k39 : PySem.W.keepIn K (.ref f39) = true)
    (a40 : PySem.W.nsIn K mainGlobals "_law_draw" = some (some (.ref f40)))
    (l40 : K.lookup f40 = some ⟨oc40, od40, .func (PySem.W.fnOf "_law_draw" "_law_draw" (defArgs s_law_draw) (defBody s_law_draw) (defScope s_law_draw) .none kV40 dc40 pm40 an40 cd40 ct40), sl40⟩)
    (c40 : PySem.W.codeIn K cd40 "_law_draw" = true) (k40 : PySem.W.keepIn K (.ref f40) = true)
    (a41 : PySem.W.nsIn K mainGlobals "_law_equal" = some (some (.ref f41)))
    (l41 : K.lookup f41 = some ⟨oc41, od41, .func (PySem.W.fnOf "_law_equal" "_law_equal" (defArgs s_law_equal) (defBody s_law_equal) (defScope s_law_equal) .none kV41 dc41 pm41 an41 cd41 ct41), sl41⟩)
    (c41 : PySem.W.codeIn K cd41 "_law_equal" = true) (k41 : PySem.W.keepIn K (.ref f41) = true)
    (a42 : PySem.W.nsIn K mainGlobals "_law_all_equal" = some (some (.ref f42)))
    (l42 : K.lookup f42 = some ⟨oc42, od42, .func (PySem.W.fnOf "_law_all_equal" "_law_all_equal" (defArgs s_law_all_equal) (defBody s_law_all_equal) (defScope s_law_all_equal) .none kV42 dc42 pm42 an42 cd42 ct42), sl42⟩)
    (c42 : PySem.W.codeIn K cd42 "_law_all_equal" = true) (k42 : PySem.W.keepIn K (.ref f42) = true)
    (a43 : PySem.W.nsIn K mainGlobals "_law_large" = some (some (.ref f43)))
    (l43 : K.lookup f43 = some ⟨oc43, od43, .func (PySem.W.fnOf "_law_large" "_law_large" (defArgs s_law_large) (defBody s_law_large) (defScope s_law_large) .none kV43 dc43 pm43 an43 cd43 ct43), sl43⟩)
    (c43 : PySem.W.codeIn K cd43 "_law_large" = true) (k43 : PySem.W.keepIn K (.ref f43) = true)
    (a44 : PySem.W.nsIn K mainGlobals "_law_modulus" = some (some (.ref f44)))
    (l44 : K.lookup f44 = some ⟨oc44, od44, .func (PySem.W.fnOf "_law_modulus" "_law_modulus" (defArgs s_law_modulus) (defBody s_law_modulus) (defScope s_law_modulus) .none kV44 dc44 pm44 an44 cd44 ct44), sl44⟩)
    (c44 : PySem.W.codeIn K cd44 "_law_modulus" = true) (k44 : PySem.W.keepIn K (.ref f44) = true)
    (a45 : PySem.W.nsIn K mainGlobals "_law_number" = some (some (.ref f45)))
    (l45 : K.lookup f45 = some ⟨oc45, od45, .func (PySem.W.fnOf "_law_number" "_law_number" (defArgs s_law_number) (defBody s_law_number) (defScope s_law_number) .none kV45 dc45 pm45 an45 cd45 ct45), sl45⟩)
    (c45 : PySem.W.codeIn K cd45 "_law_number" = true) (k45 : PySem.W.keepIn K (.ref f45) = true)
    (a46 : PySem.W.nsIn K mainGlobals "_law_gcd" = some (some (.ref f46)))
    (l46 : K.lookup f46 = some ⟨oc46, od46, .func (PySem.W.fnOf "_law_gcd" "_law_gcd" (defArgs s_law_gcd) (defBody s_law_gcd) (defScope s_law_gcd) .none kV46 dc46 pm46 an46 cd46 ct46), sl46⟩)
    (c46 : PySem.W.codeIn K cd46 "_law_gcd" = true) (k46 : PySem.W.keepIn K (.ref f46) = true)
    (a47 : PySem.W.nsIn K mainGlobals "_law_unit" = some (some (.ref f47)))
    (l47 : K.lookup f47 = some ⟨oc47, od47, .func (PySem.W.fnOf "_law_unit" "_law_unit" (defArgs s_law_unit) (defBody s_law_unit) (defScope s_law_unit) .none kV47 dc47 pm47 an47 cd47 ct47), sl47⟩)
    (c47 : PySem.W.codeIn K cd47 "_law_unit" = true) (k47 : PySem.W.keepIn K (.ref f47) = true)
    (a48 : PySem.W.nsIn K mainGlobals "_law_prime" = some (some (.ref f48)))
    (l48 : K.lookup f48 = some ⟨oc48, od48, .func (PySem.W.fnOf "_law_prime" "_law_prime" (defArgs s_law_prime) (defBody s_law_prime) (defScope s_law_prime) .none kV48 dc48 pm48 an48 cd48 ct48), sl48⟩)
    (c48 : PySem.W.codeIn K cd48 "_law_prime" = true) (k48 : PySem.W.keepIn K (.ref f48) = true)
    (a49 : PySem.W.nsIn K mainGlobals "_law_table" = some (some (.ref f49)))
    (l49 : K.lookup f49 = some ⟨oc49, od49, .func (PySem.W.fnOf "_law_table" "_law_table" (defArgs s_law_table) (defBody s_law_table) (defScope s_law_table) .none kV49 dc49 pm49 an49 cd49 ct49), sl49⟩)
    (c49 : PySem.W.codeIn K cd49 "_law_table" = true) (k49 : PySem.W.keepIn K (.ref f49) = true)
    (a50 : PySem.W.nsIn K mainGlobals "_law_factor" = some (some (.ref f50)))
    (l50 : K.lookup f50 = some ⟨oc50, od50, .func (PySem.W.fnOf "_law_factor" "_law_factor" (defArgs s_law_factor) (defBody s_law_factor) (defScope s_law_factor) .none kV50 dc50 pm50 an50 cd50 ct50), sl50⟩)
    (c50 : PySem.W.codeIn K cd50 "_law_factor" = true) (k50 : PySem.W.keepIn K (.ref f50) = true)
    (a51 : PySem.W.nsIn K mainGlobals "_law_step" = some (some (.ref f51)))
    (l51 : K.lookup f51 = some ⟨oc51, od51, .func (PySem.W.fnOf "_law_step" "_law_step" (defArgs s_law_step) (defBody s_law_step) (defScope s_law_step) .none kV51 dc51 pm51 an51 cd51 ct51), sl51⟩)
    (c51 : PySem.W.codeIn K cd51 "_law_step" = true) (k51 : PySem.W.keepIn K (.ref f51) = true)
    (a52 : PySem.W.nsIn K mainGlobals "_law_program" = some (some (.ref f52)))
    (l52 : K.lookup f52 = some ⟨oc52, od52, .func (PySem.W.fnOf "_law_program" "_law_program" (defArgs s_law_program) (defBody s_law_program) (defScope s_law_program) .none kV52 dc52 pm52 an52 cd52 ct52), sl52⟩)
    (c52 : PySem.W.codeIn K cd52 "_law_program" = true) (k52 : PySem.W.keepIn K (.ref f52) = true)
    (a53 : PySem.W.nsIn K mainGlobals "_law_made" = some (some (.ref f53)))
    (l53 : K.lookup f53 = some ⟨oc53, od53, .func (PySem.W.fnOf "_law_made" "_law_made" (defArgs s_law_made) (defBody s_law_made) (defScope s_law_made) .none kV53 dc53 pm53 an53 cd53 ct53), sl53⟩)
    (c53 : PySem.W.codeIn K cd53 "_law_made" = true) (k53 : PySem.W.keepIn K (.ref f53) = true)
    (a54 : PySem.W.nsIn K mainGlobals "_law_memory" = some (some (.ref f54)))
    (l54 : K.lookup f54 = some ⟨oc54, od54, .func (PySem.W.fnOf "_law_memory" "_law_memory" (defArgs s_law_memory) (defBody s_law_memory) (defScope s_law_memory) .none kV54 dc54 pm54 an54 cd54 ct54), sl54⟩)
    (c54 : PySem.W.codeIn K cd54 "_law_memory" = true) (k54 : PySem.W.keepIn K (.ref f54) = true)
    (a55 : PySem.W.nsIn K mainGlobals "_law_given" = some (some (.ref f55)))
    (l55 : K.lookup f55 = some ⟨oc55, od55, .func (PySem.W.fnOf "_law_given" "_law_given" (defArgs s_law_given) (defBody s_law_given) (defScope s_law_given) .none kV55 dc55 pm55 an55 cd55 ct55), sl55⟩)
    (c55 : PySem.W.codeIn K cd55 "_law_given" = true) (k55 : PySem.W.keepIn K (.ref f55) = true)
    (a56 : PySem.W.nsIn K mainGlobals "_law_power" = some (some (.ref f56)))
    (l56 : K.lookup f56 = some ⟨oc56, od56, .func (PySem.W.fnOf "_law_power" "_law_power" (defArgs s_law_power) (defBody s_law_power) (defScope s_law_power) .none kV56 dc56 pm56 an56 cd56 ct56), sl56⟩)
    (c56 : PySem.W.codeIn K cd56 "_law_power" = true) (k56 : PySem.W.keepIn K (.ref f56) = true)
    (a57 : PySem.W.nsIn K mainGlobals "_law_basis" = some (some (.ref f57)))
    (l57 : K.lookup f57 = some ⟨oc57, od57, .func (PySem.W.fnOf "_law_basis" "_law_basis" (defArgs s_law_basis) (defBody s_law_basis) (defScope s_law_basis) .none kV57 dc57 pm57 an57 cd57 ct57), sl57⟩)
    (c57 : PySem.W.codeIn K cd57 "_law_basis" = true) (k57 : PySem.W.keepIn K (.ref f57) = true)
    (a58 : PySem.W.nsIn K mainGlobals "_law_interpolated" = some (some (.ref f58)))
    (l58 : K.lookup f58 = some ⟨oc58, od58, .func (PySem.W.fnOf "_law_interpolated" "_law_interpolated" (defArgs s_law_interpolated) (defBody s_law_interpolated) (defScope s_law_interpolated) .none kV58 dc58 pm58 an58 cd58 ct58), sl58⟩)
    (c58 : PySem.W.codeIn K cd58 "_law_interpolated" = true) (k58 : PySem.W.keepIn K (.ref f58) = true)
    (a59 : PySem.W.nsIn K mainGlobals "_law_product" = some (some (.ref f59)))
    (l59 : K.lookup f59 = some ⟨oc59, od59, .func (PySem.W.fnOf "_law_product" "_law_product" (defArgs s_law_product) (defBody s_law_product) (defScope s_law_product) .none kV59 dc59 pm59 an59 cd59 ct59), sl59⟩)
    (c59 : PySem.W.codeIn K cd59 "_law_product" = true) (k59 : PySem.W.keepIn K (.ref f59) = true)
    (a60 : PySem.W.nsIn K mainGlobals "_law_perform" = some (some (.ref f60)))
    (l60 : K.lookup f60 = some ⟨oc60, od60, .func (PySem.W.fnOf "_law_perform" "_law_perform" (defArgs s_law_perform) (defBody s_law_perform) (defScope s_law_perform) .none kV60 dc60 pm60 an60 cd60 ct60), sl60⟩)
    (c60 : PySem.W.codeIn K cd60 "_law_perform" = true) (k60 : PySem.W.keepIn K (.ref f60) = true)
    (a61 : PySem.W.nsIn K mainGlobals "_law_ran" = some (some (.ref f61)))
    (l61 : K.lookup f61 = some ⟨oc61, od61, .func (PySem.W.fnOf "_law_ran" "_law_ran" (defArgs s_law_ran) (defBody s_law_ran) (defScope s_law_ran) .none kV61 dc61 pm61 an61 cd61 ct61), sl61⟩)
    (c61 : PySem.W.codeIn K cd61 "_law_ran" = true) (k61 : PySem.W.keepIn K (.ref f61) = true)
    (a62 : PySem.W.nsIn K mainGlobals "_law_constant" = some (some (.ref f62)))
    (l62 : K.lookup f62 = some ⟨oc62, od62, .func (PySem.W.fnOf "_law_constant" "_law_constant" (defArgs s_law_constant) (defBody s_law_constant) (defScope s_law_constant) .none kV62 dc62 pm62 an62 cd62 ct62), sl62⟩)
    (c62 : PySem.W.codeIn K cd62 "_law_constant" = true) (k62 : PySem.W.keepIn K (.ref f62) = true)
    (a63 : PySem.W.nsIn K mainGlobals "_law_leaf" = some (some (.ref f63)))
    (l63 : K.lookup f63 = some ⟨oc63, od63, .func (PySem.W.fnOf "_law_leaf" "_law_leaf" (defArgs s_law_leaf) (defBody s_law_leaf) (defScope s_law_leaf) .none kV63 dc63 pm63 an63 cd63 ct63), sl63⟩)
    (c63 : PySem.W.codeIn K cd63 "_law_leaf" = true) (k63 : PySem.W.keepIn K (.ref f63) = true)
    (a64 : PySem.W.nsIn K mainGlobals "_law_node" = some (some (.ref f64)))
    (l64 : K.lookup f64 = some ⟨oc64, od64, .func (PySem.W.fnOf "_law_node" "_law_node" (defArgs s_law_node) (defBody s_law_node) (defScope s_law_node) .none kV64 dc64 pm64 an64 cd64 ct64), sl64⟩)
    (c64 : PySem.W.codeIn K cd64 "_law_node" = true) (k64 : PySem.W.keepIn K (.ref f64) = true)
    (a65 : PySem.W.nsIn K mainGlobals "_law_source" = some (some (.ref f65)))
    (l65 : K.lookup f65 = some ⟨oc65, od65, .func (PySem.W.fnOf "_law_source" "_law_source" (defArgs s_law_source) (defBody s_law_source) (defScope s_law_source) .none kV65 dc65 pm65 an65 cd65 ct65), sl65⟩)
    (c65 : PySem.W.codeIn K cd65 "_law_source" = true) (k65 : PySem.W.keepIn K (.ref f65) = true)
    (a66 : PySem.W.nsIn K mainGlobals "_law_needs" = some (some (.ref f66)))
    (l66 : K.lookup f66 = some ⟨oc66, od66, .func (PySem.W.fnOf "_law_needs" "_law_needs" (defArgs s_law_needs) (defBody s_law_needs) (defScope s_law_needs) .none kV66 dc66 pm66 an66 cd66 ct66), sl66⟩)
    (c66 : PySem.W.codeIn K cd66 "_law_needs" = true) (k66 : PySem.W.keepIn K (.ref f66) = true)
    (a67 : PySem.W.nsIn K mainGlobals "_law_values" = some (some (.ref f67)))
    (l67 : K.lookup f67 = some ⟨oc67, od67, .func (PySem.W.fnOf "_law_values" "_law_values" (defArgs s_law_values) (defBody s_law_values) (defScope s_law_values) .none kV67 dc67 pm67 an67 cd67 ct67), sl67⟩)
    (c67 : PySem.W.codeIn K cd67 "_law_values" = true) (k67 : PySem.W.keepIn K (.ref f67) = true)
    (a68 : PySem.W.nsIn K mainGlobals "_law_meaning" = some (some (.ref f68)))
    (l68 : K.lookup f68 = some ⟨oc68, od68, .func (PySem.W.fnOf "_law_meaning" "_law_meaning" (defArgs s_law_meaning) (defBody s_law_meaning) (defScope s_law_meaning) .none kV68 dc68 pm68 an68 cd68 ct68), sl68⟩)
    (c68 : PySem.W.codeIn K cd68 "_law_meaning" = true) (k68 : PySem.W.keepIn K (.ref f68) = true)
    (a69 : PySem.W.nsIn K mainGlobals "_law_asked" = some (some (.ref f69)))
    (l69 : K.lookup f69 = some ⟨oc69, od69, .func (PySem.W.fnOf "_law_asked" "_law_asked" (defArgs s_law_asked) (defBody s_law_asked) (defScope s_law_asked) .none kV69 dc69 pm69 an69 cd69 ct69), sl69⟩)
    (c69 : PySem.W.codeIn K cd69 "_law_asked" = true) (k69 : PySem.W.keepIn K (.ref f69) = true)
    (a70 : PySem.W.nsIn K mainGlobals "_law_refused" = some (some (.ref f70)))
    (l70 : K.lookup f70 = some ⟨oc70, od70, .func (PySem.W.fnOf "_law_refused" "_law_refused" (defArgs s_law_refused) (defBody s_law_refused) (defScope s_law_refused) .none kV70 dc70 pm70 an70 cd70 ct70), sl70⟩)
    (c70 : PySem.W.codeIn K cd70 "_law_refused" = true) (k70 : PySem.W.keepIn K (.ref f70) = true)
    (a71 : PySem.W.nsIn K mainGlobals "law" = some (some (.ref f71)))
    (l71 : K.lookup f71 = some ⟨oc71, od71, .func (PySem.W.fnOf "law" "law" (defArgs s_law) (defBody s_law) (defScope s_law) .none kV71 dc71 pm71 an71 cd71 ct71), sl71⟩)
    (c71 : PySem.W.codeIn K cd71 "law" = true) (k71 : PySem.W.keepIn K (.ref f71) = true)
    (a72 : PySem.W.findIn K (.ref C_Program) "__init__" = some (some (.ref f72))) (i72 : PySem.W.isFn K (.ref f72) = true)
    (l72 : K.lookup f72 = some ⟨oc72, od72, .func (PySem.W.fnOf "__init__" "Program.__init__" (defArgs s_Program___init) (defBody s_Program___init) (defScope s_Program___init) .none kV72 dc72 pm72 an72 cd72 ct72), sl72⟩)
    (c72 : PySem.W.codeIn K cd72 "Program.__init__" = true) (k72 : PySem.W.keepIn K (.ref f72) = true)
    (a73 : PySem.W.findIn K (.ref C_Program) "__neg__" = some (some (.ref f73))) (i73 : PySem.W.isFn K (.ref f73) = true)
    (l73 : K.lookup f73 = some ⟨oc73, od73, .func (PySem.W.fnOf "__neg__" "Program.__neg__" (defArgs s_Program___neg) (defBody s_Program___neg) (defScope s_Program___neg) .none kV73 dc73 pm73 an73 cd73 ct73), sl73⟩)
    (c73 : PySem.W.codeIn K cd73 "Program.__neg__" = true) (k73 : PySem.W.keepIn K (.ref f73) = true)
    (a74 : PySem.W.findIn K (.ref C_Program) "run" = some (some (.ref f74))) (i74 : PySem.W.isFn K (.ref f74) = true)
    (l74 : K.lookup f74 = some ⟨oc74, od74, .func (PySem.W.fnOf "run" "Program.run" (defArgs s_Program_run) (defBody s_Program_run) (defScope s_Program_run) .none kV74 dc74 pm74 an74 cd74 ct74), sl74⟩)
    (c74 : PySem.W.codeIn K cd74 "Program.run" = true) (k74 : PySem.W.keepIn K (.ref f74) = true)
    (n_Program_modulus : PySem.W.findIn K (.ref C_Program) "modulus" = some none)
    (n_Program_cells : PySem.W.findIn K (.ref C_Program) "cells" = some none)
    (n_Program_inputs : PySem.W.findIn K (.ref C_Program) "inputs" = some none)
    (n_Program_steps : PySem.W.findIn K (.ref C_Program) "steps" = some none)
    (z_all : PySem.W.nsIn K mainGlobals "all" = some none)
    (z_any : PySem.W.nsIn K mainGlobals "any" = some none)
    (z_bool : PySem.W.nsIn K mainGlobals "bool" = some none)
    (z_enumerate : PySem.W.nsIn K mainGlobals "enumerate" = some none)
    (z_int : PySem.W.nsIn K mainGlobals "int" = some none)
    (z_isinstance : PySem.W.nsIn K mainGlobals "isinstance" = some none)
    (z_len : PySem.W.nsIn K mainGlobals "len" = some none)
    (z_list : PySem.W.nsIn K mainGlobals "list" = some none)
    (z_max : PySem.W.nsIn K mainGlobals "max" = some none)
    (z_min : PySem.W.nsIn K mainGlobals "min" = some none)
    (z_range : PySem.W.nsIn K mainGlobals "range" = some none)
    (z_str : PySem.W.nsIn K mainGlobals "str" = some none)
    (z_sum : PySem.W.nsIn K mainGlobals "sum" = some none)
    (z_tuple : PySem.W.nsIn K mainGlobals "tuple" = some none)
    (z_zip : PySem.W.nsIn K mainGlobals "zip" = some none)
    (z_gcd : PySem.W.nsIn K mainGlobals "gcd" = some (some (.builtin "math.gcd")))
    (z_isqrt : PySem.W.nsIn K mainGlobals "isqrt" = some (some (.builtin "math.isqrt")))
    (z_CELLS : PySem.W.nsIn K mainGlobals "CELLS" = some (some (.int 3 t_CELLS)))
    (z_CONSTANTS_END : PySem.W.nsIn K mainGlobals "CONSTANTS_END" = some (some (.int 1000000000 t_CONSTANTS_END)))
    (z_GREATEST_MODULUS : PySem.W.nsIn K mainGlobals "GREATEST_MODULUS" = some (some (.int 1000000000 t_GREATEST_MODULUS)))
    (z_MOST_CELLS : PySem.W.nsIn K mainGlobals "MOST_CELLS" = some (some (.int 60 t_MOST_CELLS)))
    (z_MOST_FACTORS : PySem.W.nsIn K mainGlobals "MOST_FACTORS" = some (some (.int 3 t_MOST_FACTORS)))
    (z_MOST_INPUTS_nodes : PySem.W.nsIn K mainGlobals "MOST_INPUTS_nodes" = some (some (.int 60 t_MOST_INPUTS_nodes)))
    (z_MOST_INPUTS_programs : PySem.W.nsIn K mainGlobals "MOST_INPUTS_programs" = some (some (.int 60 t_MOST_INPUTS_programs)))
    (z_MOST_NODES : PySem.W.nsIn K mainGlobals "MOST_NODES" = some (some (.int 200 t_MOST_NODES)))
    (z_MOST_STEPS : PySem.W.nsIn K mainGlobals "MOST_STEPS" = some (some (.int 20000 t_MOST_STEPS)))
    : ∃ fd : FuncData, (∀ (s : Shared) (v : Value), BindsTo s fd ⟨[v], []⟩ [("script", v)]) ∧ ∀ base : Heap, K.In base → base.Ns mainGlobals mg → FnOk l.prog w K mg base CX0 26 fa fd ["script"] (sp_law K) := by
  have e := hfa.symm.trans (PySem.W.mg_of X G a71)
  cases e
  have F0 := fun_mk (st := s_is_below) l0 c0 k0
  have b0 := F0.binds (ps := ["value", "bound"]) fun _ _ _ _ _ _ us hl => match us, hl with | [_, _], _ => rfl
  have F1 := fun_mk (st := s_is_modulus) l1 c1 k1
  have b1 := F1.binds (ps := ["value"]) fun _ _ _ _ _ _ us hl => match us, hl with | [_], _ => rfl
  have F2 := fun_mk (st := s_are_numbers) l2 c2 k2
  have b2 := F2.binds (ps := ["values", "many", "modulus"]) fun _ _ _ _ _ _ us hl => match us, hl with | [_, _, _], _ => rfl
  have F3 := fun_mk (st := s_is_prime) l3 c3 k3
  have b3 := F3.binds (ps := ["n"]) fun _ _ _ _ _ _ us hl => match us, hl with | [_], _ => rfl
  have F4 := fun_mk (st := s_inverse_of) l4 c4 k4
  have b4 := F4.binds (ps := ["n", "modulus"]) fun _ _ _ _ _ _ us hl => match us, hl with | [_, _], _ => rfl
  have F5 := fun_mk (st := s_interpolate) l5 c5 k5
  have b5 := F5.binds (ps := ["table", "prime", "x", "y"]) fun _ _ _ _ _ _ us hl => match us, hl with | [_, _, _, _], _ => rfl
  have F6 := fun_mk (st := s_weighted) l6 c6 k6
  have b6 := F6.binds (ps := ["row", "shares"]) fun _ _ _ _ _ _ us hl => match us, hl with | [_, _], _ => rfl
  have F7 := fun_mk (st := s_shares) l7 c7 k7
  have b7 := F7.binds (ps := ["size", "prime", "x"]) fun _ _ _ _ _ _ us hl => match us, hl with | [_, _, _], _ => rfl
  have F8 := fun_mk (st := s_products_of_differences) l8 c8 k8
  have b8 := F8.binds (ps := ["size", "prime"]) fun _ _ _ _ _ _ us hl => match us, hl with | [_, _], _ => rfl
  have F9 := fun_mk (st := s_is_step) l9 c9 k9
  have b9 := F9.binds (ps := ["step", "modulus", "cells", "inputs"]) fun _ _ _ _ _ _ us hl => match us, hl with | [_, _, _, _], _ => rfl
  have F10 := fun_mk (st := s_are_factors) l10 c10 k10
  have b10 := F10.binds (ps := ["factors", "target", "cells", "inputs"]) fun _ _ _ _ _ _ us hl => match us, hl with | [_, _, _, _], _ => rfl
  have F11 := fun_mk (st := s_is_factor) l11 c11 k11
  have b11 := F11.binds (ps := ["factor", "target", "cells", "inputs"]) fun _ _ _ _ _ _ us hl => match us, hl with | [_, _, _, _], _ => rfl
  have F12 := fun_mk (st := s_are_three_cells) l12 c12 k12
  have b12 := F12.binds (ps := ["target", "a", "b", "cells"]) fun _ _ _ _ _ _ us hl => match us, hl with | [_, _, _, _], _ => rfl
  have F13 := fun_mk (st := s_is_sign) l13 c13 k13
  have b13 := F13.binds (ps := ["sign", "modulus"]) fun _ _ _ _ _ _ us hl => match us, hl with | [_, _], _ => rfl
  have F14 := fun_mk (st := s_is_table) l14 c14 k14
  have b14 := F14.binds (ps := ["table", "modulus"]) fun _ _ _ _ _ _ us hl => match us, hl with | [_, _], _ => rfl
  have F15 := fun_mk (st := s_is_row) l15 c15 k15
  have b15 := F15.binds (ps := ["row", "size", "modulus"]) fun _ _ _ _ _ _ us hl => match us, hl with | [_, _, _], _ => rfl
  have F16 := fun_mk (st := s_changes) l16 c16 k16
  have b16 := F16.binds (ps := ["step", "memory", "given", "modulus"]) fun _ _ _ _ _ _ us hl => match us, hl with | [_, _, _, _], _ => rfl
  have F17 := fun_mk (st := s_performed) l17 c17 k17
  have b17 := F17.binds (ps := ["steps", "memory", "given", "modulus"]) fun _ _ _ _ _ _ us hl => match us, hl with | [_, _, _, _], _ => rfl
  have F18 := fun_mk (st := s_product_of) l18 c18 k18
  have b18 := F18.binds (ps := ["factors", "memory", "given", "modulus"]) fun _ _ _ _ _ _ us hl => match us, hl with | [_, _, _, _], _ => rfl
  have F19 := fun_mk (st := s_inverse_step) l19 c19 k19
  have b19 := F19.binds (ps := ["step", "modulus"]) fun _ _ _ _ _ _ us hl => match us, hl with | [_, _], _ => rfl
  have F20 := fun_mk (st := s_check_sizes) l20 c20 k20
  have b20 := F20.binds (ps := ["modulus", "cells", "inputs"]) fun _ _ _ _ _ _ us hl => match us, hl with | [_, _, _], _ => rfl
  have F21 := fun_mk (st := s_check_steps) l21 c21 k21
  have b21 := F21.binds (ps := ["steps", "modulus", "cells", "inputs"]) fun _ _ _ _ _ _ us hl => match us, hl with | [_, _, _, _], _ => rfl
  have F22 := fun_mk (st := s_are_nodes) l22 c22 k22
  have b22 := F22.binds (ps := ["source"]) fun _ _ _ _ _ _ us hl => match us, hl with | [_], _ => rfl
  have F23 := fun_mk (st := s_is_input) l23 c23 k23
  have b23 := F23.binds (ps := ["k"]) fun _ _ _ _ _ _ us hl => match us, hl with | [_], _ => rfl
  have F24 := fun_mk (st := s_are_before) l24 c24 k24
  have b24 : StarB (PySem.W.fnOf "are_before" "are_before" (defArgs s_are_before) (defBody s_are_before) (defScope s_are_before) .none kV24 dc24 pm24 an24 cd24 ct24) ["at"] "references" := StX.bind_star1 (B := fun xs => bindArgs (PySem.W.fnOf "are_before" "are_before" (defArgs s_are_before) (defBody s_are_before) (defScope s_are_before) .none kV24 dc24 pm24 an24 cd24 ct24) ⟨xs, []⟩) (fun a0 => rfl) (fun a0 r rs => rfl)
  have F25 := fun_mk (st := s_inputs_needed) l25 c25 k25
  have b25 := F25.binds (ps := ["source"]) fun _ _ _ _ _ _ us hl => match us, hl with | [_], _ => rfl
  have F26 := fun_mk (st := s_check_source) l26 c26 k26
  have b26 := F26.binds (ps := ["source"]) fun _ _ _ _ _ _ us hl => match us, hl with | [_], _ => rfl
  have F27 := fun_mk (st := s_is_source) l27 c27 k27
  have b27 := F27.binds (ps := ["source"]) fun _ _ _ _ _ _ us hl => match us, hl with | [_], _ => rfl
  have F28 := fun_mk (st := s_is_node) l28 c28 k28
  have b28 := F28.binds (ps := ["node", "at"]) fun _ _ _ _ _ _ us hl => match us, hl with | [_, _], _ => rfl
  have F29 := fun_mk (st := s_needs) l29 c29 k29
  have b29 := F29.binds (ps := ["source"]) fun _ _ _ _ _ _ us hl => match us, hl with | [_], _ => rfl
  have F30 := fun_mk (st := s_cost) l30 c30 k30
  have b30 := F30.binds (ps := ["source"]) fun _ _ _ _ _ _ us hl => match us, hl with | [_], _ => rfl
  have F31 := fun_mk (st := s_cost_of) l31 c31 k31
  have b31 := F31.binds (ps := ["node", "costs"]) fun _ _ _ _ _ _ us hl => match us, hl with | [_, _], _ => rfl
  have F32 := fun_mk (st := s_compile_source) l32 c32 k32
  have b32 := F32.binds (ps := ["source", "modulus"]) fun _ _ _ _ _ _ us hl => match us, hl with | [_, _], _ => rfl
  have F33 := fun_mk (st := s_answer) l33 c33 k33
  have b33 := F33.binds (ps := ["program", "memory", "given"]) fun _ _ _ _ _ _ us hl => match us, hl with | [_, _, _], _ => rfl
  have F34 := fun_mk (st := s_steps_of) l34 c34 k34
  have b34 := F34.binds (ps := ["source", "modulus"]) fun _ _ _ _ _ _ us hl => match us, hl with | [_, _], _ => rfl
  have F35 := fun_mk (st := s_without_scaling) l35 c35 k35
  have b35 := F35.binds (ps := ["source", "modulus"]) fun _ _ _ _ _ _ us hl => match us, hl with | [_, _], _ => rfl
  have F36 := fun_mk (st := s_parts_of) l36 c36 k36
  have b36 := F36.binds (ps := ["node", "target", "coefficient", "factors"]) fun _ _ _ _ _ _ us hl => match us, hl with | [_, _, _, _], _ => rfl
  have F37 := fun_mk (st := s_borrowed_cell) l37 c37 k37
  have b37 := F37.binds (ps := ["target", "factors"]) fun _ _ _ _ _ _ us hl => match us, hl with | [_, _], _ => rfl
  have F38 := fun_mk (st := s_law_mixed) l38 c38 k38
  have b38 := F38.binds (ps := ["number", "k"]) fun _ _ _ _ _ _ us hl => match us, hl with | [_, _], _ => rfl
  have F39 := fun_mk (st := s_law_numbers) l39 c39 k39
  have b39 := F39.binds (ps := ["script"]) fun _ _ _ _ _ _ us hl => match us, hl with | [_], _ => rfl
  have F40 := fun_mk (st := s_law_draw) l40 c40 k40
  have b40 := F40.binds (ps := ["draws"]) fun _ _ _ _ _ _ us hl => match us, hl with | [_], _ => rfl
  have F41 := fun_mk (st := s_law_equal) l41 c41 k41
  have b41 := F41.binds (ps := ["actual", "due"]) fun _ _ _ _ _ _ us hl => match us, hl with | [_, _], _ => rfl
  have F42 := fun_mk (st := s_law_all_equal) l42 c42 k42
  have b42 := F42.binds (ps := ["actual", "due"]) fun _ _ _ _ _ _ us hl => match us, hl with | [_, _], _ => rfl
  have F43 := fun_mk (st := s_law_large) l43 c43 k43
  have b43 := F43.binds (ps := ["draws", "bound"]) fun _ _ _ _ _ _ us hl => match us, hl with | [_, _], _ => rfl
  have F44 := fun_mk (st := s_law_modulus) l44 c44 k44
  have b44 := F44.binds (ps := ["draws"]) fun _ _ _ _ _ _ us hl => match us, hl with | [_], _ => rfl
  have F45 := fun_mk (st := s_law_number) l45 c45 k45
  have b45 := F45.binds (ps := ["draws", "modulus"]) fun _ _ _ _ _ _ us hl => match us, hl with | [_, _], _ => rfl
  have F46 := fun_mk (st := s_law_gcd) l46 c46 k46
  have b46 := F46.binds (ps := ["one", "two"]) fun _ _ _ _ _ _ us hl => match us, hl with | [_, _], _ => rfl
  have F47 := fun_mk (st := s_law_unit) l47 c47 k47
  have b47 := F47.binds (ps := ["draws", "modulus"]) fun _ _ _ _ _ _ us hl => match us, hl with | [_, _], _ => rfl
  have F48 := fun_mk (st := s_law_prime) l48 c48 k48
  have b48 := F48.binds (ps := ["draws"]) fun _ _ _ _ _ _ us hl => match us, hl with | [_], _ => rfl
  have F49 := fun_mk (st := s_law_table) l49 c49 k49
  have b49 := F49.binds (ps := ["draws", "prime"]) fun _ _ _ _ _ _ us hl => match us, hl with | [_, _], _ => rfl
  have F50 := fun_mk (st := s_law_factor) l50 c50 k50
  have b50 := F50.binds (ps := ["draws", "target", "cells", "inputs"]) fun _ _ _ _ _ _ us hl => match us, hl with | [_, _, _, _], _ => rfl
  have F51 := fun_mk (st := s_law_step) l51 c51 k51
  have b51 := F51.binds (ps := ["draws", "modulus", "cells", "inputs", "prime"]) fun _ _ _ _ _ _ us hl => match us, hl with | [_, _, _, _, _], _ => rfl
  have F52 := fun_mk (st := s_law_program) l52 c52 k52
  have b52 := F52.binds (ps := ["draws", "most"]) fun _ _ _ _ _ _ us hl => match us, hl with | [_, _], _ => rfl
  have F53 := fun_mk (st := s_law_made) l53 c53 k53
  have b53 := F53.binds (ps := ["model"]) fun _ _ _ _ _ _ us hl => match us, hl with | [_], _ => rfl
  have F54 := fun_mk (st := s_law_memory) l54 c54 k54
  have b54 := F54.binds (ps := ["draws", "model"]) fun _ _ _ _ _ _ us hl => match us, hl with | [_, _], _ => rfl
  have F55 := fun_mk (st := s_law_given) l55 c55 k55
  have b55 := F55.binds (ps := ["draws", "model"]) fun _ _ _ _ _ _ us hl => match us, hl with | [_, _], _ => rfl
  have F56 := fun_mk (st := s_law_power) l56 c56 k56
  have b56 := F56.binds (ps := ["base", "exponent", "prime"]) fun _ _ _ _ _ _ us hl => match us, hl with | [_, _, _], _ => rfl
  have F57 := fun_mk (st := s_law_basis) l57 c57 k57
  have b57 := F57.binds (ps := ["count", "at", "x", "prime"]) fun _ _ _ _ _ _ us hl => match us, hl with | [_, _, _, _], _ => rfl
  have F58 := fun_mk (st := s_law_interpolated) l58 c58 k58
  have b58 := F58.binds (ps := ["table", "prime", "x", "y"]) fun _ _ _ _ _ _ us hl => match us, hl with | [_, _, _, _], _ => rfl
  have F59 := fun_mk (st := s_law_product) l59 c59 k59
  have b59 := F59.binds (ps := ["step", "memory", "given", "modulus"]) fun _ _ _ _ _ _ us hl => match us, hl with | [_, _, _, _], _ => rfl
  have F60 := fun_mk (st := s_law_perform) l60 c60 k60
  have b60 := F60.binds (ps := ["step", "memory", "given", "modulus"]) fun _ _ _ _ _ _ us hl => match us, hl with | [_, _, _, _], _ => rfl
  have F61 := fun_mk (st := s_law_ran) l61 c61 k61
  have b61 := F61.binds (ps := ["model", "memory", "given"]) fun _ _ _ _ _ _ us hl => match us, hl with | [_, _, _], _ => rfl
  have F62 := fun_mk (st := s_law_constant) l62 c62 k62
  have b62 := F62.binds (ps := ["draws"]) fun _ _ _ _ _ _ us hl => match us, hl with | [_], _ => rfl
  have F63 := fun_mk (st := s_law_leaf) l63 c63 k63
  have b63 := F63.binds (ps := ["draws"]) fun _ _ _ _ _ _ us hl => match us, hl with | [_], _ => rfl
  have F64 := fun_mk (st := s_law_node) l64 c64 k64
  have b64 := F64.binds (ps := ["draws", "costs", "most"]) fun _ _ _ _ _ _ us hl => match us, hl with | [_, _, _], _ => rfl
  have F65 := fun_mk (st := s_law_source) l65 c65 k65
  have b65 := F65.binds (ps := ["draws", "most"]) fun _ _ _ _ _ _ us hl => match us, hl with | [_, _], _ => rfl
  have F66 := fun_mk (st := s_law_needs) l66 c66 k66
  have b66 := F66.binds (ps := ["source"]) fun _ _ _ _ _ _ us hl => match us, hl with | [_], _ => rfl
  have F67 := fun_mk (st := s_law_values) l67 c67 k67
  have b67 := F67.binds (ps := ["source", "modulus", "given"]) fun _ _ _ _ _ _ us hl => match us, hl with | [_, _, _], _ => rfl
  have F68 := fun_mk (st := s_law_meaning) l68 c68 k68
  have b68 := F68.binds (ps := ["source", "modulus", "given"]) fun _ _ _ _ _ _ us hl => match us, hl with | [_, _, _], _ => rfl
  have F69 := fun_mk (st := s_law_asked) l69 c69 k69
  have b69 := F69.binds (ps := ["program", "memory", "given", "due"]) fun _ _ _ _ _ _ us hl => match us, hl with | [_, _, _, _], _ => rfl
  have F70 := fun_mk (st := s_law_refused) l70 c70 k70
  have b70 := F70.binds (ps := ["program", "memory", "given"]) fun _ _ _ _ _ _ us hl => match us, hl with | [_, _, _], _ => rfl
  have F71 := fun_mk (st := s_law) l71 c71 k71
  have b71 := F71.binds (ps := ["script"]) fun _ _ _ _ _ _ us hl => match us, hl with | [_], _ => rfl
  have F72 := fun_mk (st := s_Program___init) l72 c72 k72
  have b72 := F72.binds (ps := ["self", "modulus", "cells", "inputs", "steps"]) fun _ _ _ _ _ _ us hl => match us, hl with | [_, _, _, _, _], _ => rfl
  have F73 := fun_mk (st := s_Program___neg) l73 c73 k73
  have b73 := F73.binds (ps := ["self"]) fun _ _ _ _ _ _ us hl => match us, hl with | [_], _ => rfl
  have F74 := fun_mk (st := s_Program_run) l74 c74 k74
  have b74 := F74.binds (ps := ["self", "memory", "given"]) fun _ _ _ _ _ _ us hl => match us, hl with | [_, _, _], _ => rfl
  exact ⟨PySem.W.fnOf "law" "law" (defArgs s_law) (defBody s_law) (defScope s_law) .none kV71 dc71 pm71 an71 cd71 ct71, fun s v => .of_eq rfl, fun base _ _ => ok_law (⟨_, _, F0, b0, PySem.W.mg_of X G a0, _, _, F1, b1, PySem.W.mg_of X G a1, _, _, F2, b2, PySem.W.mg_of X G a2, _, _, F3, b3, PySem.W.mg_of X G a3, _, _, F4, b4, PySem.W.mg_of X G a4, _, _, F5, b5, PySem.W.mg_of X G a5, _, _, F6, b6, PySem.W.mg_of X G a6, _, _, F7, b7, PySem.W.mg_of X G a7, _, _, F8, b8, PySem.W.mg_of X G a8, _, _, F9, b9, PySem.W.mg_of X G a9, _, _, F10, b10, PySem.W.mg_of X G a10, _, _, F11, b11, PySem.W.mg_of X G a11, _, _, F12, b12, PySem.W.mg_of X G a12, _, _, F13, b13, PySem.W.mg_of X G a13, _, _, F14, b14, PySem.W.mg_of X G a14, _, _, F15, b15, PySem.W.mg_of X G a15, _, _, F16, b16, PySem.W.mg_of X G a16, _, _, F17, b17, PySem.W.mg_of X G a17, _, _, F18, b18, PySem.W.mg_of X G a18, _, _, F19, b19, PySem.W.mg_of X G a19, _, _, F20, b20, PySem.W.mg_of X G a20, _, _, F21, b21, PySem.W.mg_of X G a21, _, _, F22, b22, PySem.W.mg_of X G a22, _, _, F23, b23, PySem.W.mg_of X G a23, _, _, F24, b24, PySem.W.mg_of X G a24, _, _, F25, b25, PySem.W.mg_of X G a25, _, _, F26, b26, PySem.W.mg_of X G a26, _, _, F27, b27, PySem.W.mg_of X G a27, _, _, F28, b28, PySem.W.mg_of X G a28, _, _, F29, b29, PySem.W.mg_of X G a29, _, _, F30, b30, PySem.W.mg_of X G a30, _, _, F31, b31, PySem.W.mg_of X G a31, _, _, F32, b32, PySem.W.mg_of X G a32, _, _, F33, b33, PySem.W.mg_of X G a33, _, _, F34, b34, PySem.W.mg_of X G a34, _, _, F35, b35, PySem.W.mg_of X G a35, _, _, F36, b36, PySem.W.mg_of X G a36, _, _, F37, b37, PySem.W.mg_of X G a37, _, _, F38, b38, PySem.W.mg_of X G a38, _, _, F39, b39, PySem.W.mg_of X G a39, _, _, F40, b40, PySem.W.mg_of X G a40, _, _, F41, b41, PySem.W.mg_of X G a41, _, _, F42, b42, PySem.W.mg_of X G a42, _, _, F43, b43, PySem.W.mg_of X G a43, _, _, F44, b44, PySem.W.mg_of X G a44, _, _, F45, b45, PySem.W.mg_of X G a45, _, _, F46, b46, PySem.W.mg_of X G a46, _, _, F47, b47, PySem.W.mg_of X G a47, _, _, F48, b48, PySem.W.mg_of X G a48, _, _, F49, b49, PySem.W.mg_of X G a49, _, _, F50, b50, PySem.W.mg_of X G a50, _, _, F51, b51, PySem.W.mg_of X G a51, _, _, F52, b52, PySem.W.mg_of X G a52, _, _, F53, b53, PySem.W.mg_of X G a53, _, _, F54, b54, PySem.W.mg_of X G a54, _, _, F55, b55, PySem.W.mg_of X G a55, _, _, F56, b56, PySem.W.mg_of X G a56, _, _, F57, b57, PySem.W.mg_of X G a57, _, _, F58, b58, PySem.W.mg_of X G a58, _, _, F59, b59, PySem.W.mg_of X G a59, _, _, F60, b60, PySem.W.mg_of X G a60, _, _, F61, b61, PySem.W.mg_of X G a61, _, _, F62, b62, PySem.W.mg_of X G a62, _, _, F63, b63, PySem.W.mg_of X G a63, _, _, F64, b64, PySem.W.mg_of X G a64, _, _, F65, b65, PySem.W.mg_of X G a65, _, _, F66, b66, PySem.W.mg_of X G a66, _, _, F67, b67, PySem.W.mg_of X G a67, _, _, F68, b68, PySem.W.mg_of X G a68, _, _, F69, b69, PySem.W.mg_of X G a69, _, _, F70, b70, PySem.W.mg_of X G a70, _, _, F71, b71, PySem.W.mg_of X G a71, _, _, F72, b72, _, _, F73, b73, _, _, F74, b74, C_Program, ⟨pg_Program, hd_Program, po_Program, sa_Program⟩, PySem.W.mg_of X G aC_Program, n_Program_modulus, n_Program_cells, n_Program_inputs, n_Program_steps, ⟨mk_Program, a72, i72, kc_Program⟩, ⟨a73, i73, k73⟩, ⟨a74, i74, k74⟩, E_BrimfulError, PySem.W.mg_of X G aE_BrimfulError, xE_BrimfulError, kE_BrimfulError, bE_BrimfulError, tE_BrimfulError, dE_BrimfulError, ⟨h1E_BrimfulError, h2E_BrimfulError, bE_BrimfulError, dE_BrimfulError, h3E_BrimfulError, hnE, htE, h4E_BrimfulError⟩, E_BadSource, PySem.W.mg_of X G aE_BadSource, xE_BadSource, kE_BadSource, bE_BadSource, tE_BadSource, dE_BadSource, ⟨h1E_BadSource, h2E_BadSource, bE_BadSource, dE_BadSource, h3E_BadSource, hnE, htE, h4E_BadSource⟩, E_BadStep, PySem.W.mg_of X G aE_BadStep, xE_BadStep, kE_BadStep, bE_BadStep, tE_BadStep, dE_BadStep, ⟨h1E_BadStep, h2E_BadStep, bE_BadStep, dE_BadStep, h3E_BadStep, hnE, htE, h4E_BadStep⟩, E_TooLong, PySem.W.mg_of X G aE_TooLong, xE_TooLong, kE_TooLong, bE_TooLong, tE_TooLong, dE_TooLong, ⟨h1E_TooLong, h2E_TooLong, bE_TooLong, dE_TooLong, h3E_TooLong, hnE, htE, h4E_TooLong⟩, E_BadMemory, PySem.W.mg_of X G aE_BadMemory, xE_BadMemory, kE_BadMemory, bE_BadMemory, tE_BadMemory, dE_BadMemory, ⟨h1E_BadMemory, h2E_BadMemory, bE_BadMemory, dE_BadMemory, h3E_BadMemory, hnE, htE, h4E_BadMemory⟩, sE_BrimfulError_BrimfulError, sE_BrimfulError_BadSource, sE_BrimfulError_BadStep, sE_BrimfulError_TooLong, sE_BrimfulError_BadMemory, sE_BadSource_BrimfulError, sE_BadSource_BadSource, sE_BadSource_BadStep, sE_BadSource_TooLong, sE_BadSource_BadMemory, sE_BadStep_BrimfulError, sE_BadStep_BadSource, sE_BadStep_BadStep, sE_BadStep_TooLong, sE_BadStep_BadMemory, sE_TooLong_BrimfulError, sE_TooLong_BadSource, sE_TooLong_BadStep, sE_TooLong_TooLong, sE_TooLong_BadMemory, sE_BadMemory_BrimfulError, sE_BadMemory_BadSource, sE_BadMemory_BadStep, sE_BadMemory_TooLong, sE_BadMemory_BadMemory, PySem.W.mg_none_of X G z_all, PySem.W.mg_none_of X G z_any, PySem.W.mg_none_of X G z_bool, PySem.W.mg_none_of X G z_enumerate, PySem.W.mg_none_of X G z_int, PySem.W.mg_none_of X G z_isinstance, PySem.W.mg_none_of X G z_len, PySem.W.mg_none_of X G z_list, PySem.W.mg_none_of X G z_max, PySem.W.mg_none_of X G z_min, PySem.W.mg_none_of X G z_range, PySem.W.mg_none_of X G z_str, PySem.W.mg_none_of X G z_sum, PySem.W.mg_none_of X G z_tuple, PySem.W.mg_none_of X G z_zip, PySem.W.mg_of X G z_gcd, PySem.W.mg_of X G z_isqrt, _, PySem.W.mg_of X G z_CELLS, _, PySem.W.mg_of X G z_CONSTANTS_END, _, PySem.W.mg_of X G z_GREATEST_MODULUS, _, PySem.W.mg_of X G z_MOST_CELLS, _, PySem.W.mg_of X G z_MOST_FACTORS, _, PySem.W.mg_of X G z_MOST_INPUTS_nodes, _, PySem.W.mg_of X G z_MOST_INPUTS_programs, _, PySem.W.mg_of X G z_MOST_NODES, _, PySem.W.mg_of X G z_MOST_STEPS⟩ : Txt K mg)⟩
end
end Br
open PySem PySem.W PyProof.Rows
set_option maxRecDepth 100000 in
set_option maxHeartbeats 0 in
theorem tt : PySem.Challenge.rw_brimful_k18_answers_out_of_full_memory.Holds := by
  w_on; o_law; k_head; (case hw => w_witness2)
  k_fill
  refine L2.walk_of (l := PySem.Challenge.rw_brimful_k18_answers_out_of_full_memory) (n := 63) (k := 26) (x := "script") (CX := fun _ => L2.CX0) (sp := fun w => Br.sp_law _) rfl (by decide) rfl ⟨rfl, by decide, by decide⟩ (fun w h Y => PySem.W.kIn_of Y) ?F (fun _ _ a ns hl _ hS => ⟨a, ns, rfl, hS, hl, fun _ => rfl⟩) (fun _ _ _ _ _ h => h)
  case F =>
    intro w mg fa h KX G hmg
    refine' Br.all_mk KX G hmg ?aC_Program ?pg_Program ?hd_Program ?po_Program ?sa_Program ?mk_Program ?kc_Program ?hnE ?htE ?aE_BrimfulError ?xE_BrimfulError ?kE_BrimfulError ?bE_BrimfulError ?tE_BrimfulError ?dE_BrimfulError ?h1E_BrimfulError ?h2E_BrimfulError ?h3E_BrimfulError ?h4E_BrimfulError ?aE_BadSource ?xE_BadSource ?kE_BadSource ?bE_BadSource ?tE_BadSource ?dE_BadSource ?h1E_BadSource ?h2E_BadSource ?h3E_BadSource ?h4E_BadSource ?aE_BadStep ?xE_BadStep ?kE_BadStep ?bE_BadStep ?tE_BadStep ?dE_BadStep ?h1E_BadStep ?h2E_BadStep ?h3E_BadStep ?h4E_BadStep ?aE_TooLong ?xE_TooLong ?kE_TooLong ?bE_TooLong ?tE_TooLong ?dE_TooLong ?h1E_TooLong ?h2E_TooLong ?h3E_TooLong ?h4E_TooLong ?aE_BadMemory ?xE_BadMemory ?kE_BadMemory ?bE_BadMemory ?tE_BadMemory ?dE_BadMemory ?h1E_BadMemory ?h2E_BadMemory ?h3E_BadMemory ?h4E_BadMemory ?sE_BrimfulError_BrimfulError ?sE_BrimfulError_BadSource ?sE_BrimfulError_BadStep ?sE_BrimfulError_TooLong ?sE_BrimfulError_BadMemory ?sE_BadSource_BrimfulError ?sE_BadSource_BadSource ?sE_BadSource_BadStep ?sE_BadSource_TooLong ?sE_BadSource_BadMemory ?sE_BadStep_BrimfulError ?sE_BadStep_BadSource ?sE_BadStep_BadStep ?sE_BadStep_TooLong ?sE_BadStep_BadMemory ?sE_TooLong_BrimfulError ?sE_TooLong_BadSource ?sE_TooLong_BadStep ?sE_TooLong_TooLong ?sE_TooLong_BadMemory ?sE_BadMemory_BrimfulError ?sE_BadMemory_BadSource ?sE_BadMemory_BadStep ?sE_BadMemory_TooLong ?sE_BadMemory_BadMemory ?a0 ?l0 ?c0 ?k0 ?a1 ?l1 ?c1 ?k1 ?a2 ?l2 ?c2 ?k2 ?a3 ?l3 ?c3 ?k3 ?a4 ?l4 ?c4 ?k4 ?a5 ?l5 ?c5 ?k5 ?a6 ?l6 ?c6 ?k6 ?a7 ?l7 ?c7 ?k7 ?a8 ?l8 ?c8 ?k8 ?a9 ?l9 ?c9 ?k9 ?a10 ?l10 ?c10 ?k10 ?a11 ?l11 ?c11 ?k11 ?a12 ?l12 ?c12 ?k12 ?a13 ?l13 ?c13 ?k13 ?a14 ?l14 ?c14 ?k14 ?a15 ?l15 ?c15 ?k15 ?a16 ?l16 ?c16 ?k16 ?a17 ?l17 ?c17 ?k17 ?a18 ?l18 ?c18 ?k18 ?a19 ?l19 ?c19 ?k19 ?a20 ?l20 ?c20 ?k20 ?a21 ?l21 ?c21 ?k21 ?a22 ?l22 ?c22 ?k22 ?a23 ?l23 ?c23 ?k23 ?a24 ?l24 ?c24 ?k24 ?a25 ?l25 ?c25 ?k25 ?a26 ?l26 ?c26 ?k26 ?a27 ?l27 ?c27 ?k27 ?a28 ?l28 ?c28 ?k28 ?a29 ?l29 ?c29 ?k29 ?a30 ?l30 ?c30 ?k30 ?a31 ?l31 ?c31 ?k31 ?a32 ?l32 ?c32 ?k32 ?a33 ?l33 ?c33 ?k33 ?a34 ?l34 ?c34 ?k34 ?a35 ?l35 ?c35 ?k35 ?a36 ?l36 ?c36 ?k36 ?a37 ?l37 ?c37 ?k37 ?a38 ?l38 ?c38 ?k38 ?a39 ?l39 ?c39 ?k39 ?a40 ?l40 ?c40 ?k40 ?a41 ?l41 ?c41 ?k41 ?a42 ?l42 ?c42 ?k42 ?a43 ?l43 ?c43 ?k43 ?a44 ?l44 ?c44 ?k44 ?a45 ?l45 ?c45 ?k45 ?a46 ?l46 ?c46 ?k46 ?a47 ?l47 ?c47 ?k47 ?a48 ?l48 ?c48 ?k48 ?a49 ?l49 ?c49 ?k49 ?a50 ?l50 ?c50 ?k50 ?a51 ?l51 ?c51 ?k51 ?a52 ?l52 ?c52 ?k52 ?a53 ?l53 ?c53 ?k53 ?a54 ?l54 ?c54 ?k54 ?a55 ?l55 ?c55 ?k55 ?a56 ?l56 ?c56 ?k56 ?a57 ?l57 ?c57 ?k57 ?a58 ?l58 ?c58 ?k58 ?a59 ?l59 ?c59 ?k59 ?a60 ?l60 ?c60 ?k60 ?a61 ?l61 ?c61 ?k61 ?a62 ?l62 ?c62 ?k62 ?a63 ?l63 ?c63 ?k63 ?a64 ?l64 ?c64 ?k64 ?a65 ?l65 ?c65 ?k65 ?a66 ?l66 ?c66 ?k66 ?a67 ?l67 ?c67 ?k67 ?a68 ?l68 ?c68 ?k68 ?a69 ?l69 ?c69 ?k69 ?a70 ?l70 ?c70 ?k70 ?a71 ?l71 ?c71 ?k71 ?a72 ?i72 ?l72 ?c72 ?k72 ?a73 ?i73 ?l73 ?c73 ?k73 ?a74 ?i74 ?l74 ?c74 ?k74 ?n_Program_modulus ?n_Program_cells ?n_Program_inputs ?n_Program_steps ?z_all ?z_any ?z_bool ?z_enumerate ?z_int ?z_isinstance ?z_len ?z_list ?z_max ?z_min ?z_range ?z_str ?z_sum ?z_tuple ?z_zip ?z_gcd ?z_isqrt ?z_CELLS ?z_CONSTANTS_END ?z_GREATEST_MODULUS ?z_MOST_CELLS ?z_MOST_FACTORS ?z_MOST_INPUTS_nodes ?z_MOST_INPUTS_programs ?z_MOST_NODES ?z_MOST_STEPS
    (case aC_Program => k_is)
    (case pg_Program => k_is)
    (case hd_Program => k_is)
    (case po_Program => k_is)
    (case sa_Program => k_is)
    (case mk_Program => k_is)
    (case kc_Program => k_is)
    (case hnE => k_is)
    (case htE => k_is)
    (case aE_BrimfulError => k_is)
    (case xE_BrimfulError => k_exc)
    (case kE_BrimfulError => k_is)
    (case bE_BrimfulError => k_is)
    (case tE_BrimfulError => k_is)
    (case dE_BrimfulError => k_is)
    (case h1E_BrimfulError => k_is)
    (case h2E_BrimfulError => k_is)
    (case h3E_BrimfulError => k_is)
    (case h4E_BrimfulError => k_is)
    (case aE_BadSource => k_is)
    (case xE_BadSource => k_exc)
    (case kE_BadSource => k_is)
    (case bE_BadSource => k_is)
    (case tE_BadSource => k_is)
    (case dE_BadSource => k_is)
    (case h1E_BadSource => k_is)
    (case h2E_BadSource => k_is)
    (case h3E_BadSource => k_is)
    (case h4E_BadSource => k_is)
    (case aE_BadStep => k_is)
    (case xE_BadStep => k_exc)
    (case kE_BadStep => k_is)
    (case bE_BadStep => k_is)
    (case tE_BadStep => k_is)
    (case dE_BadStep => k_is)
    (case h1E_BadStep => k_is)
    (case h2E_BadStep => k_is)
    (case h3E_BadStep => k_is)
    (case h4E_BadStep => k_is)
    (case aE_TooLong => k_is)
    (case xE_TooLong => k_exc)
    (case kE_TooLong => k_is)
    (case bE_TooLong => k_is)
    (case tE_TooLong => k_is)
    (case dE_TooLong => k_is)
    (case h1E_TooLong => k_is)
    (case h2E_TooLong => k_is)
    (case h3E_TooLong => k_is)
    (case h4E_TooLong => k_is)
    (case aE_BadMemory => k_is)
    (case xE_BadMemory => k_exc)
    (case kE_BadMemory => k_is)
    (case bE_BadMemory => k_is)
    (case tE_BadMemory => k_is)
    (case dE_BadMemory => k_is)
    (case h1E_BadMemory => k_is)
    (case h2E_BadMemory => k_is)
    (case h3E_BadMemory => k_is)
    (case h4E_BadMemory => k_is)
    (case sE_BrimfulError_BrimfulError => first | rfl | k_is)
    (case sE_BrimfulError_BadSource => first | rfl | k_is)
    (case sE_BrimfulError_BadStep => first | rfl | k_is)
    (case sE_BrimfulError_TooLong => first | rfl | k_is)
    (case sE_BrimfulError_BadMemory => first | rfl | k_is)
    (case sE_BadSource_BrimfulError => first | rfl | k_is)
    (case sE_BadSource_BadSource => first | rfl | k_is)
    (case sE_BadSource_BadStep => first | rfl | k_is)
    (case sE_BadSource_TooLong => first | rfl | k_is)
    (case sE_BadSource_BadMemory => first | rfl | k_is)
    (case sE_BadStep_BrimfulError => first | rfl | k_is)
    (case sE_BadStep_BadSource => first | rfl | k_is)
    (case sE_BadStep_BadStep => first | rfl | k_is)
    (case sE_BadStep_TooLong => first | rfl | k_is)
    (case sE_BadStep_BadMemory => first | rfl | k_is)
    (case sE_TooLong_BrimfulError => first | rfl | k_is)
    (case sE_TooLong_BadSource => first | rfl | k_is)
    (case sE_TooLong_BadStep => first | rfl | k_is)
    (case sE_TooLong_TooLong => first | rfl | k_is)
    (case sE_TooLong_BadMemory => first | rfl | k_is)
    (case sE_BadMemory_BrimfulError => first | rfl | k_is)
    (case sE_BadMemory_BadSource => first | rfl | k_is)
    (case sE_BadMemory_BadStep => first | rfl | k_is)
    (case sE_BadMemory_TooLong => first | rfl | k_is)
    (case sE_BadMemory_BadMemory => first | rfl | k_is)
    (case a0 => k_is)
    (case l0 => k_is)
    (case c0 => k_is)
    (case k0 => k_is)
    (case a1 => k_is)
    (case l1 => k_is)
    (case c1 => k_is)
    (case k1 => k_is)
    (case a2 => k_is)
    (case l2 => k_is)
    (case c2 => k_is)
    (case k2 => k_is)
    (case a3 => k_is)
    (case l3 => k_is)
    (case c3 => k_is)
    (case k3 => k_is)
    (case a4 => k_is)
    (case l4 => k_is)
    (case c4 => k_is)
    (case k4 => k_is)
    (case a5 => k_is)
    (case l5 => k_is)
    (case c5 => k_is)
    (case k5 => k_is)
    (case a6 => k_is)
    (case l6 => k_is)
    (case c6 => k_is)
    (case k6 => k_is)
    (case a7 => k_is)
    (case l7 => k_is)
    (case c7 => k_is)
    (case k7 => k_is)
    (case a8 => k_is)
    (case l8 => k_is)
    (case c8 => k_is)
    (case k8 => k_is)
    (case a9 => k_is)
    (case l9 => k_is)
    (case c9 => k_is)
    (case k9 => k_is)
    (case a10 => k_is)
    (case l10 => k_is)
    (case c10 => k_is)
    (case k10 => k_is)
    (case a11 => k_is)
    (case l11 => k_is)
    (case c11 => k_is)
    (case k11 => k_is)
    (case a12 => k_is)
    (case l12 => k_is)
    (case c12 => k_is)
    (case k12 => k_is)
    (case a13 => k_is)
    (case l13 => k_is)
    (case c13 => k_is)
    (case k13 => k_is)
    (case a14 => k_is)
    (case l14 => k_is)
    (case c14 => k_is)
    (case k14 => k_is)
    (case a15 => k_is)
    (case l15 => k_is)
    (case c15 => k_is)
    (case k15 => k_is)
    (case a16 => k_is)
    (case l16 => k_is)
    (case c16 => k_is)
    (case k16 => k_is)
    (case a17 => k_is)
    (case l17 => k_is)
    (case c17 => k_is)
    (case k17 => k_is)
    (case a18 => k_is)
    (case l18 => k_is)
    (case c18 => k_is)
    (case k18 => k_is)
    (case a19 => k_is)
    (case l19 => k_is)
    (case c19 => k_is)
    (case k19 => k_is)
    (case a20 => k_is)
    (case l20 => k_is)
    (case c20 => k_is)
    (case k20 => k_is)
    (case a21 => k_is)
    (case l21 => k_is)
    (case c21 => k_is)
    (case k21 => k_is)
    (case a22 => k_is)
    (case l22 => k_is)
    (case c22 => k_is)
    (case k22 => k_is)
    (case a23 => k_is)
    (case l23 => k_is)
    (case c23 => k_is)
    (case k23 => k_is)
    (case a24 => k_is)
    (case l24 => k_is)
    (case c24 => k_is)
    (case k24 => k_is)
    (case a25 => k_is)
    (case l25 => k_is)
    (case c25 => k_is)
    (case k25 => k_is)
    (case a26 => k_is)
    (case l26 => k_is)
    (case c26 => k_is)
    (case k26 => k_is)
    (case a27 => k_is)
    (case l27 => k_is)
    (case c27 => k_is)
    (case k27 => k_is)
    (case a28 => k_is)
    (case l28 => k_is)
    (case c28 => k_is)
    (case k28 => k_is)
    (case a29 => k_is)
    (case l29 => k_is)
    (case c29 => k_is)
    (case k29 => k_is)
    (case a30 => k_is)
    (case l30 => k_is)
    (case c30 => k_is)
    (case k30 => k_is)
    (case a31 => k_is)
    (case l31 => k_is)
    (case c31 => k_is)
    (case k31 => k_is)
    (case a32 => k_is)
    (case l32 => k_is)
    (case c32 => k_is)
    (case k32 => k_is)
    (case a33 => k_is)
    (case l33 => k_is)
    (case c33 => k_is)
    (case k33 => k_is)
    (case a34 => k_is)
    (case l34 => k_is)
    (case c34 => k_is)
    (case k34 => k_is)
    (case a35 => k_is)
    (case l35 => k_is)
    (case c35 => k_is)
    (case k35 => k_is)
    (case a36 => k_is)
    (case l36 => k_is)
    (case c36 => k_is)
    (case k36 => k_is)
    (case a37 => k_is)
    (case l37 => k_is)
    (case c37 => k_is)
    (case k37 => k_is)
    (case a38 => k_is)
    (case l38 => k_is)
    (case c38 => k_is)
    (case k38 => k_is)
    (case a39 => k_is)
    (case l39 => k_is)
    (case c39 => k_is)
    (case k39 => k_is)
    (case a40 => k_is)
    (case l40 => k_is)
    (case c40 => k_is)
    (case k40 => k_is)
    (case a41 => k_is)
    (case l41 => k_is)
    (case c41 => k_is)
    (case k41 => k_is)
    (case a42 => k_is)
    (case l42 => k_is)
    (case c42 => k_is)
    (case k42 => k_is)
    (case a43 => k_is)
    (case l43 => k_is)
    (case c43 => k_is)
    (case k43 => k_is)
    (case a44 => k_is)
    (case l44 => k_is)
    (case c44 => k_is)
    (case k44 => k_is)
    (case a45 => k_is)
    (case l45 => k_is)
    (case c45 => k_is)
    (case k45 => k_is)
    (case a46 => k_is)
    (case l46 => k_is)
    (case c46 => k_is)
    (case k46 => k_is)
    (case a47 => k_is)
    (case l47 => k_is)
    (case c47 => k_is)
    (case k47 => k_is)
    (case a48 => k_is)
    (case l48 => k_is)
    (case c48 => k_is)
    (case k48 => k_is)
    (case a49 => k_is)
    (case l49 => k_is)
    (case c49 => k_is)
    (case k49 => k_is)
    (case a50 => k_is)
    (case l50 => k_is)
    (case c50 => k_is)
    (case k50 => k_is)
    (case a51 => k_is)
    (case l51 => k_is)
    (case c51 => k_is)
    (case k51 => k_is)
    (case a52 => k_is)
    (case l52 => k_is)
    (case c52 => k_is)
    (case k52 => k_is)
    (case a53 => k_is)
    (case l53 => k_is)
    (case c53 => k_is)
    (case k53 => k_is)
    (case a54 => k_is)
    (case l54 => k_is)
    (case c54 => k_is)
    (case k54 => k_is)
    (case a55 => k_is)
    (case l55 => k_is)
    (case c55 => k_is)
    (case k55 => k_is)
    (case a56 => k_is)
    (case l56 => k_is)
    (case c56 => k_is)
    (case k56 => k_is)
    (case a57 => k_is)
    (case l57 => k_is)
    (case c57 => k_is)
    (case k57 => k_is)
    (case a58 => k_is)
    (case l58 => k_is)
    (case c58 => k_is)
    (case k58 => k_is)
    (case a59 => k_is)
    (case l59 => k_is)
    (case c59 => k_is)
    (case k59 => k_is)
    (case a60 => k_is)
    (case l60 => k_is)
    (case c60 => k_is)
    (case k60 => k_is)
    (case a61 => k_is)
    (case l61 => k_is)
    (case c61 => k_is)
    (case k61 => k_is)
    (case a62 => k_is)
    (case l62 => k_is)
    (case c62 => k_is)
    (case k62 => k_is)
    (case a63 => k_is)
    (case l63 => k_is)
    (case c63 => k_is)
    (case k63 => k_is)
    (case a64 => k_is)
    (case l64 => k_is)
    (case c64 => k_is)
    (case k64 => k_is)
    (case a65 => k_is)
    (case l65 => k_is)
    (case c65 => k_is)
    (case k65 => k_is)
    (case a66 => k_is)
    (case l66 => k_is)
    (case c66 => k_is)
    (case k66 => k_is)
    (case a67 => k_is)
    (case l67 => k_is)
    (case c67 => k_is)
    (case k67 => k_is)
    (case a68 => k_is)
    (case l68 => k_is)
    (case c68 => k_is)
    (case k68 => k_is)
    (case a69 => k_is)
    (case l69 => k_is)
    (case c69 => k_is)
    (case k69 => k_is)
    (case a70 => k_is)
    (case l70 => k_is)
    (case c70 => k_is)
    (case k70 => k_is)
    (case a71 => k_is)
    (case l71 => k_is)
    (case c71 => k_is)
    (case k71 => k_is)
    (case a72 => k_is)
    (case i72 => k_is)
    (case l72 => k_is)
    (case c72 => k_is)
    (case k72 => k_is)
    (case a73 => k_is)
    (case i73 => k_is)
    (case l73 => k_is)
    (case c73 => k_is)
    (case k73 => k_is)
    (case a74 => k_is)
    (case i74 => k_is)
    (case l74 => k_is)
    (case c74 => k_is)
    (case k74 => k_is)
    (case n_Program_modulus => k_is)
    (case n_Program_cells => k_is)
    (case n_Program_inputs => k_is)
    (case n_Program_steps => k_is)
    (case z_all => k_is)
    (case z_any => k_is)
    (case z_bool => k_is)
    (case z_enumerate => k_is)
    (case z_int => k_is)
    (case z_isinstance => k_is)
    (case z_len => k_is)
    (case z_list => k_is)
    (case z_max => k_is)
    (case z_min => k_is)
    (case z_range => k_is)
    (case z_str => k_is)
    (case z_sum => k_is)
    (case z_tuple => k_is)
    (case z_zip => k_is)
    (case z_gcd => k_is)
    (case z_isqrt => k_is)
    (case z_CELLS => k_is)
    (case z_CONSTANTS_END => k_is)
    (case z_GREATEST_MODULUS => k_is)
    (case z_MOST_CELLS => k_is)
    (case z_MOST_FACTORS => k_is)
    (case z_MOST_INPUTS_nodes => k_is)
    (case z_MOST_INPUTS_programs => k_is)
    (case z_MOST_NODES => k_is)
    (case z_MOST_STEPS => k_is)
theorem PySem.Challenge.cw_brimful_k18_answers_out_of_full_memory_holds : PySem.Challenge.rw_brimful_k18_answers_out_of_full_memory.Holds := by
  exact tt
