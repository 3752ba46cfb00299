import PyProof.Rows.All
import Wide.All
import OpenK.AllK
import Wide.FinOn
import HandS.ForMost
import HandS.Gcd
import HandS.Wide
import HandS.IsInst
import HandS.Steps
import HandS.SortKw
import HandS.Style
import HandS.Star
import HandS.SetFor
import HandS.TupAny
import PyProof.SetRoads
import PyProof.Rows.SetFrom
import KE.DataMinMax
import HandS.Evl
import HandS.Walk
import HandS.ForExc
import HandS.ExcIs
import HandS.RaiseMore
import HandS.FStr
import KE.GoesEnum
import PyProof.Rows.MatchSeqLen
import Flt.RightSqrt
import PySem.Challenge.RW_brimful_k37_trees_are_checked
set_option Elab.async false
set_option linter.all false
set_option maxRecDepth 100000
set_option maxHeartbeats 4000000

namespace Br
open PySem PySem.Spec PyProof.Rows L2

/-! ### readings with names -/
def rLen (K : PySem.W.Frag) : List V → Hp → VK → Prop := fun xs H Q => ∃ p ys, xs = [.ref p] ∧ (SqL K H p ys ∨ SqT K H p ys) ∧ Q (.int ys.length) H
theorem cr_len {X : Cx} : CallR X (.builtin "len") (rLen X.K) := call_len_seq
def rInt1 : List V → Hp → VK → Prop := fun xs H Q => (∃ i, xs = [.int i] ∧ Q (.int i) H) ∨ ∃ k, xs = [.bl k] ∧ Q (.int (if k then 1 else 0)) H
theorem cr_int1 {X : Cx} : CallR X (.type "int") rInt1 := call_int1
def rMin2 : List V → Hp → VK → Prop := fun xs H Q => ∃ i j, xs = [.int i, .int j] ∧ Q (.int (if j < i then j else i)) H
theorem cr_min2 {X : Cx} (hc : X.calm = true) : CallR X (.builtin "min") rMin2 := call_min2 hc
def rMax2 : List V → Hp → VK → Prop := fun xs H Q => ∃ i j, xs = [.int i, .int j] ∧ Q (.int (if j > i then j else i)) H
theorem cr_max2 {X : Cx} (hc : X.calm = true) : CallR X (.builtin "max") rMax2 := call_max2 hc
def rListOf (K : PySem.W.Frag) : List V → Hp → VK → Prop := fun xs H Q => ∃ p ys, xs = [.ref p] ∧ (SqL K H p ys ∨ SqT K H p ys) ∧ ∀ l, H l = none → Q (.ref l) (upd H l (.lst ys))
theorem cr_list_of {X : Cx} : CallR X (.type "list") (rListOf X.K) := call_list_of
def rTupOf (K : PySem.W.Frag) : List V → Hp → VK → Prop := fun xs H Q => ∃ p ys, xs = [.ref p] ∧ ((SqL K H p ys ∧ ∀ l, H l = none → Q (.ref l) (upd H l (.tup ys))) ∨ (SqT K H p ys ∧ Q (.ref p) H))
theorem cr_tup_of {X : Cx} : CallR X (.type "tuple") (rTupOf X.K) := call_tuple_of
def cr_isqrt_r : List V → Hp → VK → Prop := fun vs H Q => ∃ i : Int, vs = [.int i] ∧ 0 ≤ i ∧ i < 2 ^ 64 ∧ Q (.int ((Float64.isqrt i.toNat : Nat) : Int)) H
/-! ### steps of a reading -/
section
variable {σ : L2.St} {H : Hp} {D : Ends} {Q : VK} {QT : Bool → Hp → Prop} {QA : List V → Hp → Prop} {K : PySem.W.Frag}
theorem x_seq {a u : TS} (h : a ⟨u D, D.rt, D.bk, D.ct⟩ σ H) : tSeq a u D σ H := h
theorem x_cut {a u : TS} (M : L2.St → Hp → Prop) (h : a ⟨M, D.rt, D.bk, D.ct⟩ σ H) (k : ∀ σ' H', M σ' H' → u D σ' H') : Evl.tCut a u D σ H := ⟨M, h, k⟩
theorem x_next (h : D.nx σ H) : tNext D σ H := h
theorem x_set {te : TE} {i : Nat} (h : te σ H fun x H1 => D.nx (σ.set i (some x)) H1) : tAsg te (gName i) D σ H := h
theorem x_asg {te : TE} {g : TG} (h : te σ H fun x H1 => g x σ H1 D.nx) : tAsg te g D σ H := h
/-- what a field's reading asks of the object -/
def FldR (K : PySem.W.Frag) (f : Str) (x : V) (H : Hp) (Q : VK) : Prop := ∃ a C dx fs v, x = .ref a ∧ H a = some (.ins C dx fs) ∧ Cls K C ∧ NoAttr K C f ∧ fs.lookup f = some v ∧ Q v H
theorem x_fld {ta : TE} {f : Str} (h : ta σ H fun x H1 => FldR K f x H1 Q) : tFld K ta f σ H Q := h
theorem x_fldR {a C dx : Addr} {fs : List (Str × V)} {f : Str} {v : V} (h : H a = some (.ins C dx fs)) (c : Cls K C) (n : NoAttr K C f) (l : fs.lookup f = some v) (q : Q v H) : FldR K f (.ref a) H Q := ⟨a, C, dx, fs, v, rfl, h, c, n, l, q⟩
/-- what storing a field asks -/
def FldS (K : PySem.W.Frag) (f : Str) (y x : V) (H : Hp) (R : Hp → Prop) : Prop := ∃ a C dx fs, x = .ref a ∧ H a = some (.ins C dx fs) ∧ Cls K C ∧ NoAttr K C f ∧ fs.length < 1000 ∧ R (upd H a (.ins C dx (putF f y fs)))
theorem x_fldS {ta tv : TE} {f : Str} (h : tv σ H fun y H1 => ta σ H1 fun x H2 => FldS K f y x H2 fun H3 => D.nx σ H3) : sFld K ta tv f D σ H := h
theorem x_gName {i : Nat} {v : V} {R : L2.St → Hp → Prop} (h : R (σ.set i (some v)) H) : gName i v σ H R := h
theorem x_par {i j : Nat} {ta tb : TE} (h : ta σ H fun x H1 => tb σ H1 fun y H2 => D.nx ((σ.set i (some x)).set j (some y)) H2) : tPar i j (tCons ta (tCons tb tNil)) D σ H :=
  (congrArg (fun (f : (V → Hp → Prop)) => ta σ H f) (funext fun x => funext fun H1 => congrArg (fun (f : (V → Hp → Prop)) => tb σ H1 f) (funext fun y => funext fun H2 => propext
    ⟨fun h => ⟨x, y, rfl, h⟩, fun ⟨v, w, e, h⟩ => by cases e; exact h⟩))).mp h
theorem x_ret {te : TE} (h : te σ H D.rt) : tRet te D σ H := h
theorem x_retN (h : D.rt .non H) : tRetN D σ H := h
theorem x_drop {te : TE} (h : te σ H fun _ H1 => D.nx σ H1) : tDrop te D σ H := h
theorem x_if {c : TT} {t u : TS} (h : c σ H fun b H1 => if b = true then t D σ H1 else u D σ H1) : tIfS c t u D σ H := h
theorem x_brk (h : D.bk σ H) : tBreak D σ H := h
theorem x_cont (h : D.ct σ H) : tCont D σ H := h
theorem x_var {i : Nat} {v : V} (h : σ[i]? = some (some v)) (q : Q v H) : tVar i σ H Q := ⟨v, h, q⟩
theorem x_c {v : V} (q : Q v H) : tC v σ H Q := q
theorem x_op {r : R2} {ta tb : TE} (h : ta σ H fun x H1 => tb σ H1 fun y H2 => r x y H2 Q) : tOp r ta tb σ H Q := h
theorem x_un {r : V → Hp → VK → Prop} {ta : TE} (h : ta σ H fun x H1 => r x H1 Q) : tUn r ta σ H Q := h
theorem x_I0 {g : Int → Int → V} {i j : Int} (q : Q (g i j) H) : rI0 g (.int i) (.int j) H Q := ⟨i, j, rfl, rfl, q⟩
theorem x_I {C : Int → Int → Prop} {g : Int → Int → V} {i j : Int} (c : C i j) (q : Q (g i j) H) : rI C g (.int i) (.int j) H Q := ⟨i, j, rfl, rfl, c, q⟩
theorem x_U {g : Int → V} {i : Int} (q : Q (g i) H) : rU g (.int i) H Q := ⟨i, rfl, q⟩
theorem v_int {i j : Int} : decide (V.int i = V.int j) = decide (i = j) := decide_eq_decide.mpr ⟨fun h => V.int.inj h, fun h => h ▸ rfl⟩
theorem x_EqI {i j : Int} (q : Q (.bl (decide (i = j))) H) : rEq (.int i) (.int j) H Q := ⟨rfl, v_int ▸ q⟩
theorem x_NeI {i j : Int} (q : Q (.bl (!decide (i = j))) H) : rNe (.int i) (.int j) H Q := ⟨rfl, by rw [v_int]; exact q⟩
theorem x_EqB {i j : Bool} (q : Q (.bl (decide (i = j))) H) : rEq (.bl i) (.bl j) H Q := ⟨rfl, by
  have e : decide (V.bl i = V.bl j) = decide (i = j) := decide_eq_decide.mpr ⟨fun h => V.bl.inj h, fun h => h ▸ rfl⟩
  rw [e]; exact q⟩
theorem x_Eq {x y : V} (s : scal x y = true) (q : Q (.bl (decide (x = y))) H) : rEq x y H Q := ⟨s, q⟩
theorem x_Ne {x y : V} (s : scal x y = true) (q : Q (.bl (!decide (x = y))) H) : rNe x y H Q := ⟨s, q⟩
theorem x_isN {x : V} (q : Q (.bl (decide (x = .non))) H) : (fun (x y : V) (H : Hp) (Q : VK) => y = V.non ∧ Q (.bl (decide (x = .non))) H) x .non H Q := ⟨rfl, q⟩
theorem x_ifE {t : TT} {ta tb : TE} (h : t σ H fun c H1 => if c = true then ta σ H1 Q else tb σ H1 Q) : tIf t ta tb σ H Q := h
theorem x_test {te : TE} {b : Unit} (h : te σ H fun x H1 => ∃ k, x = .bl k ∧ QT k H1) : tTest te σ H QT := h
theorem x_tB {te : TE} (h : te σ H fun x H1 => ∃ k, x = .bl k ∧ QT k H1) : tB te σ H QT := h
theorem x_bl {k : Bool} (q : QT k H) : ∃ k', V.bl k = .bl k' ∧ QT k' H := ⟨k, rfl, q⟩
theorem x_and {t u : TT} (h : t σ H fun c H1 => if c = true then u σ H1 QT else QT false H1) : tAnd t u σ H QT := h
theorem x_or {t u : TT} (h : t σ H fun c H1 => if c = true then QT true H1 else u σ H1 QT) : tOr t u σ H QT := h
theorem x_not {t : TT} (h : t σ H fun c H1 => QT (!c) H1) : tNot t σ H QT := h
theorem x_andV {ta tb : TE} (h : ta σ H fun x H1 => ∃ c, x = .bl c ∧ if c = true then tb σ H1 Q else Q (.bl false) H1) : tAndV ta tb σ H Q := h
theorem x_orV {ta tb : TE} (h : ta σ H fun x H1 => ∃ c, x = .bl c ∧ if c = true then Q (.bl true) H1 else tb σ H1 Q) : tOrV ta tb σ H Q := h
theorem x_notV {ta : TE} (h : ta σ H fun x H1 => ∃ c, x = .bl c ∧ Q (.bl (!c)) H1) : tNotV ta σ H Q := h
theorem x_blP {k : Bool} {P : Bool → Prop} (q : P k) : ∃ k', V.bl k = .bl k' ∧ P k' := ⟨k, rfl, q⟩
theorem x_nil (q : QA [] H) : tNil σ H QA := q
theorem x_cons {ta : TE} {tr : TA} (h : ta σ H fun x H1 => tr σ H1 fun xs H2 => QA (x :: xs) H2) : tCons ta tr σ H QA := h
theorem x_call {sp : Sp} {dvs : List V} {E : XK} {t : TA} (h : t σ H fun vs H1 => sp (vs ++ dvs) H1 Q E) : tCall sp dvs E t σ H Q := h
theorem x_CB {r : List V → Hp → VK → Prop} {t : TA} (h : t σ H fun vs H1 => r vs H1 Q) : tCB r t σ H Q := h
theorem x_BM {T : String} {r : V → List V → Hp → VK → Prop} {to : TE} {t : TA} (h : to σ H fun x H1 => tyV K T x H1 ∧ t σ H1 fun xs H2 => r x xs H2 Q) : tBM K T r to t σ H Q := h
theorem x_tup {t : TA} (h : t σ H fun xs H1 => xs.length ≤ sizeLine ∧ ∀ p, H1 p = none → Q (.ref p) (upd H1 p (.tup xs))) : tTup t σ H Q := h
theorem x_lst {t : TA} (h : t σ H fun xs H1 => xs.length ≤ sizeLine ∧ ∀ p, H1 p = none → Q (.ref p) (upd H1 p (.lst xs))) : tLst t σ H Q := h
theorem x_chain {r r' : R2} {ta tb tc : TE} (h : ta σ H fun x H1 => tb σ H1 fun y H2 => r x y H2 fun z H3 => ∃ k, z = .bl k ∧
  (if k = true then tc σ H3 fun w' H4 => r' y w' H4 Q else Q (.bl false) H3)) : tChain r r' ta tb tc σ H Q := h
theorem x_isi {x : V} {T S : String} {b : Bool} (ty : TyX K H x (.type S)) (h : kitB S T = some b) (q : Q (.bl b) H) : rIsi K [x, .ty T] H Q := ⟨x, .ty T, .type S, .type T, b, rfl, .ty T, ty, kit_ty h, q⟩
theorem x_iN {x : V} (q : Q (.bl (decide (x = .non))) H) : rIsN x .non H Q := ⟨rfl, q⟩
theorem x_nN {x : V} (q : Q (.bl (!decide (x = .non))) H) : rNotN x .non H Q := ⟨rfl, q⟩
theorem x_int1 {i : Int} (q : Q (.int i) H) : rInt1 [.int i] H Q := .inl ⟨i, rfl, q⟩
theorem x_min2 {i j : Int} (q : Q (.int (if j < i then j else i)) H) : rMin2 [.int i, .int j] H Q := ⟨i, j, rfl, q⟩
theorem x_max2 {i j : Int} (q : Q (.int (if j > i then j else i)) H) : rMax2 [.int i, .int j] H Q := ⟨i, j, rfl, q⟩
theorem x_listL {p : Addr} {xs : List V} (hp : SqL K H p xs) (q : ∀ l, H l = none → Q (.ref l) (upd H l (.lst xs))) : rListOf K [.ref p] H Q := ⟨p, xs, rfl, .inl hp, q⟩
theorem x_tupL {p : Addr} {xs : List V} (hp : SqL K H p xs) (q : ∀ l, H l = none → Q (.ref l) (upd H l (.tup xs))) : rTupOf K [.ref p] H Q := ⟨p, xs, rfl, .inl ⟨hp, q⟩⟩
theorem x_ite {p : Prop} [Decidable p] {A B : Prop} (h1 : p → A) (h2 : ¬ p → B) : if decide p = true then A else B := by
  by_cases h : p
  · rw [if_pos (decide_eq_true h)]; exact h1 h
  · rw [if_neg (by rw [decide_eq_false h]; exact Bool.false_ne_true)]; exact h2 h
theorem x_iteN {p : Prop} [Decidable p] {A B : Prop} (h1 : ¬ p → A) (h2 : p → B) : if (!decide p) = true then A else B := by
  by_cases h : p
  · rw [if_neg (by rw [decide_eq_true h]; decide)]; exact h2 h
  · rw [if_pos (by rw [decide_eq_false h]; rfl)]; exact h1 h
theorem x_iteB {b : Bool} {A B : Prop} (h1 : b = true → A) (h2 : b = false → B) : if b = true then A else B := by
  cases b with
  | true => rw [if_pos rfl]; exact h1 rfl
  | false => rw [if_neg Bool.false_ne_true]; exact h2 rfl
theorem x_iteBN {b : Bool} {A B : Prop} (h1 : b = false → A) (h2 : b = true → B) : if (!b) = true then A else B := by
  cases b with
  | true => rw [if_neg (by decide)]; exact h2 rfl
  | false => rw [if_pos (by decide)]; exact h1 rfl
theorem x_subL {i : Int} {x : V} {xs : List V} {p : Addr} {k : Nat} {q : Hp → Prop} (hp : H p = some (.lst xs)) (hk : ixN xs.length i = some k) (h : q (upd H p (.lst (xs.set k x)))) : rSetL (.ref p) (.int i) x H q :=
  ⟨p, xs, i, k, rfl, rfl, hp, hk, h⟩
theorem x_gSub {to ti : TE} {t : TSet} {v : V} {q : L2.St → Hp → Prop} (h : to σ H fun o H1 => ti σ H1 fun i H2 => t o i v H2 fun H3 => q σ H3) : gSub to ti t v σ H q := h
theorem x_for {wi : TI} {g : TG} {tb : TS} (h : wi σ H fun J H1 => ∃ W : Nat → Nat → L2.St → Hp → Prop, (∃ m, W 0 m σ H1) ∧ ∀ i m σ H, W i m σ H →
  (J.stop i H ∧ D.nx σ H) ∨ (J.go i H ∧ ∃ N : L2.St → Hp → Prop, (∀ σ' H', N σ' H' → ∃ m', m' < m ∧ W (i + 1) m' σ' H') ∧ ∀ x H', J.yld i H x H' → g x σ H' fun σ2 H2 => tb { D with nx := N, ct := N, bk := D.nx } σ2 H2)) : tFor wi g tb D σ H := h
theorem x_ixL {xs : List V} {i : Int} {v : V} {p : Addr} (hp : SqL K H p xs) (hi : atI xs i = some v) (q : Q v H) : rIxL K (.ref p) (.int i) H Q := ⟨p, xs, i, v, rfl, rfl, hp, hi, q⟩
theorem x_ixT {xs : List V} {i : Int} {v : V} {p : Addr} (hp : SqT K H p xs) (hi : atI xs i = some v) (q : Q v H) : rIxT K (.ref p) (.int i) H Q := ⟨p, xs, i, v, rfl, rfl, hp, hi, q⟩
/-- over a range from nought, of at most so many turns; the target a name -/
theorem x_forR1 {ta : TE} {j : Nat} {tb : TS} (n : Int) (P : Nat → L2.St → Hp → Prop) (hn : ∀ R : V → Hp → Prop, R (.int n) H → ta σ H R) (h1 : -(2 ^ 62) ≤ n) (h2 : n < 2 ^ 62) (h0 : P 0 σ H)
    (hs : ∀ (i : Nat) σ' H', (i : Int) < n → P i σ' H' → tb ⟨P (i + 1), D.rt, D.nx, P (i + 1)⟩ (σ'.set j (some (.int (i : Int)))) H') (hd : ∀ σ' H', P n.toNat σ' H' → D.nx σ' H') : tFor (iRng1 (tCons ta tNil)) (gName j) tb D σ H := by
  refine hn _ ⟨n, rfl, h1, h2, ?_⟩
  refine for_range (lo := 0) P h0 (fun i σ' H' hi p => ?_) hd
  have e : (0 : Int) + (i : Int) = (i : Int) := Int.zero_add _
  rw [e]
  exact hs i σ' H' (by omega) p
theorem x_forR2 {ta tc : TE} {j : Nat} {tb : TS} (lo n : Int) (P : Nat → L2.St → Hp → Prop) (hn : ∀ R : V → Hp → Prop, R (.int lo) H → ta σ H R) (hn2 : ∀ R : V → Hp → Prop, R (.int n) H → tc σ H R) (h1 : -(2 ^ 62) ≤ lo) (h2 : lo < 2 ^ 62) (h3 : -(2 ^ 62) ≤ n) (h4 : n < 2 ^ 62) (h0 : P 0 σ H)
    (hs : ∀ (i : Nat) σ' H', lo + (i : Int) < n → P i σ' H' → tb ⟨P (i + 1), D.rt, D.nx, P (i + 1)⟩ (σ'.set j (some (.int (lo + (i : Int))))) H') (hd : ∀ σ' H', P (n - lo).toNat σ' H' → D.nx σ' H') : tFor (iRng2 (tCons ta (tCons tc tNil))) (gName j) tb D σ H := by
  refine hn _ (hn2 _ ⟨lo, n, rfl, ⟨h1, h2, h3, h4⟩, ?_⟩)
  refine for_range (lo := lo) P h0 (fun i σ' H' hi p => ?_) hd
  exact hs i σ' H' (by omega) p
theorem rgC_up {i j c : Int} (hc : 0 < c) (hc2 : c < 1000000) (ha : 0 ≤ i) (ha' : i < 2 ^ 60) (hb : 0 ≤ j) (hb' : j < 2 ^ 60) : RgC i j c ((if i < j then (j - i - 1) / c + 1 else 0 : Int)).toNat := by
  have hd : 0 ≤ (j - i - 1) / c ∨ ¬ i < j := by
    by_cases h : i < j
    · exact .inl (Int.ediv_nonneg (by omega) (by omega))
    · exact .inr h
  have hd2 : i < j → (j - i - 1) / c * c ≤ j - i - 1 := fun _ => Int.ediv_mul_le _ (by omega)
  have hd3 : i < j → (j - i - 1) / c ≤ j - i - 1 := fun h => by
    have h0 : 0 ≤ (j - i - 1) / c := Int.ediv_nonneg (by omega) (by omega)
    have := hd2 h
    have h1 : (j - i - 1) / c * 1 ≤ (j - i - 1) / c * c := Int.mul_le_mul_of_nonneg_left (by omega) h0
    omega
  refine ⟨by omega, by omega, ?_, ?_⟩
  · unfold Builtin.Range.small Builtin.Range.rangeSize
    simp only [Builtin.Range.rangeFitsLong, Bool.and_eq_true, Bool.or_eq_true, decide_eq_true_eq, beq_iff_eq, show (c > 0) from hc, if_true]
    split
    · rename_i h
      have := hd3 h
      have h0 : 0 ≤ (j - i - 1) / c := Int.ediv_nonneg (by omega) (by omega)
      have := hd2 h
      generalize (j - i - 1) / c = q at *
      have e : (q + 1) * c = q * c + c := by rw [Int.add_mul, Int.one_mul]
      have e2 : (q + 1 - 1) * c = q * c := by rw [Int.add_sub_cancel]
      refine ⟨?_, ?_⟩ <;> (try rw [e]) <;> (try rw [e2]) <;> omega
    · omega
  · unfold Builtin.Range.rangeSize
    rw [if_pos hc]
    split
    · rcases hd with h | h
      · omega
      · omega
    · rfl
theorem x_forR3 {ta tc te : TE} {j : Nat} {tb : TS} (lo n c : Int) (P : Nat → L2.St → Hp → Prop) (hn : ∀ R : V → Hp → Prop, R (.int lo) H → ta σ H R) (hn2 : ∀ R : V → Hp → Prop, R (.int n) H → tc σ H R) (hn3 : ∀ R : V → Hp → Prop, R (.int c) H → te σ H R) (hc : 0 < c) (hc2 : c < 1000000) (h1 : 0 ≤ lo) (h2 : lo < 2 ^ 60) (h3 : 0 ≤ n) (h4 : n < 2 ^ 60) (h0 : P 0 σ H)
    (hs : ∀ (i : Nat) σ' H', lo + (i : Int) * c < n → P i σ' H' → tb ⟨P (i + 1), D.rt, D.nx, P (i + 1)⟩ (σ'.set j (some (.int (lo + (i : Int) * c)))) H') (hd : ∀ (i : Nat) σ' H', n ≤ lo + (i : Int) * c → P i σ' H' → D.nx σ' H') : tFor (iRng3 (tCons ta (tCons tc (tCons te tNil)))) (gName j) tb D σ H := by
  refine hn _ (hn2 _ (hn3 _ ⟨lo, n, c, _, rfl, rgC_up hc hc2 h1 h2 h3 h4, ?_⟩))
  refine for_rangeC (lo := lo) P h0 (fun i σ' H' hi p => hs i σ' H' ?_ p) (fun σ' H' p => hd _ σ' H' ?_ p)
  · split at hi
    · have hq : (i : Int) ≤ (n - lo - 1) / c := by omega
      have h5 : (n - lo - 1) / c * c ≤ n - lo - 1 := Int.ediv_mul_le _ (by omega)
      have h6 : (i : Int) * c ≤ (n - lo - 1) / c * c := Int.mul_le_mul_of_nonneg_right hq (by omega)
      omega
    · omega
  · split
    · have h5 : n - lo - 1 < ((n - lo - 1) / c + 1) * c := Int.lt_ediv_add_one_mul_self _ hc
      have h0 : 0 ≤ (n - lo - 1) / c := Int.ediv_nonneg (by omega) (by omega)
      rw [show ((((n - lo - 1) / c + 1).toNat : Nat) : Int) = (n - lo - 1) / c + 1 by omega]
      omega
    · have : (((0 : Int).toNat : Nat) : Int) * c = 0 := by simp
      omega
theorem isq_spec {i : Int} (h0 : 0 ≤ i) : ∃ r : Int, ((Float64.isqrt i.toNat : Nat) : Int) = r ∧ 0 ≤ r ∧ r * r ≤ i ∧ i < (r + 1) * (r + 1) := by
  refine ⟨_, rfl, Int.natCast_nonneg _, ?_, ?_⟩
  · have := (PySem.Float64.isqrt_spec i.toNat).1
    have e : ((Float64.isqrt i.toNat * Float64.isqrt i.toNat : Nat) : Int) ≤ (i.toNat : Int) := Int.ofNat_le.mpr this
    rw [Int.natCast_mul] at e
    omega
  · have := (PySem.Float64.isqrt_spec i.toNat).2
    have e : (i.toNat : Int) < (((Float64.isqrt i.toNat + 1) * (Float64.isqrt i.toNat + 1) : Nat) : Int) := Int.ofNat_lt.mpr this
    rw [Int.natCast_mul, Int.natCast_add] at e
    have e2 : ((1 : Nat) : Int) = 1 := rfl
    rw [e2] at e
    omega
theorem x_isqrt0 {i r : Int} (h0 : 0 ≤ i) (h1 : i < 2 ^ 64) (e : ((Float64.isqrt i.toNat : Nat) : Int) = r) (q : Q (.int r) H) : cr_isqrt_r [.int i] H Q := ⟨i, rfl, h0, h1, by rw [e]; exact q⟩
theorem x_forL {ta : TE} {g : TG} {tb : TS} {p : Addr} (xs : List V) (P : Nat → L2.St → Hp → Prop) (hn : ∀ R : V → Hp → Prop, R (.ref p) H → ta σ H R) (hp : SqL K H p xs) (h0 : P 0 σ H) (hl : ∀ i σ' H', i ≤ xs.length → P i σ' H' → SqL K H' p xs)
    (hs : ∀ i x σ' H', xs[i]? = some x → P i σ' H' → g x σ' H' fun σ2 H2 => tb ⟨P (i + 1), D.rt, D.nx, P (i + 1)⟩ σ2 H2) (hd : ∀ σ' H', P xs.length σ' H' → D.nx σ' H') : tFor (iList K ta) g tb D σ H :=
  hn _ ⟨p, rfl, ⟨xs, hp⟩, for_list (xs := xs) P h0 hl hs hd⟩
theorem x_app {p : Addr} {xs : List V} {y : V} (hp : H p = some (.lst xs)) (hl : xs.length < 1000000) (q : Q .non (upd H p (.lst (xs ++ [y])))) : rAppend (.ref p) [y] H Q :=
  ⟨p, xs, y, rfl, rfl, hp, Nat.lt_of_lt_of_le hl (by decide), q⟩
theorem x_tyL {p : Addr} {xs : List V} {R : Prop} (hp : H p = some (.lst xs)) (h : R) : tyV K "list" (.ref p) H ∧ R := ⟨.inl ⟨rfl, _, .inl (.inl hp)⟩, h⟩
theorem x_len {p : Addr} {xs : List V} (hp : SqL K H p xs) (q : Q (.int (xs.length : Int)) H) : rLen K [.ref p] H Q := ⟨p, xs, rfl, .inl hp, q⟩
theorem x_lenT {p : Addr} {xs : List V} (hp : SqT K H p xs) (q : Q (.int (xs.length : Int)) H) : rLen K [.ref p] H Q := ⟨p, xs, rfl, .inr hp, q⟩
theorem x_cat {p q : Addr} {xs ys : List V} (hp : H p = some (.lst xs)) (hq : H q = some (.lst ys)) (hl : xs.length + ys.length ≤ 1000000) (k : ∀ r, H r = none → Q (.ref r) (upd H r (.lst (xs ++ ys)))) : rCat (.ref p) (.ref q) H Q :=
  ⟨p, q, xs, ys, rfl, rfl, hp, hq, Nat.le_trans hl (by decide), k⟩
/-- while: a word by a measure -/
theorem x_while {c : TT} {tb : TS} (W : Nat → L2.St → Hp → Prop) (m0 : Nat) (h0 : W m0 σ H)
    (hs : ∀ m σ' H', W m σ' H' → ∃ b : Bool, (∀ R : Bool → Hp → Prop, R b H' → c σ' H' R) ∧ (b = true → tb ⟨fun σ2 H2 => ∃ m', m' < m ∧ W m' σ2 H2, D.rt, D.nx, fun σ2 H2 => ∃ m', m' < m ∧ W m' σ2 H2⟩ σ' H') ∧ (b = false → D.nx σ' H')) : tWhile c tb D σ H :=
  ⟨W, ⟨m0, h0⟩, fun m σ' H' w => by
    obtain ⟨b, h, h1, h2⟩ := hs m σ' H' w
    refine h _ ?_
    cases b with
    | true => exact iteT ⟨_, fun _ _ z => z, h1 rfl⟩
    | false => exact iteF (h2 rfl)⟩
theorem x_lcR1 {ta : TE} {j : Nat} {te : TE} {vs : List Nat} (n : Int) (P : Addr → Nat → Hp → Prop) (hn : ∀ R : V → Hp → Prop, R (.int n) H → ta σ H R) (h1 : -(2 ^ 62) ≤ n) (h2 : n < 2 ^ 62) (h0 : ∀ p, H p = none → P p 0 (upd H p (.lst [])))
    (hw : ∀ x, wipe ((wipe σ vs).set j (some x)) vs = wipe σ vs)
    (hs : ∀ p (i : Nat) H', H p = none → (i : Int) < n → P p i H' → te ((wipe σ vs).set j (some (.int (i : Int)))) H' fun y H4 => ∃ acc, H4 p = some (.lst acc) ∧ acc.length < sizeLine ∧ P p (i + 1) (upd H4 p (.lst (acc ++ [y]))))
    (hd : ∀ p H', H p = none → P p n.toNat H' → Q (.ref p) H') : tLc (iRng1 (tCons ta tNil)) (gName j) tYes te vs σ H Q := by
  refine hn _ ⟨n, rfl, h1, h2, fun p hp => ?_⟩
  refine lc_range (lo := 0) (Qd := fun H' => Q (.ref p) H') (P p) (h0 p hp) (fun i H' hi q => ?_) fun H' q => hd p H' hp q
  have e : (0 : Int) + (i : Int) = (i : Int) := Int.zero_add _
  rw [e]
  refine ⟨hw _, ?_⟩
  unfold tYes
  exact iteT (hs p i H' hp (by omega) q)
theorem x_lcL {ta : TE} {j : Nat} {te : TE} {vs : List Nat} {a : Addr} (xs : List V) (P : Addr → Nat → Hp → Prop) (hn : ∀ R : V → Hp → Prop, R (.ref a) H → ta σ H R) (ha : SqL K H a xs) (h0 : ∀ p, H p = none → P p 0 (upd H p (.lst [])))
    (hl : ∀ p i H', H p = none → i ≤ xs.length → P p i H' → SqL K H' a xs) (hw : ∀ x, wipe ((wipe σ vs).set j (some x)) vs = wipe σ vs)
    (hs : ∀ p (i : Nat) x H', H p = none → xs[i]? = some x → P p i H' → te ((wipe σ vs).set j (some x)) H' fun y H4 => ∃ acc, H4 p = some (.lst acc) ∧ acc.length < sizeLine ∧ P p (i + 1) (upd H4 p (.lst (acc ++ [y]))))
    (hd : ∀ p H', H p = none → P p xs.length H' → Q (.ref p) H') : tLc (iList K ta) (gName j) tYes te vs σ H Q := by
  refine hn _ ⟨a, rfl, ⟨xs, ha⟩, fun p hp => ?_⟩
  refine lc_list (xs := xs) (Qd := fun H' => Q (.ref p) H') (P p) (h0 p hp) (fun i H' hi q => hl p i H' hp hi q) (fun i x H' hi q => ?_) fun H' q => hd p H' hp q
  refine ⟨hw _, ?_⟩
  unfold tYes
  exact iteT (hs p i x H' hp hi q)
end
theorem x_gTup2 {K : PySem.W.Frag} {σ : L2.St} {H : Hp} {p : Addr} {x y : V} {i j : Nat} {R : L2.St → Hp → Prop} (hp : SqT K H p [x, y]) (h : R ((σ.set i (some x)).set j (some y)) H) : gTup K 2 (gCons (gName i) (gCons (gName j) gNil)) (.ref p) σ H R :=
  ⟨p, [x, y], rfl, hp, rfl, x, [y], rfl, y, [], rfl, rfl, h⟩
theorem sq_of {K : PySem.W.Frag} {H : Hp} {a : Addr} {xs : List V} (h : H a = some (.lst xs)) : SqL K H a xs := .inl (.inl h)
theorem st_of {K : PySem.W.Frag} {H : Hp} {a : Addr} {xs : List V} (h : H a = some (.tup xs)) : SqT K H a xs := .inl (.inl h)
theorem mul_r {i j : Int} (h1 : -(2 ^ 64) < j) (h2 : j < 2 ^ 64) : CMul i j := .inr ⟨h1, h2⟩
theorem mul_l {i j : Int} (h1 : -(2 ^ 64) < i) (h2 : i < 2 ^ 64) : CMul i j := .inl ⟨h1, h2⟩
theorem cr_isqrt {X : Cx} : CallR X (.builtin "math.isqrt") cr_isqrt_r := by
  intro pins s σ H vs us Q I r h
  obtain ⟨i, rfl, h0, h1, q⟩ := h
  cases r with
  | cons r1 rr =>
    cases rr
    obtain ⟨t, rfl⟩ := r1
    exact PySem.W.mg_isqrt h0 h1 ⟨.int _, H, I.tok _, ⟨_, rfl⟩, q⟩
/-- all but what stands at d is as it was -/
def Keep (d : Addr) (H H' : Hp) : Prop := ∀ b o, H b = some o → b ≠ d → H' b = some o
theorem Keep.refl (d : Addr) (H : Hp) : Keep d H H := fun _ _ h _ => h
theorem Keep.trans {d : Addr} {H H1 H2 : Hp} (a : Keep d H H1) (b : Keep d H1 H2) : Keep d H H2 := fun c o h n => b c o (a c o h n) n
theorem seqT {K : PySem.W.Frag} {H H' : Hp} {a : Addr} {xs : List V} (e : Same H H') (h : SqT K H a xs) : SqT K H' a xs := by
  rcases h with (h | ⟨o, h⟩) | h
  · exact .inl (.inl (e _ _ h))
  · exact .inl (.inr ⟨o, e _ _ h⟩)
  · exact .inr h
theorem sfree {H H' : Hp} (e : Same H H') {p : Addr} (h : H' p = none) : H p = none := e.free h
theorem sput {H H' : Hp} {p : Addr} {o : HO} (s : Same H H') (h : H p = none) : Same H (upd H' p o) := fun b x e => by
  rw [upd_ne (ne_of_none e h)]
  exact s b x e
theorem Same.tr {H H1 H2 : Hp} (a : Same H H1) (b : Same H1 H2) : Same H H2 := fun c o h => b c o (a c o h)
theorem Same.keep {d : Addr} {H H' : Hp} (a : Same H H') : Keep d H H' := fun c o h _ => a c o h
theorem same_upd {H : Hp} {p : Addr} {o : HO} (h : H p = none) : Same H (upd H p o) := fun b x e => by
  rw [upd_ne (ne_of_none e h)]
  exact e
theorem keep_upd {H : Hp} {p : Addr} {o : HO} : Keep p H (upd H p o) := fun b x e n => by
  rw [upd_ne n]
  exact e
/-- what is new may change -/
theorem Same.put {H H' : Hp} {p : Addr} {o : HO} (s : Same H H') (h : H p = none) : Same H (upd H' p o) := fun b x e => by
  rw [upd_ne (ne_of_none e h)]
  exact s b x e
theorem Keep.put {d : Addr} {H H' : Hp} {p : Addr} {o : HO} (s : Keep d H H') (h : H p = none) : Keep d H (upd H' p o) := fun b x e n => by
  rw [upd_ne (ne_of_none e h)]
  exact s b x e n
theorem Keep.seq {K : PySem.W.Frag} {d : Addr} {H H' : Hp} {a : Addr} {xs : List V} (e : Keep d H H') (n : a ≠ d) (h : SqL K H a xs) : SqL K H' a xs := by
  rcases h with (h | ⟨o, h⟩) | h
  · exact .inl (.inl (e _ _ h n))
  · exact .inl (.inr ⟨o, e _ _ h n⟩)
  · exact .inr h
/-- ints within bounds -/
def Rg (lo hi : Int) (ns : List Int) : Prop := ∀ z, z ∈ ns → lo ≤ z ∧ z < hi
theorem Rg.nil {lo hi : Int} : Rg lo hi [] := fun _ h => absurd h (by simp)
theorem Rg.app {lo hi : Int} {xs ys : List Int} (a : Rg lo hi xs) (b : Rg lo hi ys) : Rg lo hi (xs ++ ys) := fun z h => (List.mem_append.mp h).elim (a z) (b z)
theorem Rg.one {lo hi x : Int} (h1 : lo ≤ x) (h2 : x < hi) : Rg lo hi [x] := fun z h => by
  have e : z = x := by simpa using h
  subst e
  exact ⟨h1, h2⟩
theorem Rg.snoc {lo hi x : Int} {xs : List Int} (a : Rg lo hi xs) (h1 : lo ≤ x) (h2 : x < hi) : Rg lo hi (xs ++ [x]) := a.app (.one h1 h2)
theorem Rg.get {lo hi x : Int} {xs : List Int} {i : Nat} (a : Rg lo hi xs) (h : xs[i]? = some x) : lo ≤ x ∧ x < hi := a x (List.mem_of_getElem? h)
theorem map_get {ns : List Int} {i : Nat} {y : V} (h : (ns.map V.int)[i]? = some y) : ∃ z, ns[i]? = some z ∧ y = .int z := by
  rw [List.getElem?_map] at h
  cases e : ns[i]? with
  | none => rw [e] at h; cases h
  | some z => rw [e] at h; exact ⟨z, rfl, (Option.some.inj h).symm⟩
theorem gcd_step {a b : Int} : Int.gcd b (a % b) = Int.gcd a b := by
  rw [Int.emod_def, Int.gcd_sub_mul_left_right, Int.gcd_comm]
theorem half_step {a b : Int} (hb : 0 < b) (h : b < a) : b * (a % b) * 2 ≤ a * b := by
  have h1 := Int.emod_lt_of_pos a hb
  have h0 := Int.emod_nonneg a (show b ≠ 0 by omega)
  have h2 : b * (a / b) + a % b = a := Int.mul_ediv_add_emod a b
  have h3 : 1 ≤ a / b := (Int.le_ediv_iff_mul_le hb).mpr (by omega)
  have h4 : b * 1 ≤ b * (a / b) := Int.mul_le_mul_of_nonneg_left h3 (by omega)
  have h5 : a % b * 2 ≤ a := by omega
  have h6 : a % b * 2 * b ≤ a * b := Int.mul_le_mul_of_nonneg_right h5 (by omega)
  have e : b * (a % b) * 2 = a % b * 2 * b := by
    rw [Int.mul_comm b, Int.mul_assoc, Int.mul_assoc, Int.mul_comm b 2]
  omega
/-- an item of a written list -/
theorem at_lt {xs : List V} {i : Int} (h0 : 0 ≤ i) (h1 : i < (xs.length : Int)) : ∃ v, atI xs i = some v ∧ v ∈ xs := by
  obtain ⟨j, rfl⟩ : ∃ j : Nat, i = (j : Int) := ⟨i.toNat, by omega⟩
  have hj : j < xs.length := by omega
  exact ⟨xs[j], atI_nat (List.getElem?_eq_getElem hj), List.getElem_mem hj⟩
theorem map_getR {as : List Addr} {i : Nat} {v : V} (h : (as.map V.ref)[i]? = some v) : ∃ b, as[i]? = some b ∧ v = .ref b := by
  rw [List.getElem?_map] at h
  cases e : as[i]? with
  | none => rw [e] at h; cases h
  | some b => rw [e] at h; exact ⟨b, rfl, (Option.some.inj h).symm⟩
theorem kput {d : Addr} {H H' : Hp} {p : Addr} {o : HO} (s : Keep d H H') (h : H p = none) : Keep d H (upd H' p o) := s.put h
theorem snoc_at {α : Type} {xs : List α} {y z : α} {i j : Nat} (hl : xs.length = i) (h : (xs ++ [y])[j]? = some z) : (j < i ∧ xs[j]? = some z) ∨ (j = i ∧ z = y) := by
  by_cases hj : j < xs.length
  · rw [List.getElem?_append_left hj] at h
    exact .inl ⟨by omega, h⟩
  · have hlt := (List.getElem?_eq_some_iff.mp h).1
    rw [List.length_append] at hlt
    have e : j = xs.length := by simp at hlt; omega
    subst e
    rw [List.getElem?_append_right (Nat.le_refl _), Nat.sub_self] at h
    exact .inr ⟨hl, (Option.some.inj h).symm⟩
theorem lt_line {n : Nat} (h : n < 1000000) : n < sizeLine := Nat.lt_of_lt_of_le h (by decide)
/-- what is fresh may change -/
theorem same_keep {H H1 H2 : Hp} {l : Addr} (hl : H l = none) (s : Same H H1) (k : Keep l H1 H2) : Same H H2 := fun b o e => k b o (s b o e) (ne_of_none e hl)
theorem ixN_nat {n i : Nat} (h : i < n) : ixN n (i : Int) = some i := by
  unfold ixN
  grind
theorem cast_lt {x : Int} {c : Nat} (h0 : 0 ≤ x) (h1 : x < c) : ∃ t : Nat, x = (t : Int) ∧ t < c := ⟨x.toNat, by omega, by omega⟩
section
variable {σ : L2.St} {H : Hp} {Q : VK} {R : Option Int → Hp → Prop}
theorem x_sl2 {r : V → Option Int → Option Int → Hp → VK → Prop} {te : TE} {tl th : TO} (h : te σ H fun x H1 => tl σ H1 fun l H2 => th σ H2 fun u H3 => r x l u H3 Q) : tSl r te tl th σ H Q := h
theorem x_part0 (h : R none H) : tNoPart σ H R := h
theorem x_part1 {te : TE} (h : te σ H fun x H1 => ∃ i, x = .int i ∧ R (some i) H1) : tPart te σ H R := h
theorem x_cutL {K : PySem.W.Frag} {p : Addr} {xs : List V} {lo hi : Option Int} (hp : SqL K H p xs) (q : ∀ r, H r = none → Q (.ref r) (upd H r (.lst (cutV xs lo hi)))) : rSlL K (.ref p) lo hi H Q := ⟨p, xs, rfl, hp, q⟩
end
end Br

/-! ### Fermat's little theorem, by the products of the rests -/
namespace Br.F
def noDiv (p : Nat) (n : Nat) : Bool := Nat.rec true (fun k ih => (p % (k + 2) != 0) && ih) n
theorem noDiv_at {p : Nat} : ∀ {n : Nat}, noDiv p n = true → ∀ d, 2 ≤ d → d < n + 2 → ¬ d ∣ p
  | 0, _, d, h1, h2, _ => by omega
  | n + 1, h, d, h1, h2, hd => by
    have h' : ((p % (n + 2) != 0) && noDiv p n) = true := h
    rw [Bool.and_eq_true] at h'
    by_cases e : d < n + 2
    · exact noDiv_at h'.2 d h1 e hd
    · have e2 : d = n + 2 := by omega
      subst e2
      have := Nat.mod_eq_zero_of_dvd hd
      simp [this] at h'
def IsPrime (p : Nat) : Prop := 2 ≤ p ∧ ∀ d, d ∣ p → d = 1 ∨ d = p
theorem prime_of {p k : Nat} (h2 : 2 ≤ p) (hk : p < (k + 2) * (k + 2)) (h : noDiv p k = true) : IsPrime p := by
  refine ⟨h2, fun d hd => ?_⟩
  by_cases h1 : d = 1
  · exact .inl h1
  by_cases hp : d = p
  · exact .inr hp
  exfalso
  obtain ⟨e, he⟩ := hd
  have d0 : d ≠ 0 := fun z => by subst z; simp at he; omega
  have e0 : e ≠ 0 := fun z => by subst z; simp at he; omega
  have e1 : e ≠ 1 := fun z => by subst z; simp at he; exact hp he.symm
  by_cases hlt : d < k + 2
  · exact noDiv_at h d (by omega) hlt ⟨e, he⟩
  · by_cases hlt2 : e < k + 2
    · exact noDiv_at h e (by omega) hlt2 ⟨d, by rw [he, Nat.mul_comm]⟩
    · have : (k + 2) * (k + 2) ≤ d * e := Nat.mul_le_mul (by omega) (by omega)
      omega
theorem IsPrime.coprime {p a : Nat} (hp : IsPrime p) (h : ¬ p ∣ a) : Nat.Coprime p a := by
  rcases hp.2 _ (Nat.gcd_dvd_left p a) with e | e
  · exact e
  · exact absurd (e ▸ Nat.gcd_dvd_right p a) h
theorem IsPrime.mul {p a b : Nat} (hp : IsPrime p) (h : p ∣ a * b) : p ∣ a ∨ p ∣ b := by
  by_cases h1 : p ∣ a
  · exact .inl h1
  · exact .inr ((hp.coprime h1).dvd_of_dvd_mul_left h)
theorem dvd_sub_of {p x y : Nat} (h : x % p = y % p) : p ∣ y - x := Nat.dvd_of_mod_eq_zero (Nat.sub_mod_eq_zero_of_mod_eq h.symm)
theorem mod_of_dvd_sub {p x y : Nat} (hl : x ≤ y) (h : p ∣ y - x) : x % p = y % p := by
  obtain ⟨q, hq⟩ := h
  have e : y = x + p * q := by omega
  rw [e, Nat.add_mul_mod_self_left]
theorem perm_of : ∀ {M L : List Nat}, M.Nodup → (∀ x, x ∈ M → x ∈ L) → L.length = M.length → M.Perm L
  | [], L, _, _, hl => by
    have : L = [] := List.length_eq_zero_iff.mp hl
    rw [this]
  | a :: M, L, hn, hs, hl => by
    have ha : a ∈ L := hs a List.mem_cons_self
    have hn' := List.nodup_cons.mp hn
    have h2 : M.Perm (L.erase a) := perm_of hn'.2 (fun x hx => (List.mem_erase_of_ne (fun e => hn'.1 (by rw [← e]; exact hx))).mpr (hs x (List.mem_cons_of_mem _ hx))) (by
      rw [List.length_erase_of_mem ha]
      rw [List.length_cons] at hl
      omega)
    exact (List.Perm.cons a h2).trans (List.perm_cons_erase ha).symm
def prod : List Nat → Nat
  | [] => 1
  | a :: l => a * prod l
theorem prod_perm {a b : List Nat} (h : a.Perm b) : prod a = prod b := by
  induction h with
  | nil => rfl
  | cons x _ ih => show x * _ = x * _; rw [ih]
  | swap x y l => show y * (x * _) = x * (y * _); rw [← Nat.mul_assoc, ← Nat.mul_assoc, Nat.mul_comm y x]
  | trans _ _ h1 h2 => rw [h1, h2]
theorem prod_map {p a : Nat} : ∀ l : List Nat, prod (l.map fun x => a * x % p) % p = a ^ l.length * prod l % p
  | [] => by simp [prod]
  | x :: l => by
    show (a * x % p) * prod (l.map fun x => a * x % p) % p = a ^ (l.length + 1) * (x * prod l) % p
    rw [Nat.mul_mod, Nat.mod_mod, prod_map l, ← Nat.mul_mod, Nat.pow_succ]
    congr 1
    rw [Nat.mul_assoc (a ^ l.length) a, Nat.mul_left_comm a x, Nat.mul_comm a x, Nat.mul_assoc x a, ← Nat.mul_assoc (a ^ l.length) x, Nat.mul_comm (a ^ l.length) x, Nat.mul_assoc x (a ^ l.length), ← Nat.mul_assoc (a ^ l.length), Nat.mul_comm (a ^ l.length) a, Nat.mul_assoc a]
theorem prod_not {p : Nat} (hp : IsPrime p) : ∀ l : List Nat, (∀ x, x ∈ l → ¬ p ∣ x) → ¬ p ∣ prod l
  | [], _, h => by
    have : p = 1 := Nat.dvd_one.mp h
    have := hp.1
    omega
  | x :: l, h, hd => by
    rcases hp.mul (show p ∣ x * prod l from hd) with h1 | h1
    · exact h x List.mem_cons_self h1
    · exact prod_not hp l (fun y hy => h y (List.mem_cons_of_mem _ hy)) h1
theorem fermat {p a : Nat} (hp : IsPrime p) (ha : ¬ p ∣ a) : a ^ (p - 1) % p = 1 % p := by
  have hp2 := hp.1
  let L := List.range' 1 (p - 1)
  have hL : ∀ x, x ∈ L ↔ 1 ≤ x ∧ x < p := fun x => by
    show x ∈ List.range' 1 (p - 1) ↔ _
    rw [List.mem_range'_1]
    omega
  have hnL : L.Nodup := List.nodup_range'
  have hLn : ∀ x, x ∈ L → ¬ p ∣ x := fun x hx hd => by
    have := (hL x).mp hx
    have := Nat.le_of_dvd (by omega) hd
    omega
  have hM : (L.map fun x => a * x % p).Perm L := by
    refine perm_of ?_ ?_ (by rw [List.length_map])
    · refine List.pairwise_map.mpr (List.Pairwise.imp_of_mem ?_ hnL)
      intro x y hx hy hne he
      have bx := (hL x).mp hx
      have bY := (hL y).mp hy
      have key : ∀ u v, 1 ≤ u → u < p → v < p → u ≤ v → a * u % p = a * v % p → u = v := fun u v h1 h2 h3 h4 h5 => by
        have hd : p ∣ a * (v - u) := by
          rw [Nat.mul_sub]
          exact dvd_sub_of h5
        rcases hp.mul hd with h6 | h6
        · exact absurd h6 ha
        · by_cases h7 : v - u = 0
          · omega
          · have := Nat.le_of_dvd (by omega) h6
            omega
      rcases Nat.le_total x y with h | h
      · exact hne (key x y bx.1 bx.2 bY.2 h he)
      · exact hne (key y x bY.1 bY.2 bx.2 h he.symm).symm
    · intro z hz
      obtain ⟨x, hx, rfl⟩ := List.mem_map.mp hz
      refine (hL _).mpr ⟨?_, Nat.mod_lt _ (by omega)⟩
      by_cases h0 : a * x % p = 0
      · rcases hp.mul (Nat.dvd_of_mod_eq_zero h0) with h6 | h6
        · exact absurd h6 ha
        · exact absurd h6 (hLn x hx)
      · omega
  have e1 := prod_perm hM
  have e2 : a ^ L.length * prod L % p = prod L % p := by rw [← prod_map, e1]
  have hlen : L.length = p - 1 := List.length_range'
  rw [hlen] at e2
  have hpos : 1 ≤ a ^ (p - 1) := Nat.one_le_iff_ne_zero.mpr fun z => by
    have : a = 0 := Nat.pow_eq_zero.mp z |>.1
    subst this
    exact ha (Nat.dvd_zero p)
  have hd : p ∣ (a ^ (p - 1) - 1) * prod L := by
    rw [Nat.sub_mul, Nat.one_mul]
    exact dvd_sub_of e2.symm
  rcases hp.mul hd with h | h
  · exact (mod_of_dvd_sub hpos h).symm
  · exact absurd h (prod_not hp L hLn)
theorem p2 : IsPrime 2 := prime_of (k := 0) (by decide) (by decide) (by decide)
theorem p3 : IsPrime 3 := prime_of (k := 0) (by decide) (by decide) (by decide)
theorem p5 : IsPrime 5 := prime_of (k := 1) (by decide) (by decide) (by decide +kernel)
theorem p7 : IsPrime 7 := prime_of (k := 1) (by decide) (by decide) (by decide +kernel)
theorem p11 : IsPrime 11 := prime_of (k := 2) (by decide) (by decide) (by decide +kernel)
theorem p13 : IsPrime 13 := prime_of (k := 2) (by decide) (by decide) (by decide +kernel)
theorem p101 : IsPrime 101 := prime_of (k := 9) (by decide) (by decide) (by decide +kernel)
theorem pBig : IsPrime 999999937 := prime_of (k := 31622) (by decide) (by decide +kernel) (by decide +kernel)
end Br.F

/-! ### tables' polynomials: the shares of Lagrange's formula modulo a prime -/
namespace Br.F
def Tp (x : Int) : Nat → Int
  | 0 => 1
  | n + 1 => Tp x n * (x - (n : Int))
def Ab (x : Int) (at_ : Nat) : Nat → Int
  | 0 => 1
  | n + 1 => if n = at_ then Ab x at_ n else Ab x at_ n * (x - (n : Int))
def fct : Nat → Int
  | 0 => 1
  | n + 1 => fct n * ((n : Int) + 1)
def sg (m : Nat) : Int := if m % 2 = 0 then 1 else -1
theorem sg_succ (m : Nat) : sg (m + 1) = - sg m := by
  unfold sg
  split <;> split <;> first | omega | rfl
theorem Ab_eq {x : Int} {at_ n : Nat} (h : n ≠ at_) : Ab x at_ (n + 1) = Ab x at_ n * (x - (n : Int)) := if_neg h
theorem Ab_at {x : Int} {at_ : Nat} : Ab x at_ (at_ + 1) = Ab x at_ at_ := if_pos rfl
theorem Ab_lt {x : Int} {at_ : Nat} : ∀ {n : Nat}, n ≤ at_ → Ab x at_ n = Tp x n
  | 0, _ => rfl
  | n + 1, h => by
    rw [Ab_eq (by omega), Ab_lt (by omega)]
    rfl
theorem Tp_split {x : Int} {at_ : Nat} : ∀ {n : Nat}, at_ < n → Tp x n = (x - (at_ : Int)) * Ab x at_ n
  | 0, h => by omega
  | n + 1, h => by
    by_cases e : n = at_
    · subst e
      rw [Ab_at, Ab_lt (Nat.le_refl _), Int.mul_comm]
      rfl
    · rw [Ab_eq e]
      show Tp x n * (x - (n : Int)) = _
      rw [Tp_split (at_ := at_) (by omega), Int.mul_assoc]
theorem Ab_zero {x at_ : Nat} (hx : x ≠ at_) : ∀ {n : Nat}, x < n → Ab (x : Int) at_ n = 0
  | 0, h => by omega
  | n + 1, h => by
    by_cases e : n = at_
    · subst e
      rw [Ab_at, Ab_zero hx (by omega)]
    · rw [Ab_eq e]
      by_cases e2 : x = n
      · subst e2
        rw [Int.sub_self, Int.mul_zero]
      · rw [Ab_zero hx (by omega), Int.zero_mul]
theorem Tp_low {at_ : Nat} : ∀ {n : Nat}, n ≤ at_ → Tp (at_ : Int) n * fct (at_ - n) = fct at_
  | 0, _ => by rw [Nat.sub_zero]; exact Int.one_mul _
  | n + 1, h => by
    have ih := Tp_low (at_ := at_) (n := n) (by omega)
    obtain ⟨k, hk⟩ : ∃ k, at_ - n = k + 1 := ⟨at_ - n - 1, by omega⟩
    have e : at_ - (n + 1) = k := by omega
    rw [hk] at ih
    rw [e]
    show Tp (at_ : Int) n * ((at_ : Int) - (n : Int)) * fct k = _
    have e2 : (at_ : Int) - (n : Int) = (k : Int) + 1 := by omega
    rw [e2, Int.mul_assoc, Int.mul_comm ((k : Int) + 1)]
    exact ih
theorem Ab_hi {at_ : Nat} : ∀ m : Nat, Ab (at_ : Int) at_ (at_ + 1 + m) = fct at_ * (sg m * fct m)
  | 0 => by
    show Ab (at_ : Int) at_ (at_ + 1) = _
    rw [Ab_at, Ab_lt (Nat.le_refl _)]
    have h := Tp_low (at_ := at_) (Nat.le_refl at_)
    rw [Nat.sub_self] at h
    have e : fct 0 = 1 := rfl
    have e2 : sg 0 = 1 := rfl
    rw [e, Int.mul_one] at h
    rw [h, e, e2, Int.mul_one, Int.mul_one]
  | m + 1 => by
    show Ab (at_ : Int) at_ (at_ + 1 + m + 1) = _
    rw [Ab_eq (by omega), Ab_hi m, sg_succ]
    show _ = fct at_ * (-sg m * (fct m * ((m : Int) + 1)))
    have e : (at_ : Int) - ((at_ + 1 + m : Nat) : Int) = -((m : Int) + 1) := by omega
    rw [e]
    grind
theorem IsPrime.mulI {p : Nat} {a b : Int} (hp : IsPrime p) (h : (p : Int) ∣ a * b) : (p : Int) ∣ a ∨ (p : Int) ∣ b := by
  have h' : p ∣ a.natAbs * b.natAbs := by
    rw [← Int.natAbs_mul]
    exact Int.natAbs_dvd_natAbs.mpr h
  rcases hp.mul h' with h1 | h1
  · exact .inl (Int.ofNat_dvd_left.mpr h1)
  · exact .inr (Int.ofNat_dvd_left.mpr h1)
theorem small_dvd {p : Nat} {z : Int} (h : (p : Int) ∣ z) (h1 : -(p : Int) < z) (h2 : z < p) : z = 0 := by
  obtain ⟨q, hq⟩ := h
  have hp : 0 < (p : Int) := by omega
  by_cases h0 : q = 0
  · rw [hq, h0, Int.mul_zero]
  · exfalso
    rcases Int.lt_or_gt_of_ne h0 with hl | hl
    · have : (p : Int) * q ≤ p * (-1) := Int.mul_le_mul_of_nonneg_left (by omega) (by omega)
      omega
    · have : (p : Int) * 1 ≤ p * q := Int.mul_le_mul_of_nonneg_left (by omega) (by omega)
      omega
theorem one_not {p : Nat} (hp : IsPrime p) : ¬ (p : Int) ∣ 1 := fun h => by
  have := small_dvd h (by have := hp.1; omega) (by have := hp.1; omega)
  omega
theorem Ab_not {p at_ : Nat} {x : Int} (hp : IsPrime p) : ∀ {n : Nat}, (∀ o : Nat, o < n → o ≠ at_ → ¬ (p : Int) ∣ x - (o : Int)) → ¬ (p : Int) ∣ Ab x at_ n
  | 0, _ => one_not hp
  | n + 1, h => by
    have ih := Ab_not (n := n) hp fun o ho => h o (by omega)
    by_cases e : n = at_
    · subst e
      rw [Ab_at]
      exact ih
    · rw [Ab_eq e]
      intro hd
      rcases hp.mulI hd with h1 | h1
      · exact ih h1
      · exact h n (by omega) e h1
theorem Ab_own {p at_ n : Nat} (hp : IsPrime p) (ha : at_ < n) (hn : n ≤ p) : ¬ (p : Int) ∣ Ab (at_ : Int) at_ n :=
  Ab_not hp fun o ho hne hd => by
    have := small_dvd hd (by omega) (by omega)
    omega
/-- the share of the index at_ at x -/
def Bas (p n at_ : Nat) (x v : Int) : Prop := 0 ≤ v ∧ v < p ∧ (p : Int) ∣ v * Ab (at_ : Int) at_ n - Ab x at_ n
theorem Bas.uniq {p n at_ : Nat} {x u v : Int} (hp : IsPrime p) (ha : at_ < n) (hn : n ≤ p) (hu : Bas p n at_ x u) (hv : Bas p n at_ x v) : u = v := by
  have h : (p : Int) ∣ (u - v) * Ab (at_ : Int) at_ n := by
    have := Int.dvd_sub hu.2.2 hv.2.2
    have e : (u - v) * Ab (at_ : Int) at_ n = u * Ab (at_ : Int) at_ n - Ab x at_ n - (v * Ab (at_ : Int) at_ n - Ab x at_ n) := by grind
    rw [e]
    exact this
  rcases hp.mulI h with h1 | h1
  · have := small_dvd h1 (by have := hu.1; have := hv.2.1; omega) (by have := hv.1; have := hu.2.1; omega)
    omega
  · exact absurd h1 (Ab_own hp ha hn)
theorem Bas.ind {p n at_ x : Nat} (hp : IsPrime p) (hx : x < n) : Bas p n at_ (x : Int) (if at_ = x then 1 else 0) := by
  have hp2 := hp.1
  refine ⟨by split <;> omega, by split <;> omega, ?_⟩
  by_cases e : at_ = x
  · subst e
    rw [if_pos rfl, Int.one_mul, Int.sub_self]
    exact Int.dvd_zero _
  · rw [if_neg e, Int.zero_mul, Ab_zero (fun z => e z.symm) hx, Int.sub_self]
    exact Int.dvd_zero _
/-- by the inverse of the whole bottom -/
theorem Bas.inv {p n at_ : Nat} {x tp bot y : Int} (ha : at_ < n) (hp2 : 2 ≤ p) (ht : (p : Int) ∣ tp - Tp x n) (hb : (p : Int) ∣ bot - Ab (at_ : Int) at_ n) (hy : y * ((x - (at_ : Int)) * bot) % p = 1) : Bas p n at_ x (tp * y % p) := by
  refine ⟨Int.emod_nonneg _ (by omega), Int.emod_lt_of_pos _ (by omega), ?_⟩
  rw [Tp_split ha] at ht
  generalize Ab (at_ : Int) at_ n = A at *
  generalize Ab x at_ n = U at *
  generalize x - (at_ : Int) = D at *
  obtain ⟨t1, h1⟩ := ht
  obtain ⟨t2, h2⟩ := hb
  have h3 := Int.mul_ediv_add_emod (y * (D * bot)) p
  rw [hy] at h3
  have h4 := Int.mul_ediv_add_emod (tp * y) p
  generalize y * (D * bot) / (p : Int) = t3 at *
  generalize tp * y / (p : Int) = t4 at *
  generalize tp * y % (p : Int) = v at *
  refine ⟨t1 * y * A - t4 * A + U * (t3 - D * y * t2), ?_⟩
  have e1 : tp = D * U + p * t1 := by omega
  have e2 : bot = A + p * t2 := by omega
  have e3 : v = tp * y - p * t4 := by omega
  subst e1 e2 e3
  have e5 : y * (D * (A + p * t2)) = p * t3 + 1 := by omega
  have e6 : U * (y * (D * (A + p * t2))) = U * (p * t3 + 1) := by rw [e5]
  grind
theorem pow_dvd {p a b : Int} (h : p ∣ a - b) : ∀ k : Nat, p ∣ a ^ k - b ^ k
  | 0 => by rw [Int.pow_zero, Int.pow_zero, Int.sub_self]; exact Int.dvd_zero _
  | k + 1 => by
    obtain ⟨u, hu⟩ := pow_dvd h k
    obtain ⟨v, hv⟩ := h
    refine ⟨u * a + b ^ k * v, ?_⟩
    rw [Int.pow_succ, Int.pow_succ]
    have e1 : a ^ k = b ^ k + p * u := by omega
    have e2 : a = b + p * v := by omega
    rw [e1]
    generalize b ^ k = B
    subst e2
    grind
/-- by Fermat's power -/
theorem Bas.pow {p n at_ : Nat} {x ab be pw : Int} (hp : IsPrime p) (hat : at_ < n) (hn : n ≤ p) (hbe0 : 0 ≤ be) (ha : (p : Int) ∣ ab - Ab x at_ n) (hb : (p : Int) ∣ be - Ab (at_ : Int) at_ n) (hw : (p : Int) ∣ pw - be ^ (p - 2)) : Bas p n at_ x (ab * pw % p) := by
  have hp2 := hp.1
  refine ⟨Int.emod_nonneg _ (by omega), Int.emod_lt_of_pos _ (by omega), ?_⟩
  have hA := Ab_own hp hat hn
  generalize Ab (at_ : Int) at_ n = A at *
  generalize Ab x at_ n = U at *
  have hbn : ¬ (p : Int) ∣ be := fun h => hA (by
    have e : A = be - (be - A) := by omega
    rw [e]
    exact Int.dvd_sub h hb)
  obtain ⟨bn, rfl⟩ : ∃ bn : Nat, be = (bn : Int) := ⟨be.toNat, by omega⟩
  have hf : bn ^ (p - 1) % p = 1 % p := fermat hp fun h => hbn (Int.ofNat_dvd.mpr h)
  have hf2 : ((bn : Int) ^ (p - 1)) % (p : Int) = 1 := by
    have h1 : 1 % p = 1 := Nat.mod_eq_of_lt (by omega)
    rw [h1] at hf
    have e : (((bn ^ (p - 1) % p : Nat)) : Int) = 1 := by rw [hf]; rfl
    rw [Int.natCast_emod, Int.natCast_pow] at e
    exact e
  have h3 := Int.mul_ediv_add_emod ((bn : Int) ^ (p - 1)) p
  rw [hf2] at h3
  obtain ⟨k, hk⟩ : ∃ k, p = k + 2 := ⟨p - 2, by omega⟩
  have e1 : p - 1 = k + 1 := by omega
  have e2 : p - 2 = k := by omega
  rw [e1, Int.pow_succ] at h3
  rw [e2] at hw
  generalize (bn : Int) ^ k = W at *
  generalize (W * (bn : Int)) / (p : Int) = t3 at *
  obtain ⟨t1, h1⟩ := ha
  obtain ⟨t2, h2⟩ := hb
  obtain ⟨t5, h5⟩ := hw
  have h4 := Int.mul_ediv_add_emod (ab * pw) p
  generalize ab * pw / (p : Int) = t4 at *
  generalize ab * pw % (p : Int) = v at *
  have g1 : ab = U + p * t1 := by omega
  have g2 : A = (bn : Int) - p * t2 := by omega
  have g3 : v = ab * pw - p * t4 := by omega
  have g5 : pw = W + p * t5 := by omega
  have g6 : W * (bn : Int) = 1 + p * t3 := by omega
  subst g1 g5
  subst g3
  subst g2
  refine ⟨t1 * (W + p * t5) * ((bn : Int) - p * t2) - t4 * ((bn : Int) - p * t2) + U * t3 + U * t5 * ((bn : Int) - p * t2) - U * W * t2, ?_⟩
  have g7 : U * (W * (bn : Int)) = U * (1 + p * t3) := by rw [g6]
  grind
/-- sums -/
def S1 (f : Nat → Int) : Nat → Int
  | 0 => 0
  | n + 1 => S1 f n + f n
theorem S1_congr {f g : Nat → Int} : ∀ {n : Nat}, (∀ i, i < n → f i = g i) → S1 f n = S1 g n
  | 0, _ => rfl
  | n + 1, h => by
    show S1 f n + f n = S1 g n + g n
    rw [S1_congr fun i hi => h i (by omega), h n (by omega)]
theorem S1_mul {f : Nat → Int} {c : Int} : ∀ {n : Nat}, S1 (fun i => c * f i) n = c * S1 f n
  | 0 => (Int.mul_zero c).symm
  | n + 1 => by
    show S1 (fun i => c * f i) n + c * f n = c * (S1 f n + f n)
    rw [S1_mul, Int.mul_add]
theorem S1_one {n k : Nat} {f : Nat → Int} (h : ∀ i, i ≠ k → f i = 0) : k < n → S1 f n = f k := by
  induction n with
  | zero => intro hk; omega
  | succ n ih =>
    intro hk
    show S1 f n + f n = f k
    by_cases e : k = n
    · subst e
      have z : ∀ m, m ≤ k → S1 f m = 0 := fun m => by
        induction m with
        | zero => intro _; rfl
        | succ m ih => intro hm; show S1 f m + f m = 0; rw [ih (by omega), h m (by omega)]; rfl
      rw [z k (Nat.le_refl _), Int.zero_add]
    · rw [ih (by omega), h n (fun z => e z.symm), Int.add_zero]
/-- the value of the table's polynomial -/
def Itp (p : Nat) (t : List (List Int)) (x y v : Int) : Prop := ∃ R C : Nat → Int, (∀ i, i < t.length → Bas p t.length i x (R i)) ∧ (∀ j, j < t.length → Bas p t.length j y (C j)) ∧
  v = S1 (fun i => R i * S1 (fun j => C j * (t.getD i []).getD j 0) t.length) t.length % p
theorem Itp.uniq {p : Nat} {t : List (List Int)} {x y u v : Int} (hp : IsPrime p) (hn : t.length ≤ p) (hu : Itp p t x y u) (hv : Itp p t x y v) : u = v := by
  obtain ⟨R, C, h1, h2, h3⟩ := hu
  obtain ⟨R', C', h1', h2', h3'⟩ := hv
  rw [h3, h3']
  congr 1
  refine S1_congr fun i hi => ?_
  rw [(h1 i hi).uniq hp hi hn (h1' i hi)]
  congr 1
  exact S1_congr fun j hj => by rw [(h2 j hj).uniq hp hj hn (h2' j hj)]
theorem Itp.own {p : Nat} {t : List (List Int)} {x y : Nat} (hp : IsPrime p) (hx : x < t.length) (hy : y < t.length) (h0 : 0 ≤ (t.getD x []).getD y 0) (h1 : (t.getD x []).getD y 0 < p) : Itp p t x y ((t.getD x []).getD y 0) := by
  refine ⟨fun i => if i = x then 1 else 0, fun j => if j = y then 1 else 0, fun i _ => .ind hp hx, fun j _ => .ind hp hy, ?_⟩
  rw [S1_one (k := x) (fun i hi => by show (if i = x then (1 : Int) else 0) * _ = 0; rw [if_neg hi, Int.zero_mul]) hx]
  show _ = (if x = x then (1 : Int) else 0) * S1 _ _ % _
  rw [if_pos rfl, Int.one_mul, S1_one (k := y) (fun j hj => by show (if j = y then (1 : Int) else 0) * _ = 0; rw [if_neg hj, Int.zero_mul]) hy]
  show _ = (if y = y then (1 : Int) else 0) * _ % _
  rw [if_pos rfl, Int.one_mul, Int.emod_eq_of_lt h0 h1]
/-- the share, written out -/
def BsV (p n i : Nat) (x : Int) : Int := Ab x i n * (Ab (i : Int) i n % p) ^ (p - 2) % p
theorem BsV.ok {p n i : Nat} {x : Int} (hp : IsPrime p) (hi : i < n) (hn : n ≤ p) : Bas p n i x (BsV p n i x) := by
  have hp2 := hp.1
  refine Bas.pow (be := Ab (i : Int) i n % p) hp hi hn (Int.emod_nonneg _ (by omega)) ⟨0, by omega⟩ ?_ ⟨0, by omega⟩
  have := Int.mul_ediv_add_emod (Ab (i : Int) i n) p
  exact ⟨-(Ab (i : Int) i n / p), by rw [Int.mul_neg]; omega⟩
theorem Itp.mk' {p : Nat} {t : List (List Int)} {x y v : Int} (hp : IsPrime p) (hn : t.length ≤ p) (h0 : 0 ≤ v) (h1 : v < p) (hd : (p : Int) ∣ v - S1 (fun i => BsV p t.length i x * S1 (fun j => BsV p t.length j y * (t.getD i []).getD j 0) t.length) t.length) : Itp p t x y v := by
  refine ⟨fun i => BsV p t.length i x, fun j => BsV p t.length j y, fun i hi => BsV.ok hp hi hn, fun j hj => BsV.ok hp hj hn, ?_⟩
  generalize S1 _ _ = s at *
  have hp2 := hp.1
  have h4 := Int.mul_ediv_add_emod s p
  have h5 := Int.emod_nonneg s (show (p : Int) ≠ 0 by omega)
  have h6 := Int.emod_lt_of_pos s (show (0 : Int) < p by omega)
  have h7 : (p : Int) ∣ v - s % p := by
    have e : v - s % p = v - s + p * (s / p) := by omega
    rw [e]
    exact Int.dvd_add hd (Int.dvd_mul_right _ _)
  have := small_dvd h7 (by omega) (by omega)
  omega
end Br.F

/-! ### zip of a list and a tuple -/
namespace Br
open PySem PySem.Spec PyProof.Rows L2
def ItzM (K : PySem.W.Frag) (a b : Addr) : It where
  go := fun i H => ∃ (xs ys : List V), SqL K H a xs ∧ SqT K H b ys ∧ i < xs.length ∧ i < ys.length
  yld := fun i H v H' => ∃ (p : Addr) (x y : V), v = .ref p ∧ H p = none ∧ H' = upd H p (.tup [x, y]) ∧ (∀ xs, SqL K H a xs → xs[i]? = some x) ∧ (∀ ys, SqT K H b ys → ys[i]? = some y)
  stop := fun i H => ∃ (xs ys : List V), SqL K H a xs ∧ SqT K H b ys ∧ i ≤ xs.length ∧ i ≤ ys.length ∧ (i = xs.length ∨ i = ys.length)
def MixSt (a b z p q i1 i2 : Addr) (i : Nat) (h : Heap) : Prop :=
  IsZip h z p q .none ∧ IsTupOf2 h p (.ref i1) (.ref i2) ∧ (∃ u v, IsTupOf2 h q u v) ∧ h.IsListIter i1 a i ∧ h.IsTupleIter i2 b i
theorem MixSt.sizes {a b z p q i1 i2 : Addr} {i : Nat} {h : Heap} (m : MixSt a b z p q i1 i2 i h) : z < h.objs.size ∧ p < h.objs.size ∧ q < h.objs.size ∧ i1 < h.objs.size ∧ i2 < h.objs.size := by
  obtain ⟨e1, e2, ⟨_, _, e3⟩, ⟨_, e4, _⟩, ⟨_, e5, _⟩⟩ := m
  exact ⟨Heap.lt_size e1, Heap.lt_size e2, Heap.lt_size e3, Heap.lt_size e4, Heap.lt_size e5⟩
theorem in5 {c z p q i1 i2 : Addr} (h : c ∈ [z, p, q, i1, i2]) : c = z ∨ c = p ∨ c = q ∨ c = i1 ∨ c = i2 := by simpa using h
theorem turn_mix {P : Program} {w : World} {K : PySem.W.Frag} {elts : List Expr} {kk : Nat} {tpos : Pos} {a b z p q i1 i2 : Addr} (S : ZipSep2 z p q i1 i2 [i1, a] [i2, b]) :
    Turn P w K (.Tuple elts kk tpos) (ItzM K a b) [z, p, q, i1, i2] z (MixSt a b z p q i1 i2) := by
  have ha : a ≠ i1 ∧ b ≠ i2 ∨ True := .inr trivial
  refine ⟨by simp, ?obj, ?keep, ?item, ?done, ?self⟩
  case obj =>
    intro i h st c hc
    obtain ⟨e1, e2, ⟨_, _, e3⟩, ⟨o4, e4, _, d4⟩, ⟨o5, e5, _, d5⟩⟩ := st
    rcases in5 hc with rfl | rfl | rfl | rfl | rfl
    · exact ⟨_, e1, fun _ z => nomatch z⟩
    · exact ⟨_, e2, fun _ z => nomatch z⟩
    · exact ⟨_, e3, fun _ z => nomatch z⟩
    · exact ⟨_, e4, fun _ z => by rw [d4] at z; cases z⟩
    · exact ⟨_, e5, fun _ z => by rw [d5] at z; cases z⟩
  case keep =>
    intro i h h' st k
    obtain ⟨e1, e2, ⟨u, v, e3⟩, e4, e5⟩ := st
    exact ⟨k _ (by simp) _ e1, k _ (by simp) _ e2, ⟨u, v, k _ (by simp) _ e3⟩, e4.at fun o => k _ (by simp) o, e5.at fun o => k _ (by simp) o⟩
  case item =>
    intro X hP hw hK hc i pins s σ H E I hf st hg
    subst hP hw hK
    have sz := st.sizes
    obtain ⟨e1, e2, ⟨u, v, e3⟩, e4, e5⟩ := st
    obtain ⟨xs, ys, hx, hy, lx, ly⟩ := hg
    obtain ⟨us, rx, p1, _⟩ := I.list hx
    obtain ⟨ws, ry, p2, _⟩ := I.tuple hy
    have nx := rx.length
    have ny := ry.length
    have hd : X.A.in1.handled = none := I.ok.hd hc
    have na : a ≠ i1 := fun e => by
      obtain ⟨o, eo, co, _⟩ := e4
      obtain ⟨o', _, eo', co', _⟩ := p1
      rw [e, eo] at eo'
      cases eo'
      rw [co] at co'
      simp at co'
    have nb : b ≠ i2 := fun e => by
      obtain ⟨o, eo, co, _⟩ := e5
      obtain ⟨o', eo', co', _⟩ := p2
      rw [e, eo] at eo'
      cases eo'
      rw [co] at co'
      simp at co'
    refine wpAny_pyNext_zipD2_item S (Draws.list hd i1 a na us.toArray) (Draws.tuple hd i2 b nb ws.toArray) e1 e2 e3 ⟨e4, p1.isList⟩ ⟨e5, p2⟩ (by simp; omega) (by simp; omega) ?_
    intro x1 x2 h1 tk q1 q2 z1 t1 s1 s2 nw hs hk
    refine ⟨_, rfl, wpAny_letOwnedTupleGo_zip (s := { s with heap := h1, toks := tk }) z1 fun h2 z2 sb => ?_⟩
    obtain ⟨x, gx⟩ : ∃ x, xs[i]? = some x := ⟨_, List.getElem?_eq_getElem lx⟩
    obtain ⟨y, gy⟩ : ∃ y, ys[i]? = some y := ⟨_, List.getElem?_eq_getElem ly⟩
    obtain ⟨ux, gux, rux⟩ := rx.get gx
    obtain ⟨uy, guy, ruy⟩ := ry.get gy
    have ex : x1 = ux := by
      rw [List.getElem?_toArray, gux] at q1
      exact (Option.some.inj q1).symm
    have ey : x2 = uy := by
      rw [List.getElem?_toArray, guy] at q2
      exact (Option.some.inj q2).symm
    subst ex ey
    have ne : ∀ {c : Addr}, c < s.heap.objs.size → s.heap.objs.size ≠ c := fun h => Nat.ne_of_gt h
    have new2 : h2.get? s.heap.objs.size = some { cls := .type "tuple", data := .seq #[x1, x2] } := (sb.2 _ (ne sz.1)).trans nw
    have kp : ∀ c o, c ∉ [z, p, q, i1, i2] → s.heap.get? c = some o → h2.get? c = some o := fun c o hc e => by
      have m : ∀ d, d ∈ [z, p, q, i1, i2] → c ≠ d := fun d hd e => hc (e ▸ hd)
      exact (sb.2 c (m z (by simp))).trans (hk c o (m z (by simp)) (m q (by simp)) (m i1 (by simp)) (m i2 (by simp)) e)
    have ok : ObjOk X.prog X.w (upd H s.heap.objs.size (.tup [x, y])) h2 s.heap.objs.size (.tup [x, y]) :=
      ⟨(show 2 ≤ sizeLine by decide), [x1, x2], .cons rux (.cons ruy .nil), ⟨_, new2, rfl, 0, rfl⟩⟩
    have J := I.turnedNew (t' := tk) kp hf (Nat.le_refl _) ok
    refine ⟨.ref s.heap.objs.size, _, J, rfl, ⟨_, x, y, rfl, I.hok.fresh (Nat.le_refl _), rfl, fun l hl => by rw [I.list_inj hl hx]; exact gx, fun l hl => by rw [I.tuple_inj hl hy]; exact gy⟩, ?_, fun c hcm => ?_⟩
    · refine ⟨z2, (sb.2 _ S.TIz).trans (hk _ _ S.TIz S.TITO S.TIi1 S.TIi2 e2), ⟨_, _, (sb.2 _ S.TOz).trans t1⟩, s1.1.at fun o e => (sb.2 _ S.zi1.symm).trans e, s2.1.at fun o e => (sb.2 _ S.zi2.symm).trans e⟩
    · rw [upd_ne]
      · exact (hf c hcm).1
      · rcases in5 hcm with rfl | rfl | rfl | rfl | rfl
        · exact (ne sz.1).symm
        · exact (ne sz.2.1).symm
        · exact (ne sz.2.2.1).symm
        · exact (ne sz.2.2.2.1).symm
        · exact (ne sz.2.2.2.2).symm
  case done =>
    intro X hP hw hK hc i pins s σ H E I hf st hg
    subst hP hw hK
    obtain ⟨e1, e2, ⟨u, v, e3⟩, e4, e5⟩ := st
    obtain ⟨xs, ys, hx, hy, lx, ly, hend⟩ := hg
    obtain ⟨us, rx, p1, _⟩ := I.list hx
    obtain ⟨ws, ry, p2, _⟩ := I.tuple hy
    have nx := rx.length
    have ny := ry.length
    have hd : X.A.in1.handled = none := I.ok.hd hc
    have na : a ≠ i1 := fun e => by
      obtain ⟨o, eo, co, _⟩ := e4
      obtain ⟨o', _, eo', co', _⟩ := p1
      rw [e, eo] at eo'
      cases eo'
      rw [co] at co'
      simp at co'
    have nb : b ≠ i2 := fun e => by
      obtain ⟨o, eo, co, _⟩ := e5
      obtain ⟨o', eo', co', _⟩ := p2
      rw [e, eo] at eo'
      cases eo'
      rw [co] at co'
      simp at co'
    refine wpAny_pyNext_zipD2_end S (Draws.list hd i1 a na us.toArray) (Draws.tuple hd i2 b nb ws.toArray) e1 e2 e3 ⟨e4, p1.isList⟩ ⟨e5, p2⟩ (by simp; omega) (by simp; omega) (by simp; omega) ?_
    intro h1 tk hk
    exact ⟨rfl, I.turnedL (t' := tk) (ch := [z, p, q, i1, i2]) (fun c o hc e => by
      have m : ∀ d, d ∈ [z, p, q, i1, i2] → c ≠ d := fun d hd e => hc (e ▸ hd)
      exact hk c o (m z (by simp)) (m q (by simp)) (m i1 (by simp)) (m i2 (by simp)) e) hf⟩
  case self => exact fun A i s Q E st h => wpAny_pyIter_zip st.1 h
def iZipM (K : PySem.W.Frag) (ta : TA) : TI := fun σ H R => ta σ H fun vs H1 => ∃ a b xs ys, vs = [.ref a, .ref b] ∧ SqL K H1 a xs ∧ SqT K H1 b ys ∧ R (ItzM K a b) H1
theorem pi_zipM {X : Cx} {e e2 : Expr} {ta : TA} {p pos tpos : Pos} {elts : List Expr} {kk : Nat} (hg : Gl X "zip") (hm : X.mg "zip" = none) (ha : PA X [e, e2] ta)
    (hs : starEach [e, e2] X.env = (false, eval e X.env) :: starEach [e2] X.env := by rfl) (hpl : (backTo pos (starEach [e2] X.env)).any (·.1) = false := by rfl) :
    PI X (.Tuple elts kk tpos) (.Call (.Name "zip" p) [e, e2] [] pos) (iZipM X.K ta) := by
  refine ⟨fun pins s σ H R I h => Call_ (ld_blt I hg hm PyProof.Rows.boot_zip (PyProof.Rows.callWith_type1 (thn (ha.run pos pins s σ H _ I h) ?_) hs hpl))⟩
  rintro us s1 ⟨vs, H1, I1, r1, a, b, xs, ys, rfl, hx, hy, go⟩
  obtain ⟨u1, u2, rfl, ra, rb⟩ : ∃ u1 u2, us = [u1, u2] ∧ RelV (.ref a) u1 ∧ RelV (.ref b) u2 := by
    cases r1 with
    | cons r rr =>
      cases rr with
      | cons r' rr =>
        cases rr
        exact ⟨_, _, rfl, r, r'⟩
  cases (show u1 = Value.ref a from ra)
  cases (show u2 = Value.ref b from rb)
  obtain ⟨us, rx, p1, _⟩ := I1.list hx
  obtain ⟨ws, ry, p2, _⟩ := I1.tuple hy
  have la : a < s1.heap.objs.size := p1.lt
  have lb : b < s1.heap.objs.size := by
    obtain ⟨_, e, _⟩ := id p2
    exact Heap.lt_size e
  refine zip_begins2 (begins_list a us.toArray) (begins_tuple b ws.toArray) p1.isList p2 ?_
  intro h1 hz hp hq g1 g2 hsz hk
  refine wpAny_pyIter_zip hz ?_
  have sep := zip_sep2 (N := s1.heap.objs.size) (fp1 := [a]) (fp2 := [b]) (fun c hc => by
    have e : c = a := by simpa using hc
    rw [e]; exact la) (fun c hc => by
    have e : c = b := by simpa using hc
    rw [e]; exact lb)
  refine ⟨_, _, _, _, H1, rfl, I1.kept (t' := s1.toks) hk, turn_mix sep, ⟨hz, hp, ⟨_, _, hq⟩, ⟨_, g1, rfl, rfl⟩, ⟨_, g2, rfl, rfl⟩⟩, fun c hc => ?_, go⟩
  have hle : s1.heap.objs.size ≤ c := by
    rcases in5 hc with e | e | e | e | e
    · rw [e]; exact Nat.le_add_right _ _
    · rw [e]; exact Nat.le_add_right _ _
    · rw [e]; exact Nat.le_add_right _ _
    · rw [e]; exact Nat.le_refl _
    · rw [e]; exact Nat.le_add_right _ _
  exact I1.fpOk hle (I1.hok.fresh hle)
theorem walk_mix {K : PySem.W.Frag} {a b : Addr} {xs ys : List V} {n : Nat} (h1 : xs.length = n) (h2 : ys.length = n) : Walk (ItzM K a b) n (fun H => SqL K H a xs ∧ SqT K H b ys) (YPair (fun i => xs[i]?) (fun i => ys[i]?)) := by
  refine ⟨fun i H hi q => ⟨xs, ys, q.1, q.2, by omega, by omega⟩, fun H q => ⟨xs, ys, q.1, q.2, by omega, by omega, by omega⟩, fun i H v H' hi q y => ?_⟩
  obtain ⟨p, x, y, e1, e2, e3, e4, e5⟩ := y
  exact ⟨p, x, y, e1, e2, e3, e4 _ q.1, e5 _ q.2⟩
/-- a for, a comprehension by a walk -/
theorem x_forI {wi : TI} {g : TG} {tb : TS} {D : Ends} {σ : L2.St} {H : Hp} {J : It} {n : Nat} {G : Hp → Prop} {Y : Nat → Hp → V → Hp → Prop} (hw : ∀ R : It → Hp → Prop, R J H → wi σ H R) (w : Walk J n G Y) (P : Nat → L2.St → Hp → Prop) (h0 : P 0 σ H)
    (hG : ∀ i σ' H', i ≤ n → P i σ' H' → G H') (hs : ∀ i x σ' H' H2, i < n → P i σ' H' → Y i H' x H2 → g x σ' H2 fun σ2 H3 => tb ⟨P (i + 1), D.rt, D.nx, P (i + 1)⟩ σ2 H3) (hd : ∀ σ' H', P n σ' H' → D.nx σ' H') : tFor wi g tb D σ H :=
  hw _ (for_it w P h0 hG hs hd)
theorem x_lcI {wi : TI} {g : TG} {te : TE} {vs : List Nat} {Q : VK} {σ : L2.St} {H : Hp} {J : It} {n : Nat} {G : Hp → Prop} {Y : Nat → Hp → V → Hp → Prop} (hw : ∀ R : It → Hp → Prop, R J H → wi σ H R) (w : Walk J n G Y) (P : Addr → Nat → Hp → Prop) (h0 : ∀ p, H p = none → P p 0 (upd H p (.lst [])))
    (hG : ∀ p i H', i ≤ n → H p = none → P p i H' → G H')
    (hs : ∀ p i x H' H2, i < n → H p = none → P p i H' → Y i H' x H2 → g x (wipe σ vs) H2 fun σ2 H3 => wipe σ2 vs = wipe σ vs ∧ te σ2 H3 fun y H4 => ∃ acc, H4 p = some (.lst acc) ∧ acc.length < sizeLine ∧ P p (i + 1) (upd H4 p (.lst (acc ++ [y]))))
    (hg : ∀ x σ' H' (R R' : L2.St → Hp → Prop), (∀ σ2 H2, R σ2 H2 → R' σ2 H2) → g x σ' H' R → g x σ' H' R') (hd : ∀ p H', H p = none → P p n H' → Q (.ref p) H') : tLc wi g tYes te vs σ H Q := by
  refine hw _ fun p hp => ?_
  refine lc_it w (Qd := fun H' => Q (.ref p) H') (P p) (h0 p hp) (fun i H' hi q => hG p i H' hi hp q) (fun i x H' H2 hi q y => ?_) fun H' q => hd p H' hp q
  refine hg _ _ _ _ _ (fun σ2 H3 z => ?_) (hs p i x H' H2 hi hp q y)
  refine ⟨z.1, ?_⟩
  unfold tYes
  exact iteT z.2
/-- a comprehension of truths, item by item -/
theorem x_lcB {wi : TI} {te : TE} {vs : List Nat} {j : Nat} {Q : VK} {σ : L2.St} {H : Hp} {J : It} {G : Hp → Prop} {xs : List V} (f : Nat → Bool) (hw : ∀ R : It → Hp → Prop, R J H → wi σ H R) (w : Walk J xs.length G (YAt xs)) (hn : xs.length ≤ 100000)
    (hG : ∀ H', Same H H' → G H') (hv : ∀ x, wipe ((wipe σ vs).set j (some x)) vs = wipe σ vs)
    (he : ∀ (i : Nat) x H', Same H H' → xs[i]? = some x → ∀ R : VK, (∀ H2, Same H' H2 → R (.bl (f i)) H2) → te ((wipe σ vs).set j (some x)) H' R)
    (hd : ∀ p H', H p = none → Same H H' → H' p = some (.lst (((List.range xs.length).map f).map V.bl)) → Q (.ref p) H') : tLc wi (gName j) tYes te vs σ H Q := by
  refine x_lcI hw w (fun p i H' => Same H H' ∧ H' p = some (.lst (((List.range i).map f).map V.bl))) (fun p hp => ⟨same_upd hp, upd_same⟩) (fun p i H' _ _ z => hG H' z.1) ?_ (fun x σ' H' R R' hr h => hr _ _ h) fun p H' hp z => hd p H' hp z.1 z.2
  rintro p i x H' H2 hi hp ⟨hs, hl⟩ ⟨rfl, hx⟩
  refine x_gName ⟨hv x, he i x _ hs hx _ fun H3 hs3 => ?_⟩
  refine ⟨_, hs3 _ _ hl, lt_line (by simp; omega), sput (hs.trans hs3) hp, ?_⟩
  rw [upd_same, List.range_succ, List.map_append, List.map_append]
  rfl
theorem x_all {K : PySem.W.Frag} {Q : VK} {H : Hp} {p : Addr} {bs : List Bool} (h : H p = some (.lst (bs.map V.bl))) (q : Q (.bl (bs.all id)) H) : rAll K [.ref p] H Q := ⟨p, bs, rfl, sq_of h, q⟩
theorem x_any {K : PySem.W.Frag} {Q : VK} {H : Hp} {p : Addr} {bs : List Bool} (h : H p = some (.lst (bs.map V.bl))) (q : Q (.bl (bs.any id)) H) : rAny K [.ref p] H Q := ⟨p, bs, rfl, sq_of h, q⟩
theorem all_range {n : Nat} {f : Nat → Bool} (h : ∀ i, i < n → f i = true) : ((List.range n).map f).all id = true := by
  rw [List.all_eq_true]
  intro b hb
  obtain ⟨i, hi, rfl⟩ := List.mem_map.mp hb
  exact h i (List.mem_range.mp hi)
/-- the same, over something made on the way -/
theorem x_lcB0 {wi : TI} {te : TE} {vs : List Nat} {j : Nat} {Q : VK} {σ : L2.St} {H : Hp} {xs : List V} (f : Nat → Bool) (hn : xs.length ≤ 100000)
    (hw : ∀ R : It → Hp → Prop, (∀ (J : It) (G : Hp → Prop) (H1 : Hp), Same H H1 → Walk J xs.length G (YAt xs) → (∀ H', Same H1 H' → G H') → R J H1) → wi σ H R) (hv : ∀ x, wipe ((wipe σ vs).set j (some x)) vs = wipe σ vs)
    (he : ∀ (i : Nat) x H', Same H H' → xs[i]? = some x → ∀ R : VK, (∀ H2, Same H' H2 → R (.bl (f i)) H2) → te ((wipe σ vs).set j (some x)) H' R)
    (hd : ∀ p H', Same H H' → H' p = some (.lst (((List.range xs.length).map f).map V.bl)) → Q (.ref p) H') : tLc wi (gName j) tYes te vs σ H Q := by
  refine hw _ fun J G H1 s1 w hG => ?_
  exact x_lcB (wi := fun _ H R => R J H) (H := H1) f (fun R r => r) w hn hG hv (fun i x H' s hx R hR => he i x H' (s1.trans s) hx R hR) fun p H' _ s h => hd p H' (s1.trans s) h
end Br

/-! ### tables in the heap -/
namespace Br
open PySem PySem.Spec PyProof.Rows L2 Br.F
theorem map_app {xs : List Int} {y : Int} {H : Hp} {a : Addr} : (L2.upd H a (.lst (xs.map V.int ++ [.int y]))) a = some (.lst ((xs ++ [y]).map V.int)) := by rw [upd_same, List.map_append]; rfl
def TabAt (K : PySem.W.Frag) (H : Hp) (a : Addr) (t : List (List Int)) : Prop := ∃ as : List Addr, SqT K H a (as.map V.ref) ∧ as.length = t.length ∧ ∀ (i : Nat) r b, t[i]? = some r → as[i]? = some b → SqT K H b (r.map V.int)
theorem TabAt.same {K : PySem.W.Frag} {H H' : Hp} {a : Addr} {t : List (List Int)} (h : TabAt K H a t) (s : Same H H') : TabAt K H' a t := by
  obtain ⟨as, h1, h2, h3⟩ := h
  exact ⟨as, seqT s h1, h2, fun i r b e1 e2 => seqT s (h3 i r b e1 e2)⟩
structure IsTab (p : Nat) (t : List (List Int)) : Prop where
  pos : 1 ≤ t.length
  le : t.length ≤ p
  rows : ∀ (i : Nat) r, t[i]? = some r → r.length = t.length ∧ Rg 0 p r
theorem get_getD {l : List Int} {i : Nat} (h : i < l.length) : l[i]? = some (l.getD i 0) := by rw [List.getD_eq_getElem?_getD, List.getElem?_eq_getElem h]; rfl
theorem getD_of {l : List Int} {i : Nat} {z : Int} (h : l[i]? = some z) : l.getD i 0 = z := by rw [List.getD_eq_getElem?_getD, h]; rfl
theorem dvd_step {p ab U d : Int} (h : p ∣ ab - U) : p ∣ ab * d % p - U * d := by
  obtain ⟨u, hu⟩ := h
  have h4 := Int.mul_ediv_add_emod (ab * d) p
  refine ⟨u * d - ab * d / p, ?_⟩
  have e : ab = U + p * u := by omega
  grind
theorem TabAt.get {K : PySem.W.Frag} {H : Hp} {a : Addr} {t : List (List Int)} {as : List Addr} (h : as.length = t.length) (h3 : ∀ (i : Nat) r b, t[i]? = some r → as[i]? = some b → SqT K H b (r.map V.int)) {i : Nat} (hi : i < t.length) : ∃ r b, t[i]? = some r ∧ as[i]? = some b ∧ SqT K H b (r.map V.int) :=
  ⟨_, _, List.getElem?_eq_getElem hi, List.getElem?_eq_getElem (by omega), h3 i _ _ (List.getElem?_eq_getElem hi) (List.getElem?_eq_getElem (by omega))⟩
end Br

/-! ### match over tuples that begin with a word -/
namespace Br
open PySem PySem.Spec PyProof.Rows L2
/-- the values that captures bind, by name -/
def capB : List Pattern → List Value → List (Str × Value)
  | .MatchAs none (some x) _ :: ps, u :: us => (x, u) :: capB ps us
  | .MatchAs none none _ :: ps, _ :: us => capB ps us
  | _, _ => []
def isCaps : List Pattern → Bool
  | [] => true
  | .MatchAs none _ _ :: ps => isCaps ps
  | _ => false
/-- the slots behind captures -/
def bindS : List (Option Nat) → List V → L2.St → L2.St
  | some i :: is, v :: vs, σ => bindS is vs (σ.set i (some v))
  | none :: is, _ :: vs, σ => bindS is vs σ
  | _, _, σ => σ
theorem each_caps {M : Model} {A : Around} {E : Value → Shared → Prop} {s : Shared} {env : Env} : ∀ {ps : List Pattern} {us : List Value} {Q : Option (List (Str × Value)) → Shared → Prop}, isCaps ps = true → us.length = ps.length → Q (some (capB ps us)) s → wpAny M A (matchEach ps env us) Q E s
  | [], us, Q, _, _, h => by
    have e : capB [] us = [] := by cases us <;> rfl
    rw [e] at h
    exact wpAny_matchEach_nil h
  | .MatchAs none nm pos :: ps, u :: us, Q, hc, hl, h => by
    refine wpAny_matchEach_cons (wpAny_matchPattern_Capture (each_caps (ps := ps) hc (by simpa using hl) ?_)) rfl
    cases nm with
    | none => exact h
    | some x => exact h
  | .MatchAs none nm pos :: ps, [], Q, hc, hl, h => by simp at hl
  | .MatchAs (some p) nm pos :: ps, us, Q, hc, hl, h => by simp [isCaps] at hc
  | .MatchValue .. :: ps, us, Q, hc, hl, h => by simp [isCaps] at hc
  | .MatchSingleton .. :: ps, us, Q, hc, hl, h => by simp [isCaps] at hc
  | .MatchSequence .. :: ps, us, Q, hc, hl, h => by simp [isCaps] at hc
  | .MatchMapping .. :: ps, us, Q, hc, hl, h => by simp [isCaps] at hc
  | .MatchClass .. :: ps, us, Q, hc, hl, h => by simp [isCaps] at hc
  | .MatchStar .. :: ps, us, Q, hc, hl, h => by simp [isCaps] at hc
  | .MatchOr .. :: ps, us, Q, hc, hl, h => by simp [isCaps] at hc
/-- captures into slots -/
structure PCap (X : Cx) (ps : List Pattern) (is : List (Option Nat)) : Prop where
  caps : isCaps ps = true
  run : ∀ (pins : List (Addr × Obj)) (s : Shared) (σ : L2.St) (H : Hp) (vs : List V) (us : List Value), Inv X pins σ H s → Vals vs us → us.length = ps.length →
    wpAny (model X.prog X.w) X.A (assignInOrder ((capB ps us).map fun (n, _) => bindName X.env n) ((capB ps us).map (·.2))) (fun _ s' => Inv X pins (bindS is vs σ) H s') X.xe s
section
variable {X : Cx}
theorem pcap_nil : PCap X [] [] := ⟨rfl, fun pins s σ H vs us I r hl => by
  have e : us = [] := List.length_eq_zero_iff.mp hl
  subst e
  cases r
  exact wpAny_assignInOrder_none I⟩
theorem pcap_name (i : Nat) {x : Str} {pos : Pos} {ps : List Pattern} {is : List (Option Nat)} (hN : X.N.Nodup) (hi : X.N[i]? = some x) (hx : Loc X.env.scope x) (h : PCap X ps is) (hf : X.fn x = true ∨ X.env.scope.names.lookup x = some .local := by first | exact .inl rfl | exact .inr rfl) :
    PCap X (.MatchAs none (some x) pos :: ps) (some i :: is) := ⟨h.caps, fun pins s σ H vs us I r hl => by
  cases r with
  | nil => simp at hl
  | cons rv rr =>
    refine wpAny_assignInOrder_more (wpAny_bindName (store_ok I hN hi hx rv (fun s' I' => ?_) hf))
    exact h.run pins s' _ H _ _ I' rr (by simpa using hl)⟩
theorem pcap_wild {pos : Pos} {ps : List Pattern} {is : List (Option Nat)} (h : PCap X ps is) : PCap X (.MatchAs none none pos :: ps) (none :: is) := ⟨h.caps, fun pins s σ H vs us I r hl => by
  cases r with
  | nil => simp at hl
  | cons rv rr => exact h.run pins s _ H _ _ I rr (by simpa using hl)⟩
/-- the cases of a match, asked of a value -/
structure PCs (X : Cx) (cs : List MatchCase) (t : V → TS) : Prop where
  run : ∀ (first : Bool) (pins : List (Addr × Obj)) (s : Shared) (σ : L2.St) (H : Hp) (D : Ends) (v : V) (u : Value), Inv X pins σ H s → RelV v u → t v D σ H → wpAny (model X.prog X.w) X.A (matchCases cs X.env u first) (SP X pins D) X.xe s
def tMatch (te : TE) (t : V → TS) : TS := fun D σ H => te σ H fun v H1 => t v D σ H1
theorem ps_match {e : Expr} {te : TE} {cs : List MatchCase} {t : V → TS} {pos : Pos} (he : PE X e te) (hc : PCs X cs t) : PS X (.Match e cs pos) (tMatch te t) :=
  ⟨fun pins s σ H D I h => wpAny_Match (thn (he.run pins s σ H _ I h) fun u s1 ⟨v, H1, I1, r, q⟩ => hc.run true pins s1 σ H1 D v u I1 r q)⟩
def tNoCase : V → TS := fun _ D σ H => D.nx σ H
theorem pcs_nil : PCs X [] tNoCase := ⟨fun _ _ _ σ H _ _ _ I _ h => wpAny_matchCases_nil ⟨σ, H, I, h⟩⟩
def tElse (t : TS) : V → TS := fun _ => t
theorem pcs_else {pos : Pos} {body : List Stmt} {rest : List MatchCase} {t : TS} (hb : PSs X body t) : PCs X (⟨.MatchAs none none pos, none, body⟩ :: rest) (tElse t) :=
  ⟨fun _ pins s σ H D v u I r h => wpAny_matchCases_cons (wpAny_matchPattern_Capture (wpAny_assignInOrder_none (hb.run pins s σ H D I h)))⟩
/-- a tuple of n parts that begins with the word -/
def tSeqW (K : PySem.W.Frag) (r : R2) (n : Nat) (word : Str) (is : List (Option Nat)) (body : TS) (rest : V → TS) : V → TS := fun v D σ H => ∃ (a : Addr) (xs : List V), v = .ref a ∧ SqT K H a xs ∧
  ((xs.length ≠ n ∧ rest v D σ H) ∨ ∃ y ys, xs = y :: ys ∧ xs.length = n ∧ r y (.str word) H fun z H1 => ∃ k, z = .bl k ∧ if k = true then body D (bindS is ys σ) H1 else rest v D σ H1)
theorem pcs_seq {r : R2} {n : Nat} {word : Str} {j : Nat} {p1 p2 p3 : Pos} {ps : List Pattern} {is : List (Option Nat)} {body : List Stmt} {rest : List MatchCase} {tb : TS} {tr : V → TS} (hc : X.calm = true) (ho : OpR X (compareOp .Eq) r) (hp : PCap X ps is) (hb : PSs X body tb) (hr : PCs X rest tr) (hn : ps.length + 1 = n := by rfl)
    (hs : (Pattern.MatchValue (.Constant (.str word) j p1) p2 :: ps).findIdx? (·.isStar) = none := by rfl) (hw : ((Pattern.MatchValue (.Constant (.str word) j p1) p2 :: ps).all fun p => p.isWildcard || (p.isStar && p.names.isEmpty)) = false := by rfl) :
    PCs X (⟨.MatchSequence (.MatchValue (.Constant (.str word) j p1) p2 :: ps) p3, none, body⟩ :: rest) (tSeqW X.K r n word is tb tr) := by
  refine ⟨fun first pins s σ H D v u I rv h => ?_⟩
  obtain ⟨a, xs, rfl, hx, h⟩ := h
  cases (show u = Value.ref a from rv)
  obtain ⟨its, ri, ht, hz⟩ := I.tuple hx
  have hl := ri.length
  have hfit : ((its.toArray.size : Nat) : Int) < 2 ^ 63 := by
    have h1 : its.length ≤ sizeLine := by rw [← hl]; exact hz
    have h2 : sizeLine < 2 ^ 63 := by decide
    have h3 : its.toArray.size < 2 ^ 63 := Nat.lt_of_le_of_lt (by simpa using h1) h2
    omega
  rcases h with ⟨hne, q⟩ | ⟨y, ys, rfl, hxl, q⟩
  · refine wpAny_matchCases_cons (matchSeq_tuple_miss ht hfit (by simp; omega) ?_ hs hw)
    exact hr.run false pins _ σ H D (.ref a) _ (I.tok _) rfl q
  · cases ri with
    | cons ry rys =>
      rename_i uy uys
      have hly := rys.length
      have sz : (uy :: uys).toArray.size = ps.length + 1 := by simp at hxl ⊢; omega
      refine wpAny_matchCases_cons (matchSeq_tuple_hit ht hfit (by simpa using sz) ?_ hs hw)
      have e : (Pattern.MatchValue (.Constant (.str word) j p1) p2 :: ps).length = (uy :: uys).toArray.size := sz.symm
      rw [e]
      refine unpackItems_tuple (I.ok.hd hc) ht fun h' hk => ?_
      have I2 : Inv X pins σ H { s with heap := h', toks := s.toks + 1 + 1 } := I.kept fun b o e => hk b o (Nat.ne_of_lt (Heap.lt_size e)) e
      refine wpAny_matchEach_cons (wpAny_matchPattern_Value ?_) rfl
      refine Calls.Constant_str ?_
      refine thn (ho pins _ σ H y (.str word) uy _ _ (I2.tok _) ry ⟨_, rfl⟩ q) fun c s3 ⟨z, H3, I3, rz, k, ez, q3⟩ => ?_
      subst ez
      cases rz
      refine wpAny_truthy_bool ?_
      cases k with
      | false =>
        rw [if_neg Bool.false_ne_true] at q3 ⊢
        exact hr.run false pins s3 σ H3 D (.ref a) _ I3 rfl q3
      | true =>
        rw [if_pos rfl] at q3 ⊢
        refine each_caps hp.caps (by simp at sz; exact sz) ?_
        refine thn (hp.run pins s3 σ H3 ys uys I3 rys (by simp at sz; exact sz)) fun _ s4 I4 => ?_
        exact hb.run pins s4 _ H3 D I4 q3
end
/-! ### steps of the reading -/
section
variable {σ : L2.St} {H : Hp} {D : Ends} {K : PySem.W.Frag} {v : V} {te : TE} {t : V → TS}
theorem x_match (h : te σ H fun v H1 => t v D σ H1) : tMatch te t D σ H := h
theorem x_else {t : TS} (h : t D σ H) : tElse t v D σ H := h
theorem x_noCase (h : D.nx σ H) : tNoCase v D σ H := h
theorem x_caseNo {r : R2} {n : Nat} {word : Str} {is : List (Option Nat)} {body : TS} {a : Addr} {xs : List V} (ha : SqT K H a xs) (hl : xs.length ≠ n) (h : t (.ref a) D σ H) : tSeqW K r n word is body t (.ref a) D σ H :=
  ⟨a, xs, rfl, ha, .inl ⟨hl, h⟩⟩
theorem x_caseW {n : Nat} {word w : Str} {is : List (Option Nat)} {body : TS} {a : Addr} {ys : List V} (ha : SqT K H a (.str w :: ys)) (hl : ys.length + 1 = n) (hw : w ≠ word) (h : t (.ref a) D σ H) : tSeqW K rEq n word is body t (.ref a) D σ H :=
  ⟨a, _, rfl, ha, .inr ⟨_, ys, rfl, hl, rfl, false, by rw [decide_eq_false (fun e => hw (V.str.inj e))], iteF h⟩⟩
theorem x_caseY {n : Nat} {word : Str} {is : List (Option Nat)} {body : TS} {a : Addr} {ys : List V} (ha : SqT K H a (.str word :: ys)) (hl : ys.length + 1 = n) (h : body D (bindS is ys σ) H) : tSeqW K rEq n word is body t (.ref a) D σ H :=
  ⟨a, _, rfl, ha, .inr ⟨_, ys, rfl, hl, rfl, true, by rw [decide_eq_true rfl], iteT h⟩⟩
end
end Br

/-! ### what `_law_equal` finds alike -/
namespace Br
open PySem PySem.Spec PyProof.Rows L2
/-- alike up to a depth -/
def Eqv (K : PySem.W.Frag) (H : Hp) : Nat → V → V → Prop
  | 0, _, _ => False
  | n + 1, v, u => (∃ i : Int, v = .int i ∧ u = .int i) ∨ (∃ x : Str, v = .str x ∧ u = .str x) ∨ (∃ b : Bool, v = .bl b ∧ u = .bl b) ∨ (v = .non ∧ u = .non) ∨
      (∃ (a b : Addr) (xs ys : List V), v = .ref a ∧ u = .ref b ∧ ((H a = some (.lst xs) ∧ H b = some (.lst ys)) ∨ (H a = some (.tup xs) ∧ H b = some (.tup ys))) ∧ xs.length = ys.length ∧ ys.length ≤ 100000 ∧ ∀ (i : Nat) x y, xs[i]? = some x → ys[i]? = some y → Eqv K H n x y)
theorem Eqv.mono {K : PySem.W.Frag} {H : Hp} : ∀ {n m : Nat} {v u : V}, n ≤ m → Eqv K H n v u → Eqv K H m v u
  | 0, _, _, _, _, h => h.elim
  | n + 1, m, v, u, hm, h => by
    obtain ⟨k, rfl⟩ : ∃ k, m = k + 1 := ⟨m - 1, by omega⟩
    rcases h with h | h | h | h | ⟨a, b, xs, ys, e1, e2, e3, e4, e5, e6⟩
    · exact .inl h
    · exact .inr (.inl h)
    · exact .inr (.inr (.inl h))
    · exact .inr (.inr (.inr (.inl h)))
    · exact .inr (.inr (.inr (.inr ⟨a, b, xs, ys, e1, e2, e3, e4, e5, fun i x y h1 h2 => Eqv.mono (by omega) (e6 i x y h1 h2)⟩)))
theorem Eqv.int {K : PySem.W.Frag} {H : Hp} {n : Nat} {i : Int} : Eqv K H (n + 1) (.int i) (.int i) := .inl ⟨i, rfl, rfl⟩
theorem Eqv.str {K : PySem.W.Frag} {H : Hp} {n : Nat} {x : Str} : Eqv K H (n + 1) (.str x) (.str x) := .inr (.inl ⟨x, rfl, rfl⟩)
theorem Eqv.bl {K : PySem.W.Frag} {H : Hp} {n : Nat} {b : Bool} : Eqv K H (n + 1) (.bl b) (.bl b) := .inr (.inr (.inl ⟨b, rfl, rfl⟩))
theorem Eqv.non {K : PySem.W.Frag} {H : Hp} {n : Nat} : Eqv K H (n + 1) .non .non := .inr (.inr (.inr (.inl ⟨rfl, rfl⟩)))
theorem Eqv.tup {K : PySem.W.Frag} {H : Hp} {n : Nat} {a b : Addr} {xs ys : List V} (h1 : H a = some (.tup xs)) (h2 : H b = some (.tup ys)) (hl : xs.length = ys.length) (hz : ys.length ≤ 100000) (h : ∀ (i : Nat) x y, xs[i]? = some x → ys[i]? = some y → Eqv K H n x y) : Eqv K H (n + 1) (.ref a) (.ref b) :=
  .inr (.inr (.inr (.inr ⟨a, b, xs, ys, rfl, rfl, .inr ⟨h1, h2⟩, hl, hz, h⟩)))
theorem Eqv.lst {K : PySem.W.Frag} {H : Hp} {n : Nat} {a b : Addr} {xs ys : List V} (h1 : H a = some (.lst xs)) (h2 : H b = some (.lst ys)) (hl : xs.length = ys.length) (hz : ys.length ≤ 100000) (h : ∀ (i : Nat) x y, xs[i]? = some x → ys[i]? = some y → Eqv K H n x y) : Eqv K H (n + 1) (.ref a) (.ref b) :=
  .inr (.inr (.inr (.inr ⟨a, b, xs, ys, rfl, rfl, .inl ⟨h1, h2⟩, hl, hz, h⟩)))
theorem Eqv.ints {K : PySem.W.Frag} {H : Hp} {n : Nat} {a b : Addr} {xs : List Int} (h1 : H a = some (.lst (xs.map V.int))) (h2 : H b = some (.lst (xs.map V.int))) (hz : xs.length ≤ 100000) : Eqv K H (n + 2) (.ref a) (.ref b) :=
  Eqv.lst h1 h2 rfl (by rw [List.length_map]; exact hz) fun i x y e1 e2 => by
    rw [e1] at e2
    cases e2
    obtain ⟨z, _, rfl⟩ := map_get e1
    exact .int
/-- a tuple of few parts is alike to itself -/
theorem Eqv.self2 {K : PySem.W.Frag} {H : Hp} {n : Nat} {a : Addr} {xs : List V} (h1 : H a = some (.tup xs)) (hz : xs.length ≤ 100000) (h : ∀ x, x ∈ xs → Eqv K H n x x) : Eqv K H (n + 1) (.ref a) (.ref a) :=
  Eqv.tup h1 h1 rfl hz fun i x y e1 e2 => by
    rw [e1] at e2
    cases e2
    exact h x (List.mem_of_getElem? e1)
end Br

/-! ### steps: what they are, where they stand, what they do -/
namespace Br
open PySem PySem.Spec PyProof.Rows L2 Br.F
inductive Fac where
  | cell (i : Nat)
  | inp (i : Nat)
inductive Stp where
  | add (t : Nat) (c : Int) (fs : List Fac)
  | scale (t : Nat) (u : Int)
  | swap (a b : Nat)
  | tab (t : Nat) (s : Int) (tb : List (List Int)) (a b : Nat)
def FacOk (cells inputs t : Nat) : Fac → Prop
  | .cell i => i < cells ∧ i ≠ t
  | .inp i => i < inputs
def StpOk (m cells inputs : Nat) : Stp → Prop
  | .add t c fs => t < cells ∧ 0 ≤ c ∧ c < m ∧ fs.length ≤ 3 ∧ ∀ f, f ∈ fs → FacOk cells inputs t f
  | .scale t u => t < cells ∧ 0 ≤ u ∧ u < m ∧ Int.gcd u m = 1
  | .swap a b => a < cells ∧ b < cells ∧ a ≠ b
  | .tab t s tb a b => t < cells ∧ a < cells ∧ b < cells ∧ t ≠ a ∧ t ≠ b ∧ a ≠ b ∧ (s = 1 ∨ s = m - 1) ∧ IsTab m tb ∧ tb.length ≤ 1000 ∧ IsPrime m
/-- where they stand: tuples alone -/
def FacAt (H : Hp) (a : Addr) : Fac → Prop
  | .cell i => H a = some (.tup [.str "cell", .int (i : Int)])
  | .inp i => H a = some (.tup [.str "input", .int (i : Int)])
def TbAt (H : Hp) (a : Addr) (t : List (List Int)) : Prop := ∃ as : List Addr, H a = some (.tup (as.map V.ref)) ∧ as.length = t.length ∧ ∀ (i : Nat) r b, t[i]? = some r → as[i]? = some b → H b = some (.tup (r.map V.int))
def StpAt (H : Hp) (a : Addr) : Stp → Prop
  | .add t c fs => ∃ (f : Addr) (as : List Addr), H a = some (.tup [.str "add", .int (t : Int), .int c, .ref f]) ∧ H f = some (.tup (as.map V.ref)) ∧ as.length = fs.length ∧ ∀ (i : Nat) x b, fs[i]? = some x → as[i]? = some b → FacAt H b x
  | .scale t u => H a = some (.tup [.str "scale", .int (t : Int), .int u])
  | .swap i j => H a = some (.tup [.str "swap", .int (i : Int), .int (j : Int)])
  | .tab t s tb i j => ∃ c : Addr, H a = some (.tup [.str "table", .int (t : Int), .int s, .ref c, .int (i : Int), .int (j : Int)]) ∧ TbAt H c tb
/-- every tuple stays -/
def Tups (H H' : Hp) : Prop := ∀ b xs, H b = some (.tup xs) → H' b = some (.tup xs)
theorem Tups.refl (H : Hp) : Tups H H := fun _ _ h => h
theorem Tups.trans {H H1 H2 : Hp} (a : Tups H H1) (b : Tups H1 H2) : Tups H H2 := fun c xs h => b c xs (a c xs h)
theorem Tups.same {H H' : Hp} (s : Same H H') : Tups H H' := fun b xs h => s b _ h
theorem Tups.put {H H' : Hp} {p : Addr} {o : HO} (s : Tups H H') (h : ∀ xs, H' p ≠ some (.tup xs)) : Tups H (upd H' p o) := fun b xs e => by
  have e' := s b xs e
  rw [upd_ne (fun z => h xs (by rw [← z]; exact e'))]
  exact e'
theorem no_tup {H : Hp} {p : Addr} (h : H p = none) : ∀ xs, H p ≠ some (.tup xs) := fun xs e => by rw [h] at e; cases e
theorem no_tupL {H : Hp} {p : Addr} {ys : List V} (h : H p = some (.lst ys)) : ∀ xs, H p ≠ some (.tup xs) := fun xs e => by rw [h] at e; cases e
theorem Tups.keep {H H' : Hp} {d : Addr} {ys : List V} (k : Keep d H H') (h : H d = some (.lst ys)) : Tups H H' := fun b xs e => k b _ e (ne_of e h (by intro z; cases z))
theorem FacAt.tups {H H' : Hp} {a : Addr} {f : Fac} (h : FacAt H a f) (s : Tups H H') : FacAt H' a f := by
  cases f with
  | cell i => exact s _ _ h
  | inp i => exact s _ _ h
theorem TbAt.tups {H H' : Hp} {a : Addr} {t : List (List Int)} (h : TbAt H a t) (s : Tups H H') : TbAt H' a t := by
  obtain ⟨as, h1, h2, h3⟩ := h
  exact ⟨as, s _ _ h1, h2, fun i r b e1 e2 => s _ _ (h3 i r b e1 e2)⟩
theorem StpAt.tups {H H' : Hp} {a : Addr} {x : Stp} (h : StpAt H a x) (s : Tups H H') : StpAt H' a x := by
  cases x with
  | add t c fs =>
    obtain ⟨f, as, h1, h2, h3, h4⟩ := h
    exact ⟨f, as, s _ _ h1, s _ _ h2, h3, fun i y b e1 e2 => (h4 i y b e1 e2).tups s⟩
  | scale t u => exact s _ _ h
  | swap i j => exact s _ _ h
  | tab t g tb i j =>
    obtain ⟨c, h1, h2⟩ := h
    exact ⟨c, s _ _ h1, h2.tups s⟩
/-- many of them -/
def StpsAt (H : Hp) (as : List Addr) (ss : List Stp) : Prop := as.length = ss.length ∧ ∀ (i : Nat) x b, ss[i]? = some x → as[i]? = some b → StpAt H b x
theorem StpsAt.tups {H H' : Hp} {as : List Addr} {ss : List Stp} (h : StpsAt H as ss) (s : Tups H H') : StpsAt H' as ss := ⟨h.1, fun i x b e1 e2 => (h.2 i x b e1 e2).tups s⟩
theorem StpsAt.get {H : Hp} {as : List Addr} {ss : List Stp} (h : StpsAt H as ss) {i : Nat} {b : Addr} (e : as[i]? = some b) : ∃ x, ss[i]? = some x ∧ StpAt H b x := by
  have hl := (List.getElem?_eq_some_iff.mp e).1
  have hl2 : i < ss.length := by rw [← h.1]; exact hl
  exact ⟨_, List.getElem?_eq_getElem hl2, h.2 i _ b (List.getElem?_eq_getElem hl2) e⟩
theorem StpsAt.snoc {H : Hp} {as : List Addr} {ss : List Stp} {b : Addr} {x : Stp} (h : StpsAt H as ss) (hx : StpAt H b x) : StpsAt H (as ++ [b]) (ss ++ [x]) := by
  refine ⟨by rw [List.length_append, List.length_append, h.1]; rfl, fun i y c e1 e2 => ?_⟩
  rcases snoc_at rfl e1 with ⟨h1, e1⟩ | ⟨h1, rfl⟩
  · rcases snoc_at rfl e2 with ⟨h2, e2⟩ | ⟨h2, rfl⟩
    · exact h.2 i y c e1 e2
    · have := h.1; omega
  · rcases snoc_at rfl e2 with ⟨h2, e2⟩ | ⟨h2, rfl⟩
    · have := h.1; omega
    · exact hx
/-- numbers of a modulus, so many -/
structure Mem (m n : Nat) (xs : List Int) : Prop where
  len : xs.length = n
  rg : Rg 0 m xs
theorem Mem.get {m n : Nat} {xs : List Int} (h : Mem m n xs) {i : Nat} (hi : i < n) : ∃ z, xs[i]? = some z ∧ xs.getD i 0 = z ∧ 0 ≤ z ∧ z < m := by
  have hl : i < xs.length := by rw [h.len]; exact hi
  refine ⟨xs[i], List.getElem?_eq_getElem hl, ?_, (h.rg _ (List.getElem_mem hl)).1, (h.rg _ (List.getElem_mem hl)).2⟩
  rw [List.getD_eq_getElem?_getD, List.getElem?_eq_getElem hl]; rfl
theorem Mem.set {m n : Nat} {xs : List Int} (h : Mem m n xs) {i : Nat} {z : Int} (h0 : 0 ≤ z) (h1 : z < m) : Mem m n (xs.set i z) :=
  ⟨by rw [List.length_set, h.len], fun y hy => by
    rcases List.mem_or_eq_of_mem_set hy with h2 | h2
    · exact h.rg y h2
    · rw [h2]; exact ⟨h0, h1⟩⟩
def facV (mem inp : List Int) : Fac → Int
  | .cell i => mem.getD i 0
  | .inp i => inp.getD i 0
def prodV (mem inp : List Int) : List Fac → Int
  | [] => 1
  | f :: fs => facV mem inp f * prodV mem inp fs
/-- the value of the table's polynomial, written out -/
def ItpV (p : Nat) (t : List (List Int)) (x y : Int) : Int := S1 (fun i => BsV p t.length i x * S1 (fun j => BsV p t.length j y * (t.getD i []).getD j 0) t.length) t.length % p
theorem ItpV.ok {p : Nat} {t : List (List Int)} {x y : Int} (hp : IsPrime p) (hn : t.length ≤ p) : Itp p t x y (ItpV p t x y) :=
  ⟨fun i => BsV p t.length i x, fun j => BsV p t.length j y, fun i hi => BsV.ok hp hi hn, fun j hj => BsV.ok hp hj hn, rfl⟩
def stepF (m : Nat) (inp mem : List Int) : Stp → List Int
  | .add t c fs => mem.set t ((mem.getD t 0 + c * prodV mem inp fs) % m)
  | .scale t u => mem.set t (mem.getD t 0 * u % m)
  | .swap a b => (mem.set a (mem.getD b 0)).set b (mem.getD a 0)
  | .tab t s tb a b => mem.set t ((mem.getD t 0 + s * ItpV m tb (mem.getD a 0) (mem.getD b 0)) % m)
theorem stepF_mem {m cells : Nat} {inp mem : List Int} (hm : 1 ≤ m) (h : Mem m cells mem) : ∀ {s : Stp} {inputs : Nat}, StpOk m cells inputs s → Mem m cells (stepF m inp mem s)
  | .add t c fs, _, _ => h.set (Int.emod_nonneg _ (by omega)) (Int.emod_lt_of_pos _ (by omega))
  | .scale t u, _, _ => h.set (Int.emod_nonneg _ (by omega)) (Int.emod_lt_of_pos _ (by omega))
  | .swap a b, _, ok => by
    obtain ⟨z, _, e1, z0, z1⟩ := h.get ok.1
    obtain ⟨y, _, e2, y0, y1⟩ := h.get ok.2.1
    show Mem m cells ((mem.set a (mem.getD b 0)).set b (mem.getD a 0))
    rw [e1, e2]
    exact (h.set y0 y1).set z0 z1
  | .tab t s tb a b, _, _ => h.set (Int.emod_nonneg _ (by omega)) (Int.emod_lt_of_pos _ (by omega))
def runF (m : Nat) (inp : List Int) (ss : List Stp) (mem : List Int) : List Int := ss.foldl (fun mem s => stepF m inp mem s) mem
theorem runF_snoc {m : Nat} {inp : List Int} {ss : List Stp} {s : Stp} {mem : List Int} : runF m inp (ss ++ [s]) mem = stepF m inp (runF m inp ss mem) s := by
  unfold runF
  rw [List.foldl_append]
  rfl
theorem runF_mem {m cells inputs : Nat} {inp : List Int} (hm : 1 ≤ m) : ∀ {ss : List Stp} {mem : List Int}, Mem m cells mem → (∀ s, s ∈ ss → StpOk m cells inputs s) → Mem m cells (runF m inp ss mem)
  | [], _, h, _ => h
  | s :: ss, mem, h, hs => runF_mem (mem := stepF m inp mem s) hm (stepF_mem hm h (hs s List.mem_cons_self)) fun x hx => hs x (List.mem_cons_of_mem _ hx)
theorem take_snoc {α : Type} {ss : List α} {i : Nat} {s : α} (h : ss[i]? = some s) : ss.take (i + 1) = ss.take i ++ [s] := by rw [List.take_add_one, h]; rfl
theorem FacAt.eqv {K : PySem.W.Frag} {H : Hp} {a : Addr} {f : Fac} (h : FacAt H a f) : Eqv K H 2 (.ref a) (.ref a) := by
  cases f with
  | cell i =>
    exact Eqv.self2 h (Nat.le_of_ble_eq_true rfl) fun x hx => by
      have e : x = .str "cell" ∨ x = .int (i : Int) := by simpa using hx
      rcases e with rfl | rfl
      · exact .str
      · exact .int
  | inp i =>
    exact Eqv.self2 h (Nat.le_of_ble_eq_true rfl) fun x hx => by
      have e : x = .str "input" ∨ x = .int (i : Int) := by simpa using hx
      rcases e with rfl | rfl
      · exact .str
      · exact .int
theorem StpAt.eqv {K : PySem.W.Frag} {H : Hp} {a : Addr} {m cells inputs : Nat} {s : Stp} (ok : StpOk m cells inputs s) (h : StpAt H a s) : Eqv K H 4 (.ref a) (.ref a) := by
  cases s with
  | add t c fs =>
    obtain ⟨f, as, h1, h2, h3, h4⟩ := h
    have hf : Eqv K H 3 (.ref f) (.ref f) := Eqv.self2 h2 (by rw [List.length_map, h3]; have := ok.2.2.2.1; omega) fun x hx => by
      obtain ⟨b, hb, rfl⟩ := List.mem_map.mp hx
      obtain ⟨i, hi⟩ := List.mem_iff_getElem?.mp hb
      have hl := (List.getElem?_eq_some_iff.mp hi).1
      exact (h4 i _ b (List.getElem?_eq_getElem (by omega)) hi).eqv
    exact Eqv.self2 h1 (Nat.le_of_ble_eq_true rfl) fun x hx => by
      have e : x = .str "add" ∨ x = .int (t : Int) ∨ x = .int c ∨ x = .ref f := by simpa using hx
      rcases e with rfl | rfl | rfl | rfl
      · exact .str
      · exact .int
      · exact .int
      · exact hf
  | scale t u =>
    exact Eqv.self2 h (Nat.le_of_ble_eq_true rfl) fun x hx => by
      have e : x = .str "scale" ∨ x = .int (t : Int) ∨ x = .int u := by simpa using hx
      rcases e with rfl | rfl | rfl
      · exact .str
      · exact .int
      · exact .int
  | swap i j =>
    exact Eqv.self2 h (Nat.le_of_ble_eq_true rfl) fun x hx => by
      have e : x = .str "swap" ∨ x = .int (i : Int) ∨ x = .int (j : Int) := by simpa using hx
      rcases e with rfl | rfl | rfl
      · exact .str
      · exact .int
      · exact .int
  | tab t g tb i j =>
    obtain ⟨c, h1, as, h2, h3, h4⟩ := h
    have hlen : tb.length ≤ 1000 := ok.2.2.2.2.2.2.2.2.1
    have hI : IsTab m tb := ok.2.2.2.2.2.2.2.1
    have hc : Eqv K H 3 (.ref c) (.ref c) := Eqv.self2 h2 (by rw [List.length_map, h3]; omega) fun x hx => by
      obtain ⟨b, hb, rfl⟩ := List.mem_map.mp hx
      obtain ⟨i, hi⟩ := List.mem_iff_getElem?.mp hb
      have hl := (List.getElem?_eq_some_iff.mp hi).1
      have hl2 : i < tb.length := by omega
      obtain ⟨hr, _⟩ := hI.rows i _ (List.getElem?_eq_getElem hl2)
      exact Eqv.self2 (h4 i _ b (List.getElem?_eq_getElem hl2) hi) (by rw [List.length_map, hr]; omega) fun x hx => by
        obtain ⟨z, _, rfl⟩ := List.mem_map.mp hx
        exact .int
    exact Eqv.self2 h1 (Nat.le_of_ble_eq_true rfl) fun x hx => by
      have e : x = .str "table" ∨ x = .int (t : Int) ∨ x = .int g ∨ x = .ref c ∨ x = .int (i : Int) ∨ x = .int (j : Int) := by simpa using hx
      rcases e with rfl | rfl | rfl | rfl | rfl | rfl
      · exact .str
      · exact .int
      · exact .int
      · exact hc
      · exact .int
      · exact .int
end Br

/-! ### minus and len of an instance -/
namespace Br
open PySem PySem.Spec PyProof.Rows L2 PySem.Calls
section
variable {X : Cx} {CX : CXT} {k : Nat} {f C : Addr} {fd : FuncData} {ps : List Str} {sp : Sp} {ds : List Value} {dvs : List V} {E : XK}
def rNegM (C : Addr) (sp : Sp) (dvs : List V) (E : XK) : V → Hp → VK → Prop := fun x H Q => ∃ a dx fs, x = .ref a ∧ H a = some (.ins C dx fs) ∧ sp (x :: dvs) H Q E
theorem un_negM (hm : Meth X.K C "__neg__" f) (F : FnOk X.prog X.w X.K X.mg X.base CX k f fd ps sp) (hr : Room k X.A) (hb : Binds X.K fd ps ds) (hd : Vals dvs ds) (hx : Passes CX X E) :
    UnR X (unaryOp .USub) (rNegM C sp dvs E) := by
  intro pins s σ H x u Q I rx q
  obtain ⟨a, dx, fs, rfl, e, q⟩ := q
  obtain rfl : u = Value.ref a := rx
  obtain ⟨mA, O, _⟩ := ins_get I.hok e
  obtain ⟨od, J, hl⟩ := O.look
  unfold unaryOp
  refine wpAny_holding ?_
  exact wpAny_bind (PySem.W.special_fn I.kIn J hm.at_ (beq_iff_eq.mp hm.fn) (wpAny_mono (run_fn (us := [.ref a]) (vs := [.ref a]) F hr hb hd hx I (.cons rfl .nil) q) (fun _ _ z => wpAny_pure z) fun _ _ z => z))
theorem run_in1 {pins : List (Addr × Obj)} {σ : L2.St} {H : Hp} {s : Shared} {Q : VK} {us : List Value} {vs : List V} (F : FnOk X.prog X.w X.K X.mg X.base CX k f fd ps sp) (hr : Room (k + 1) X.A) (hb : Binds X.K fd ps ds) (hd : Vals dvs ds) (hx : Passes CX X E)
    (I : Inv X pins σ H s) (r : Vals vs us) (h : sp (vs ++ dvs) H Q E) : wpAny (model X.prog X.w) X.A.in1 (call (.ref f) us) (EP X pins σ Q) X.xe s := by
  have r2 : Vals (vs ++ dvs) (us ++ ds) := r.append hd
  have hl : (us ++ ds).length = ps.length := by rw [← r2.length]; exact F.len _ _ _ _ h
  refine wpAny_call (codeAny_mono (F.run X.A.in1 X.stack s H ⟨us, []⟩ (us ++ ds) (vs ++ dvs) Q E hr.in1 I.env0.in1 (hb s us I.kIn hl) r2 h) fun r s' hq => ?_)
  cases r with
  | error e => exact hx pins σ H s e s' I hq
  | ok fl =>
    cases fl with
    | ret u =>
      obtain ⟨v, H', I3, rv, q3⟩ := I.after hq
      exact ⟨v, H', I3, rv, q3⟩
    | next => exact False.elim hq
    | brk => exact False.elim hq
    | cont => exact False.elim hq
theorem pe_fldK {K2 : PySem.W.Frag} {e : Expr} {g : Str} {ta : TE} {pos : Pos} (hK : X.K = K2) (he : PE X e ta) (hb : attributeBase e g X.env (eval e X.env) = eval e X.env) : PE X (.Attribute e g pos) (tFld K2 ta g) := by
  subst hK
  exact pe_fld he hb
def rLenM (C : Addr) (sp : Sp) (dvs : List V) (E : XK) : List V → Hp → VK → Prop := fun xs H Q => ∃ a dx fs, xs = [.ref a] ∧ H a = some (.ins C dx fs) ∧ sp (.ref a :: dvs) H (fun v H' => ∃ n : Nat, v = .int (n : Int) ∧ (n : Int) < 2 ^ 63 ∧ Q v H') E
theorem cr_lenM (hm : Meth X.K C "__len__" f) (F : FnOk X.prog X.w X.K X.mg X.base CX k f fd ps sp) (hr : Room (k + 1) X.A) (hb : Binds X.K fd ps ds) (hd : Vals dvs ds) (hx : Passes CX X E) : CallR X (.builtin "len") (rLenM C sp dvs E) := by
  intro pins s σ H xs us Q I r h
  obtain ⟨a, dx, fs, rfl, e, q⟩ := h
  obtain ⟨u, rfl, rx⟩ := vals1 r
  obtain rfl : u = Value.ref a := rx
  obtain ⟨mA, O, _⟩ := ins_get I.hok e
  obtain ⟨od, J, hl⟩ := O.look
  refine Calls.call_function_entry kind_len plain_len entry_len (args_len1 _) ?_
  unfold Builtin.«len»
  refine wpAny_bind (m := oneArg "len" _) (wpAny_pure ?_)
  refine wpAny_bind (m := callSpecial? (.ref a) (PySem.Str.ofString "__len__")) (PySem.W.special_fn I.kIn J hm.at_ (beq_iff_eq.mp hm.fn) (wpAny_mono (run_in1 (us := [.ref a]) (vs := [.ref a]) F hr hb hd hx I (.cons rfl .nil) q) (fun v s' z => ?_) fun _ _ z => z))
  obtain ⟨x, H', I', rx, n, rfl, hn, q⟩ := z
  obtain ⟨t, rfl⟩ := rx
  refine wpAny_bind (wpAny_holding (wpAny_pure ?_))
  refine wpAny_bind (wpAny_letGo ?_)
  show wpAny _ _ (if ((n : Nat) : Int) < 0 then _ else _) _ _ _
  rw [if_neg (by omega)]
  show wpAny _ _ (if ((n : Nat) : Int) ≥ 2 ^ 63 then _ else _) _ _ _
  rw [if_neg (by omega)]
  exact wpAny_bind (wpAny_mkInt (wpAny_pure ⟨_, rfl, .int (n : Int), H', I'.tok _, ⟨_, rfl⟩, q⟩))
end
end Br

/-! ### steps that take back -/
namespace Br
open PySem PySem.Spec PyProof.Rows L2 Br.F
def IsBack (m : Nat) : Stp → Stp → Prop
  | .add t k fs, s' => s' = .add t (((m : Int) - k) % m) fs
  | .scale t u, s' => ∃ v : Int, s' = .scale t v ∧ 0 ≤ v ∧ v < m ∧ v * u % m = 1
  | .swap a b, s' => s' = .swap a b
  | .tab t g tb a b, s' => s' = .tab t ((m : Int) - g) tb a b
theorem mod_is {m : Nat} {x y : Int} (h0 : 0 ≤ x) (h1 : x < m) (h : (m : Int) ∣ y - x) : y % m = x := by
  have e : y % m = x % m := Int.emod_eq_emod_iff_emod_sub_eq_zero.mpr (Int.emod_eq_zero_of_dvd h)
  rw [e, Int.emod_eq_of_lt h0 h1]
theorem mod_ex (m : Nat) (x : Int) : ∃ q : Int, x % m = x - m * q := ⟨x / m, by rw [Int.emod_def]⟩
theorem getD_set_ne {xs : List Int} {i j : Nat} {z : Int} (h : i ≠ j) : (xs.set i z).getD j 0 = xs.getD j 0 := by
  rw [List.getD_eq_getElem?_getD, List.getD_eq_getElem?_getD, List.getElem?_set_ne h]
theorem getD_set_eq {xs : List Int} {i : Nat} {z : Int} (h : i < xs.length) : (xs.set i z).getD i 0 = z := by
  rw [List.getD_eq_getElem?_getD, List.getElem?_set_self h]; rfl
theorem set_getD {xs : List Int} {i : Nat} : xs.set i (xs.getD i 0) = xs := by
  apply List.ext_getElem?
  intro j
  by_cases h : i = j
  · subst h
    by_cases hl : i < xs.length
    · rw [List.getElem?_set_self hl, List.getD_eq_getElem?_getD, List.getElem?_eq_getElem hl]; rfl
    · rw [List.getElem?_eq_none (by rw [List.length_set]; omega), List.getElem?_eq_none (by omega)]
  · rw [List.getElem?_set_ne h]
theorem prodV_set {mv iv : List Int} {t c i : Nat} {z : Int} : ∀ {fs : List Fac}, (∀ f, f ∈ fs → FacOk c i t f) → prodV (mv.set t z) iv fs = prodV mv iv fs
  | [], _ => rfl
  | f :: fs, h => by
    show facV (mv.set t z) iv f * prodV (mv.set t z) iv fs = facV mv iv f * prodV mv iv fs
    rw [prodV_set fun g hg => h g (List.mem_cons_of_mem _ hg)]
    have e : facV (mv.set t z) iv f = facV mv iv f := by
      cases f with
      | cell j => exact getD_set_ne (h _ List.mem_cons_self).2.symm
      | inp j => rfl
    rw [e]
theorem undo_add {m : Nat} {x k P : Int} (h0 : 0 ≤ x) (h1 : x < m) : ((x + k * P) % m + (((m : Int) - k) % m) * P) % m = x := by
  refine mod_is h0 h1 ?_
  obtain ⟨q1, e1⟩ := mod_ex m (x + k * P)
  obtain ⟨q2, e2⟩ := mod_ex m ((m : Int) - k)
  rw [e1, e2]
  exact ⟨P - q1 - q2 * P, by grind⟩
theorem undo_tab {m : Nat} {x g V : Int} (h0 : 0 ≤ x) (h1 : x < m) : ((x + g * V) % m + ((m : Int) - g) * V) % m = x := by
  refine mod_is h0 h1 ?_
  obtain ⟨q1, e1⟩ := mod_ex m (x + g * V)
  rw [e1]
  exact ⟨V - q1, by grind⟩
theorem undo_scale {m : Nat} {x u v : Int} (h0 : 0 ≤ x) (h1 : x < m) (h : v * u % m = 1) : (x * u % m) * v % m = x := by
  refine mod_is h0 h1 ?_
  obtain ⟨q1, e1⟩ := mod_ex m (x * u)
  obtain ⟨q2, e2⟩ := mod_ex m (v * u)
  rw [h] at e2
  rw [e1]
  exact ⟨x * q2 - q1 * v, by grind⟩
theorem stepF_back {m c i : Nat} {iv mv : List Int} {s s' : Stp} (hm : 1 ≤ m) (hv : Mem m c mv) (ok : StpOk m c i s) (h : IsBack m s s') : stepF m iv (stepF m iv mv s) s' = mv := by
  cases s with
  | add t k fs =>
    obtain rfl := h
    obtain ⟨o1, o2, o3, o4, o5⟩ := ok
    obtain ⟨z, gz, ez, z0, z1⟩ := hv.get o1
    have hl : t < mv.length := by rw [hv.len]; exact o1
    show (mv.set t ((mv.getD t 0 + k * prodV mv iv fs) % m)).set t (((mv.set t ((mv.getD t 0 + k * prodV mv iv fs) % m)).getD t 0 + (((m : Int) - k) % m) * prodV (mv.set t ((mv.getD t 0 + k * prodV mv iv fs) % m)) iv fs) % m) = mv
    rw [getD_set_eq hl, prodV_set o5, List.set_set, ez, undo_add z0 z1, ← ez, set_getD]
  | scale t u =>
    obtain ⟨v, rfl, v0, v1, hvu⟩ := h
    obtain ⟨o1, _⟩ := ok
    obtain ⟨z, gz, ez, z0, z1⟩ := hv.get o1
    have hl : t < mv.length := by rw [hv.len]; exact o1
    show (mv.set t (mv.getD t 0 * u % m)).set t ((mv.set t (mv.getD t 0 * u % m)).getD t 0 * v % m) = mv
    rw [getD_set_eq hl, List.set_set, ez, undo_scale z0 z1 hvu, ← ez, set_getD]
  | swap a b =>
    obtain rfl := h
    obtain ⟨o1, o2, o3⟩ := ok
    have ha : a < mv.length := by rw [hv.len]; exact o1
    have hb : b < mv.length := by rw [hv.len]; exact o2
    show (((mv.set a (mv.getD b 0)).set b (mv.getD a 0)).set a (((mv.set a (mv.getD b 0)).set b (mv.getD a 0)).getD b 0)).set b (((mv.set a (mv.getD b 0)).set b (mv.getD a 0)).getD a 0) = mv
    rw [getD_set_eq (by rw [List.length_set]; exact hb), getD_set_ne o3.symm, getD_set_eq ha, List.set_comm _ _ o3, List.set_set, List.set_comm _ _ o3.symm, List.set_set, set_getD, set_getD]
  | tab t g tb a b =>
    obtain rfl := h
    obtain ⟨o1, o2, o3, o4, o5, _⟩ := ok
    obtain ⟨z, gz, ez, z0, z1⟩ := hv.get o1
    have hl : t < mv.length := by rw [hv.len]; exact o1
    generalize hV : ItpV m tb (mv.getD a 0) (mv.getD b 0) = W
    show (mv.set t ((mv.getD t 0 + g * ItpV m tb (mv.getD a 0) (mv.getD b 0)) % m)).set t (((mv.set t ((mv.getD t 0 + g * ItpV m tb (mv.getD a 0) (mv.getD b 0)) % m)).getD t 0 + ((m : Int) - g) * ItpV m tb ((mv.set t ((mv.getD t 0 + g * ItpV m tb (mv.getD a 0) (mv.getD b 0)) % m)).getD a 0) ((mv.set t ((mv.getD t 0 + g * ItpV m tb (mv.getD a 0) (mv.getD b 0)) % m)).getD b 0)) % m) = mv
    rw [getD_set_eq hl, getD_set_ne o4, getD_set_ne o5, hV, List.set_set, ez, undo_tab z0 z1, ← ez, set_getD]
theorem unit_uniq {m : Nat} {u v w : Int} (h1 : v * u % m = 1) (h2 : w * u % m = 1) (v0 : 0 ≤ v) (v1 : v < m) (w0 : 0 ≤ w) (w1 : w < m) : v = w := by
  obtain ⟨q1, e1⟩ := mod_ex m (v * u)
  obtain ⟨q2, e2⟩ := mod_ex m (w * u)
  rw [h1] at e1
  rw [h2] at e2
  have e : v % m = w := mod_is w0 w1 ⟨w * q1 - v * q2, by grind⟩
  rw [← e, Int.emod_eq_of_lt v0 v1]
theorem IsBack.uniq {m : Nat} {s a b : Stp} (h1 : IsBack m s a) (h2 : IsBack m s b) : a = b := by
  cases s with
  | add => exact h1.trans h2.symm
  | swap => exact h1.trans h2.symm
  | tab => exact h1.trans h2.symm
  | scale t u =>
    obtain ⟨v, rfl, v0, v1, hv⟩ := h1
    obtain ⟨w, rfl, w0, w1, hw⟩ := h2
    rw [unit_uniq hv hw v0 v1 w0 w1]
theorem IsBack.symm {m c i : Nat} {s s' : Stp} (ok : StpOk m c i s) (h : IsBack m s s') : IsBack m s' s := by
  cases s with
  | add t k fs =>
    obtain rfl := h
    obtain ⟨o1, o2, o3, _⟩ := ok
    show Stp.add t k fs = .add t (((m : Int) - ((m : Int) - k) % m) % m) fs
    have e : ((m : Int) - ((m : Int) - k) % m) % m = k := by
      refine mod_is o2 o3 ?_
      obtain ⟨q, e⟩ := mod_ex m ((m : Int) - k)
      rw [e]
      exact ⟨q, by grind⟩
    rw [e]
  | scale t u =>
    obtain ⟨v, rfl, v0, v1, hv⟩ := h
    exact ⟨u, rfl, ok.2.1, ok.2.2.1, by rw [Int.mul_comm]; exact hv⟩
  | swap a b =>
    obtain rfl := h
    rfl
  | tab t g tb a b =>
    obtain rfl := h
    show Stp.tab t g tb a b = .tab t ((m : Int) - ((m : Int) - g)) tb a b
    rw [Int.sub_sub_self]
theorem IsBack.ok {m c i : Nat} {s s' : Stp} (hm : 2 ≤ m) (ok : StpOk m c i s) (h : IsBack m s s') : StpOk m c i s' := by
  cases s with
  | add t k fs =>
    obtain rfl := h
    obtain ⟨o1, o2, o3, o4, o5⟩ := ok
    exact ⟨o1, Int.emod_nonneg _ (by omega), Int.emod_lt_of_pos _ (by omega), o4, o5⟩
  | scale t u =>
    obtain ⟨v, rfl, v0, v1, hv⟩ := h
    refine ⟨ok.1, v0, v1, ?_⟩
    have h1 := Int.gcd_dvd_left (a := v) (b := (m : Int))
    have h2 := Int.gcd_dvd_right (a := v) (b := (m : Int))
    have h3 : ((Int.gcd v m : Nat) : Int) ∣ ((1 : Nat) : Int) := by
      obtain ⟨q, e⟩ := mod_ex m (v * u)
      rw [hv] at e
      obtain ⟨x, hx⟩ := h1
      obtain ⟨y, hy⟩ := h2
      generalize ((Int.gcd v m : Nat) : Int) = G at hx hy
      refine ⟨x * u - y * q, ?_⟩
      rw [Int.mul_sub, ← Int.mul_assoc, ← Int.mul_assoc, ← hx, ← hy]
      exact e
    exact Nat.dvd_one.mp (Int.ofNat_dvd.mp h3)
  | swap a b =>
    obtain rfl := h
    exact ok
  | tab t g tb a b =>
    obtain rfl := h
    obtain ⟨o1, o2, o3, o4, o5, o6, o7, o8, o9, o10⟩ := ok
    exact ⟨o1, o2, o3, o4, o5, o6, by omega, o8, o9, o10⟩
inductive BackOf (m : Nat) : List Stp → List Stp → Prop
  | nil : BackOf m [] []
  | cons {s s' : Stp} {ss ss' : List Stp} : IsBack m s s' → BackOf m ss ss' → BackOf m (s :: ss) (ss' ++ [s'])
theorem BackOf.snoc {m : Nat} {x y : Stp} {xs ys : List Stp} (h : BackOf m xs ys) (hb : IsBack m x y) : BackOf m (xs ++ [x]) (y :: ys) := by
  induction h with
  | nil => exact .cons (ss' := []) hb .nil
  | cons h1 _ ih => exact .cons (ss' := y :: _) h1 ih
theorem BackOf.len {m : Nat} {xs ys : List Stp} (h : BackOf m xs ys) : ys.length = xs.length := by
  induction h with
  | nil => rfl
  | cons h1 _ ih => rw [List.length_append, List.length_cons, ih]; rfl
theorem BackOf.symm {m c i : Nat} {xs ys : List Stp} (h : BackOf m xs ys) (ok : ∀ s, s ∈ xs → StpOk m c i s) : BackOf m ys xs := by
  induction h with
  | nil => exact .nil
  | cons h1 _ ih => exact (ih fun s hs => ok s (List.mem_cons_of_mem _ hs)).snoc (h1.symm (ok _ List.mem_cons_self))
theorem BackOf.oks {m c i : Nat} {xs ys : List Stp} (hm : 2 ≤ m) (h : BackOf m xs ys) (ok : ∀ s, s ∈ xs → StpOk m c i s) : ∀ s, s ∈ ys → StpOk m c i s := by
  induction h with
  | nil => exact ok
  | cons h1 _ ih =>
    intro s hs
    rcases List.mem_append.mp hs with h | h
    · exact ih (fun s hs => ok s (List.mem_cons_of_mem _ hs)) s h
    · rw [List.mem_singleton.mp h]
      exact h1.ok hm (ok _ List.mem_cons_self)
theorem BackOf.uniq {m : Nat} {xs ys : List Stp} (h : BackOf m xs ys) : ∀ {zs : List Stp}, BackOf m xs zs → ys = zs := by
  induction h with
  | nil => intro zs h; cases h; rfl
  | cons h1 _ ih =>
    intro zs h
    cases h with
    | cons h2 h3 => rw [ih h3, h1.uniq h2]
theorem runF_app {m : Nat} {iv : List Int} {xs ys : List Stp} {mv : List Int} : runF m iv (xs ++ ys) mv = runF m iv ys (runF m iv xs mv) := by
  unfold runF
  rw [List.foldl_append]
theorem runF_back {m c i : Nat} {iv : List Int} {xs ys : List Stp} (hm : 1 ≤ m) (h : BackOf m xs ys) : ∀ {mv : List Int}, Mem m c mv → (∀ s, s ∈ xs → StpOk m c i s) → runF m iv ys (runF m iv xs mv) = mv := by
  induction h with
  | nil => intro mv _ _; rfl
  | @cons s s' ss ss' h1 _ ih =>
    intro mv hv ok
    have oks := ok s List.mem_cons_self
    show runF m iv (ss' ++ [s']) (runF m iv ss (stepF m iv mv s)) = mv
    rw [runF_snoc, ih (stepF_mem hm hv oks) fun s hs => ok s (List.mem_cons_of_mem _ hs), stepF_back hm hv oks h1]
/-- two that are the same step -/
theorem FacAt.eqv2 {K : PySem.W.Frag} {H : Hp} {a b : Addr} {f : Fac} (h : FacAt H a f) (h' : FacAt H b f) : Eqv K H 2 (.ref a) (.ref b) := by
  cases f with
  | cell i =>
    refine Eqv.tup h h' rfl (Nat.le_of_ble_eq_true rfl) fun j x y e1 e2 => ?_
    rw [e1] at e2
    cases e2
    have hx := List.mem_of_getElem? e1
    have e : x = .str "cell" ∨ x = .int (i : Int) := by simpa using hx
    rcases e with rfl | rfl
    · exact .str
    · exact .int
  | inp i =>
    refine Eqv.tup h h' rfl (Nat.le_of_ble_eq_true rfl) fun j x y e1 e2 => ?_
    rw [e1] at e2
    cases e2
    have hx := List.mem_of_getElem? e1
    have e : x = .str "input" ∨ x = .int (i : Int) := by simpa using hx
    rcases e with rfl | rfl
    · exact .str
    · exact .int
theorem StpAt.eqv2 {K : PySem.W.Frag} {H : Hp} {a b : Addr} {m cells inputs : Nat} {s : Stp} (ok : StpOk m cells inputs s) (h : StpAt H a s) (h' : StpAt H b s) : Eqv K H 4 (.ref a) (.ref b) := by
  cases s with
  | add t c fs =>
    obtain ⟨f, as, h1, h2, h3, h4⟩ := h
    obtain ⟨f', as', h1', h2', h3', h4'⟩ := h'
    have hf : Eqv K H 3 (.ref f) (.ref f') := by
      refine Eqv.tup h2 h2' (by rw [List.length_map, List.length_map]; omega) (by rw [List.length_map, h3']; have := ok.2.2.2.1; omega) fun j x y e1 e2 => ?_
      obtain ⟨p, hp, rfl⟩ := map_getR e1
      obtain ⟨p', hp', rfl⟩ := map_getR e2
      have hl := (List.getElem?_eq_some_iff.mp hp).1
      have g := List.getElem?_eq_getElem (l := fs) (i := j) (by omega)
      exact (h4 j _ p g hp).eqv2 (h4' j _ p' g hp')
    refine Eqv.tup h1 h1' rfl (Nat.le_of_ble_eq_true rfl) fun j x y e1 e2 => ?_
    match j, e1, e2 with
    | 0, e1, e2 => cases e1; cases e2; exact .str
    | 1, e1, e2 => cases e1; cases e2; exact .int
    | 2, e1, e2 => cases e1; cases e2; exact .int
    | 3, e1, e2 => cases e1; cases e2; exact hf
    | j + 4, e1, _ => simp at e1
  | scale t u =>
    refine Eqv.tup h h' rfl (Nat.le_of_ble_eq_true rfl) fun j x y e1 e2 => ?_
    match j, e1, e2 with
    | 0, e1, e2 => cases e1; cases e2; exact .str
    | 1, e1, e2 => cases e1; cases e2; exact .int
    | 2, e1, e2 => cases e1; cases e2; exact .int
    | j + 3, e1, _ => simp at e1
  | swap i k =>
    refine Eqv.tup h h' rfl (Nat.le_of_ble_eq_true rfl) fun j x y e1 e2 => ?_
    match j, e1, e2 with
    | 0, e1, e2 => cases e1; cases e2; exact .str
    | 1, e1, e2 => cases e1; cases e2; exact .int
    | 2, e1, e2 => cases e1; cases e2; exact .int
    | j + 3, e1, _ => simp at e1
  | tab t g tb i k =>
    obtain ⟨c, h1, as, h2, h3, h4⟩ := h
    obtain ⟨c', h1', as', h2', h3', h4'⟩ := h'
    have hlen : tb.length ≤ 1000 := ok.2.2.2.2.2.2.2.2.1
    have hI : IsTab m tb := ok.2.2.2.2.2.2.2.1
    have hc : Eqv K H 3 (.ref c) (.ref c') := by
      refine Eqv.tup h2 h2' (by rw [List.length_map, List.length_map]; omega) (by rw [List.length_map, h3']; omega) fun j x y e1 e2 => ?_
      obtain ⟨p, hp, rfl⟩ := map_getR e1
      obtain ⟨p', hp', rfl⟩ := map_getR e2
      have hl := (List.getElem?_eq_some_iff.mp hp).1
      have hl2 : j < tb.length := by omega
      have gr := List.getElem?_eq_getElem hl2
      obtain ⟨hr, _⟩ := hI.rows j _ gr
      refine Eqv.tup (h4 j _ p gr hp) (h4' j _ p' gr hp') rfl (by rw [List.length_map, hr]; omega) fun j2 x y e1 e2 => ?_
      rw [e1] at e2
      cases e2
      obtain ⟨z, _, rfl⟩ := map_get e1
      exact .int
    refine Eqv.tup h1 h1' rfl (Nat.le_of_ble_eq_true rfl) fun j x y e1 e2 => ?_
    match j, e1, e2 with
    | 0, e1, e2 => cases e1; cases e2; exact .str
    | 1, e1, e2 => cases e1; cases e2; exact .int
    | 2, e1, e2 => cases e1; cases e2; exact .int
    | 3, e1, e2 => cases e1; cases e2; exact hc
    | 4, e1, e2 => cases e1; cases e2; exact .int
    | 5, e1, e2 => cases e1; cases e2; exact .int
    | j + 6, e1, _ => simp at e1
end Br

/-! ### max(xs, default=d) -/
namespace Br
open PySem PySem.Spec PyProof.Rows L2
theorem max_rawD {prog : Program} {w : World} {A : Around} {E : Value → Shared → Prop} {s : Shared} {l : Addr} {its : List Value} {ns : List Int} {d : Value} {Q : Value → Shared → Prop} (hh : A.handled = none) (hl : s.heap.IsList l its.toArray) (hi : IntsAre its ns)
    (h0 : ns = [] → ∀ h' tk, (∀ b o, s.heap.get? b = some o → h'.get? b = some o) → Q d { s with heap := h', toks := tk })
    (h : ∀ h' tk M t', (∀ b o, s.heap.get? b = some o → h'.get? b = some o) → M ∈ ns → (∀ a, a ∈ ns → a ≤ M) → Q (.int M t') { s with heap := h', toks := tk }) : wpAny (model prog w) A (call (.builtin "max") [.ref l] [(Str.ofString "default", d)]) Q E s := by
  obtain ⟨xs, e⟩ := hi.allInts.items
  have hn : numsOf (intItems xs).toList = ns := by rw [← e]; exact hi.numsOf
  rw [nums_intItems] at hn
  subst hn
  rw [e] at hl
  refine call_max_walkD (iter_intList hl fun s₂ e2 st hfp hlI => ?_)
  have keep : ∀ {s' : Shared}, Moved [s.heap.objs.size] (fun a b => b = a) s₂ s' → (∀ b o, s.heap.get? b = some o → s'.heap.get? b = some o) ∧ s' = { s with heap := s'.heap, toks := s'.toks } := by
    intro s' m
    subst e2
    refine ⟨fun b o eb => m.heap b o (fun hb => ?_) (Heap.get?_push_of_some _ eb), ?_⟩
    · have : b = s.heap.objs.size := by simpa using hb
      exact absurd (Heap.lt_size eb) (by rw [this]; exact Nat.lt_irrefl _)
    · have h1 := m.gens
      have h2 := m.drawn
      have h3 := m.os
      cases s'
      cases s
      simp at h1 h2 h3 ⊢
      exact ⟨h1, h2, h3⟩
  refine ⟨_, _, _, _, _, _, _, s.heap, fun i j => decide (numAt xs i > numAt xs j), rfl, (Walks.list (A := A.in1) hh _ l hlI (intItems xs)).toS, st, hfp, ?_, ?_, ?_, ?_⟩
  · intro b o eb hb
    have : b = s.heap.objs.size := by simpa using hb
    exact absurd (Heap.lt_size eb) (by rw [this]; exact Nat.lt_irrefl _)
  · intro b o eb
    subst e2
    exact Heap.get?_push_of_some _ eb
  · intro hz s' m
    obtain ⟨k1, k2⟩ := keep m
    rw [k2]
    refine h0 ?_ _ _ k1
    have : xs.size = 0 := by simpa [intItems] using hz
    have : xs = #[] := Array.eq_empty_of_size_eq_zero this
    rw [this]
    rfl
  · intro hz
    have hsz : 0 < xs.size := by simpa [intItems] using hz
    refine ⟨fun i j vi vj s' Q' E' _ h1 h2 h3 => CmpOf.ints_gt (numAt xs) (fun _ _ => intItems_at) i j vi vj s' Q' E' h1 h2 h3, fun v s' hP m => ?_⟩
    obtain ⟨k1, k2⟩ := keep m
    rw [k2]
    have hP : (intItems xs)[argBest (fun i j => decide (numAt xs i > numAt xs j)) (xs.size - 1)]? = some v := by simpa [intItems] using hP
    obtain ⟨t, rfl⟩ := intItems_at hP
    obtain ⟨h1, h2⟩ := argBest_gt (numAt xs) (xs.size - 1)
    refine h _ _ _ t k1 ?_ fun a ha => ?_
    · rw [numAt_eq]; exact PySem.getD_mem (by rw [List.length_map, Array.length_toList]; omega)
    · obtain ⟨j, hj, rfl⟩ := mem_getD ha
      rw [List.length_map, Array.length_toList] at hj
      rw [← numAt_eq]; exact h2 j (by omega)
/-- max(xs, default=z): z the default -/
def rMaxDf (K : PySem.W.Frag) : List V → List V → Hp → VK → Prop := fun vs zs H Q => ∃ (a : Addr) (ns : List Int) (d : Int), vs = [V.ref a] ∧ zs = [.int d] ∧ SqL K H a (ns.map V.int) ∧ (ns = [] → Q (.int d) H) ∧ ∀ m, m ∈ ns → (∀ y, y ∈ ns → y ≤ m) → Q (.int m) H
theorem cr_maxDf {X : Cx} (hc : X.calm = true) : CallRK X (.builtin "max") [Str.ofString "default"] (rMaxDf X.K) := by
  intro pins s σ H xs zs us ws Q I r1 r2 h
  obtain ⟨a, ns, d, rfl, rfl, hs, q0, q⟩ := h
  obtain ⟨its, rv, hl, _⟩ := I.list hs
  rw [Vals.ref1 r1]
  cases r2 with
  | cons rz rr =>
    cases rr
    exact max_rawD (I.ok.hd hc) hl.isList rv.ints (fun e h' tk hk => ⟨.int d, H, I.kept hk, rz, q0 e⟩) fun h' tk m t' hk h1 h2 => ⟨.int _, H, I.kept hk, ⟨_, rfl⟩, q m h1 h2⟩
theorem x_maxDf {K : PySem.W.Frag} {σ : L2.St} {H : Hp} {Q : VK} {t tk : TA} (h : t σ H fun vs H1 => tk σ H1 fun zs H2 => rMaxDf K vs zs H2 Q) : tCKw (rMaxDf K) t tk σ H Q := h
/-- what is walked within a comprehension, the written part named -/
theorem pi_tupK {X : Cx} {tg : Expr} {K2 : PySem.W.Frag} {l : Expr} {tl : TE} (hK : X.K = K2) (hl : PE X l tl) : PI X tg l (iTup K2 tl) := by
  subst hK
  exact pi_tup hl
theorem pi_listK {X : Cx} {tg : Expr} {K2 : PySem.W.Frag} {l : Expr} {tl : TE} (hK : X.K = K2) (hl : PE X l tl) : PI X tg l (iList K2 tl) := by
  subst hK
  exact pi_list hl
theorem x_maxDfP {K : PySem.W.Frag} {H : Hp} {Q : VK} {a : Addr} {ns : List Int} {d : Int} (hs : SqL K H a (ns.map V.int)) (h : ∀ m, (ns = [] ∧ m = d) ∨ (m ∈ ns ∧ ∀ y, y ∈ ns → y ≤ m) → Q (.int m) H) : rMaxDf K [.ref a] [.int d] H Q :=
  ⟨a, ns, d, rfl, rfl, hs, fun e => h d (.inl ⟨e, rfl⟩), fun m h1 h2 => h m (.inr ⟨h1, h2⟩)⟩
end Br

/-! ### data of any kind in the heap, apart from one list -/
namespace Br
open PySem PySem.Spec PyProof.Rows L2
mutual
inductive DAt (d : Addr) (H : Hp) : V → PyData → Prop
  | non : DAt d H .non .none
  | bl (b : Bool) : DAt d H (.bl b) (.bool b)
  | int (i : Int) : DAt d H (.int i) (.int i)
  | str (x : Str) : DAt d H (.str x) (.str x)
  | lst {a : Addr} {xs : List V} {ds : List PyData} (hd : a ≠ d) (h : H a = some (.lst xs)) (hs : DAts d H xs ds) : DAt d H (.ref a) (.list ds)
  | tup {a : Addr} {xs : List V} {ds : List PyData} (h : H a = some (.tup xs)) (hs : DAts d H xs ds) : DAt d H (.ref a) (.tuple ds)
inductive DAts (d : Addr) (H : Hp) : List V → List PyData → Prop
  | nil : DAts d H [] []
  | cons {v : V} {vs : List V} {e : PyData} {es : List PyData} (h : DAt d H v e) (hs : DAts d H vs es) : DAts d H (v :: vs) (e :: es)
end
section
variable {d : Addr} {H H' : Hp}
theorem DAts.len : ∀ {xs : List V} {ds : List PyData}, DAts d H xs ds → xs.length = ds.length
  | [], _, h => by cases h; rfl
  | _ :: xs, _, h => by
    cases h with
    | cons h hs => exact congrArg (· + 1) hs.len
theorem DAts.get : ∀ {xs : List V} {ds : List PyData}, DAts d H xs ds → ∀ {i : Nat} {x : V}, xs[i]? = some x → ∃ e, ds[i]? = some e ∧ DAt d H x e
  | [], _, _, i, x, e => by simp at e
  | v :: xs, _, h, i, x, e => by
    cases h with
    | cons h hs =>
      cases i with
      | zero => cases e; exact ⟨_, rfl, h⟩
      | succ i => exact hs.get (i := i) (by simpa using e)
theorem DAts.of : ∀ {xs : List V} {ds : List PyData}, xs.length = ds.length → (∀ (i : Nat) x e, xs[i]? = some x → ds[i]? = some e → DAt d H x e) → DAts d H xs ds
  | [], [], _, _ => .nil
  | v :: xs, e :: ds, hl, h => .cons (h 0 v e rfl rfl) (DAts.of (by simpa using hl) fun i x f h1 h2 => h (i + 1) x f (by simpa using h1) (by simpa using h2))
  | [], _ :: _, hl, _ => by simp at hl
  | _ :: _, [], hl, _ => by simp at hl
theorem DAts.snoc : ∀ {xs : List V} {ds : List PyData} {v : V} {e : PyData}, DAts d H xs ds → DAt d H v e → DAts d H (xs ++ [v]) (ds ++ [e])
  | [], _, v, e, h, h1 => by cases h; exact .cons h1 .nil
  | _ :: xs, _, v, e, h, h1 => by
    cases h with
    | cons h hs => exact .cons h (hs.snoc h1)
theorem DAts.app : ∀ {xs ys : List V} {ds es : List PyData}, DAts d H xs ds → DAts d H ys es → DAts d H (xs ++ ys) (ds ++ es)
  | [], _, _, _, h, h1 => by cases h; exact h1
  | _ :: xs, _, _, _, h, h1 => by
    cases h with
    | cons h hs => exact .cons h (hs.app h1)
mutual
theorem DAt.keep (hd : ∃ ys, H d = some (.lst ys)) (k : Keep d H H') : ∀ (e : PyData) {v : V}, DAt d H v e → DAt d H' v e
  | .none, _, h => by cases h; exact .non
  | .bool b, _, h => by cases h; exact .bl b
  | .int i, _, h => by cases h; exact .int i
  | .str x, _, h => by cases h; exact .str x
  | .list ds, _, h => by
    cases h with
    | lst hn h hs => exact .lst hn (k _ _ h hn) (DAts.keep hd k ds hs)
  | .tuple ds, _, h => by
    obtain ⟨ys, hd'⟩ := id hd
    cases h with
    | tup h hs => exact .tup (k _ _ h (ne_of h hd' (by intro z; cases z))) (DAts.keep hd k ds hs)
  | .dict _, _, h => by cases h
theorem DAts.keep (hd : ∃ ys, H d = some (.lst ys)) (k : Keep d H H') : ∀ (es : List PyData) {vs : List V}, DAts d H vs es → DAts d H' vs es
  | [], _, h => by cases h; exact .nil
  | e :: es, _, h => by
    cases h with
    | cons h hs => exact .cons (DAt.keep hd k e h) (DAts.keep hd k es hs)
end
mutual
theorem DAt.same (k : Same H H') : ∀ (e : PyData) {v : V}, DAt d H v e → DAt d H' v e
  | .none, _, h => by cases h; exact .non
  | .bool b, _, h => by cases h; exact .bl b
  | .int i, _, h => by cases h; exact .int i
  | .str x, _, h => by cases h; exact .str x
  | .list ds, _, h => by
    cases h with
    | lst hn h hs => exact .lst hn (k _ _ h) (DAts.same k ds hs)
  | .tuple ds, _, h => by
    cases h with
    | tup h hs => exact .tup (k _ _ h) (DAts.same k ds hs)
  | .dict _, _, h => by cases h
theorem DAts.same (k : Same H H') : ∀ (es : List PyData) {vs : List V}, DAts d H vs es → DAts d H' vs es
  | [], _, h => by cases h; exact .nil
  | e :: es, _, h => by
    cases h with
    | cons h hs => exact .cons (DAt.same k e h) (DAts.same k es hs)
end
theorem DAts.ints : ∀ {ns : List Int}, DAts d H (ns.map V.int) (ns.map PyData.int)
  | [] => .nil
  | i :: ns => .cons (.int i) DAts.ints
theorem DAts.bls : ∀ {bs : List Bool}, DAts d H (bs.map V.bl) (bs.map PyData.bool)
  | [] => .nil
  | b :: bs => .cons (.bl b) DAts.bls
/-- is it an integer from 0 to b - 1 -/
def isBD (b : Int) : PyData → Bool
  | .int i => decide (0 ≤ i) && decide (i < b)
  | _ => false
theorem isBD_iff {b : Int} {e : PyData} : isBD b e = true ↔ ∃ i, e = .int i ∧ 0 ≤ i ∧ i < b := by
  cases e with
  | int i =>
    show (decide (0 ≤ i) && decide (i < b)) = true ↔ _
    rw [Bool.and_eq_true, decide_eq_true_iff, decide_eq_true_iff]
    exact ⟨fun h => ⟨i, rfl, h⟩, fun ⟨j, e, h⟩ => by cases e; exact h⟩
  | _ => exact ⟨fun h => (by cases h), fun h => (by obtain ⟨_, h, _⟩ := h; cases h)⟩
def isBlD : PyData → Bool
  | .bool _ => true
  | _ => false
end
end Br

/-! ### gates as data, and what they do -/
namespace Br
open PySem PySem.Spec PyProof.Rows L2
abbrev Gt := Nat × List Nat
def perfG (bs : List Bool) (g : Gt) : List Bool := if g.2.all (fun c => bs.getD c false) then bs.set g.1 (!bs.getD g.1 false) else bs
def perfF (gs : List Gt) (bs : List Bool) : List Bool := gs.foldl perfG bs
structure GtOk (n : Nat) (g : Gt) : Prop where
  t : g.1 < n
  c : ∀ x, x ∈ g.2 → x < n
  ne : g.1 ∉ g.2
  up : g.2.Pairwise (· < ·)
theorem GtOk.mono {n m : Nat} {g : Gt} (h : GtOk n g) (l : n ≤ m) : GtOk m g := ⟨Nat.lt_of_lt_of_le h.t l, fun x hx => Nat.lt_of_lt_of_le (h.c x hx) l, h.ne, h.up⟩
theorem perfG_len {bs : List Bool} {g : Gt} : (perfG bs g).length = bs.length := by
  unfold perfG
  split
  · rw [List.length_set]
  · rfl
theorem perfF_len : ∀ {gs : List Gt} {bs : List Bool}, (perfF gs bs).length = bs.length
  | [], _ => rfl
  | g :: gs, bs => (perfF_len (gs := gs) (bs := perfG bs g)).trans perfG_len
theorem perfF_snoc {gs : List Gt} {g : Gt} {bs : List Bool} : perfF (gs ++ [g]) bs = perfG (perfF gs bs) g := by
  unfold perfF
  rw [List.foldl_append]
  rfl
theorem getD_setB {bs : List Bool} {i j : Nat} {b : Bool} (h : i ≠ j) : (bs.set i b).getD j false = bs.getD j false := by
  rw [List.getD_eq_getElem?_getD, List.getD_eq_getElem?_getD, List.getElem?_set_ne h]
theorem perfG_twice {n : Nat} {bs : List Bool} {g : Gt} (ok : GtOk n g) (hn : n ≤ bs.length) : perfG (perfG bs g) g = bs := by
  have ht := Nat.lt_of_lt_of_le ok.t hn
  by_cases h : g.2.all (fun c => bs.getD c false) = true
  · have e : perfG bs g = bs.set g.1 (!bs.getD g.1 false) := by unfold perfG; rw [if_pos h]
    rw [e]
    unfold perfG
    rw [if_pos]
    · apply List.ext_getElem?
      intro j
      by_cases hj : g.1 = j
      · subst hj
        have h1 : g.1 < (bs.set g.1 (!bs.getD g.1 false)).length := by rw [List.length_set]; exact ht
        rw [List.getElem?_set_self h1, List.getD_eq_getElem?_getD (l := bs.set _ _), List.getElem?_set_self ht, List.getD_eq_getElem?_getD, List.getElem?_eq_getElem ht]
        simp
      · rw [List.getElem?_set_ne hj, List.getElem?_set_ne hj]
    · rw [List.all_eq_true] at h ⊢
      intro c hc
      rw [getD_setB (fun e => ok.ne (by rw [e]; exact hc))]
      exact h c hc
  · have e : perfG bs g = bs := by unfold perfG; rw [if_neg h]
    rw [e, e]
theorem perfF_rev {n : Nat} : ∀ {gs : List Gt} {bs : List Bool}, (∀ g, g ∈ gs → GtOk n g) → n ≤ bs.length → perfF gs.reverse (perfF gs bs) = bs
  | [], _, _, _ => rfl
  | g :: gs, bs, ok, hn => by
    rw [List.reverse_cons, perfF_snoc]
    show perfG (perfF gs.reverse (perfF gs (perfG bs g))) g = bs
    rw [perfF_rev (fun x hx => ok x (List.mem_cons_of_mem _ hx)) (by rw [perfG_len]; exact hn)]
    exact perfG_twice (ok g List.mem_cons_self) hn
def cInts (cs : List Nat) : List V := cs.map fun (c : Nat) => V.int (c : Int)
def GtAt (H : Hp) (a : Addr) (g : Gt) : Prop := ∃ c : Addr, H a = some (.tup [.int (g.1 : Int), .ref c]) ∧ H c = some (.tup (cInts g.2))
def gtD (g : Gt) : PyData := .tuple [.int (g.1 : Int), .tuple (g.2.map fun (c : Nat) => PyData.int (c : Int))]
theorem GtAt.tups {H H' : Hp} {a : Addr} {g : Gt} (h : GtAt H a g) (k : ∀ b xs, H b = some (.tup xs) → H' b = some (.tup xs)) : GtAt H' a g := by
  obtain ⟨c, h1, h2⟩ := h
  exact ⟨c, k _ _ h1, k _ _ h2⟩
theorem cInts_at {d : Addr} {H : Hp} : ∀ {cs : List Nat}, DAts d H (cInts cs) (cs.map fun (c : Nat) => PyData.int (c : Int))
  | [] => .nil
  | c :: cs => .cons (.int _) cInts_at
theorem GtAt.dat {d a : Addr} {H : Hp} {g : Gt} (h : GtAt H a g) : DAt d H (.ref a) (gtD g) := by
  obtain ⟨c, h1, h2⟩ := h
  exact .tup h1 (.cons (.int _) (.cons (.tup h2 cInts_at) .nil))
/-- rising bits below 120, behind the last one -/
def risF : Int → List PyData → Bool
  | _, [] => true
  | l, .int i :: es => (decide (0 ≤ i) && decide (i < 120)) && (decide (l < i) && risF i es)
  | _, _ :: _ => false
def risD : PyData → Bool
  | .tuple es => risF (-1) es
  | _ => false
def hasD (e : PyData) (es : List PyData) : Bool := es.any fun x => match x, e with | .int i, .int j => decide (i = j) | _, _ => false
def gateD : PyData → Bool
  | .tuple [t, .tuple es] => isBD 120 t && (risF (-1) es && !hasD t es)
  | _ => false
def gatesD : PyData → Bool
  | .list es => decide (es.length ≤ 60000) && es.all gateD
  | _ => false
theorem risF_ok : ∀ {cs : List Nat} {l : Int}, cs.Pairwise (· < ·) → (∀ c, c ∈ cs → c < 120 ∧ l < (c : Int)) → risF l (cs.map fun (c : Nat) => PyData.int (c : Int)) = true
  | [], _, _, _ => rfl
  | c :: cs, l, hp, h => by
    obtain ⟨h1, h2⟩ := h c List.mem_cons_self
    show ((decide (0 ≤ (c : Int)) && decide ((c : Int) < 120)) && (decide (l < (c : Int)) && _)) = true
    rw [decide_eq_true (by omega), decide_eq_true (by omega), decide_eq_true h2]
    rw [List.pairwise_cons] at hp
    exact risF_ok hp.2 fun x hx => ⟨(h x (List.mem_cons_of_mem _ hx)).1, by have := hp.1 x hx; omega⟩
theorem gateD_ok {g : Gt} (ok : GtOk 120 g) : gateD (gtD g) = true := by
  show (isBD 120 (.int (g.1 : Int)) && (risF (-1) (g.2.map fun (c : Nat) => PyData.int (c : Int)) && !hasD (.int (g.1 : Int)) (g.2.map fun (c : Nat) => PyData.int (c : Int)))) = true
  have h1 : isBD 120 (.int (g.1 : Int)) = true := isBD_iff.mpr ⟨_, rfl, by omega, by have := ok.t; omega⟩
  have h2 := risF_ok (l := -1) ok.up fun c hc => ⟨ok.c c hc, by omega⟩
  have h3 : hasD (.int (g.1 : Int)) (g.2.map fun (c : Nat) => PyData.int (c : Int)) = false := by
    unfold hasD
    rw [List.any_eq_false]
    intro x hx
    obtain ⟨c, hc, rfl⟩ := List.mem_map.mp hx
    have hne : (c : Int) ≠ (g.1 : Int) := fun e => ok.ne (by have : c = g.1 := by omega
                                                             rw [← this]; exact hc)
    show ¬ decide ((c : Int) = (g.1 : Int)) = true
    rw [decide_eq_false hne]
    decide
  rw [h1, h2, h3]
  rfl
/-- the bits that a gate touches -/
def topG (g : Gt) : Nat := g.2.foldr max g.1 + 1
theorem foldr_max {cs : List Nat} {t : Nat} : t ≤ cs.foldr max t ∧ (∀ c, c ∈ cs → c ≤ cs.foldr max t) ∧ (cs.foldr max t = t ∨ cs.foldr max t ∈ cs) := by
  induction cs with
  | nil => exact ⟨Nat.le_refl _, fun c h => by simp at h, .inl rfl⟩
  | cons c cs ih =>
    obtain ⟨h1, h2, h3⟩ := ih
    show t ≤ max c _ ∧ _ ∧ _
    refine ⟨by omega, fun x hx => ?_, ?_⟩
    · rcases List.mem_cons.mp hx with rfl | hx
      · exact Nat.le_max_left _ _
      · exact Nat.le_trans (h2 x hx) (Nat.le_max_right _ _)
    · show max c _ = t ∨ max c _ ∈ _
      rcases Nat.le_total c (cs.foldr max t) with h | h
      · rw [Nat.max_eq_right h]
        rcases h3 with h3 | h3
        · exact .inl h3
        · exact .inr (List.mem_cons_of_mem _ h3)
      · rw [Nat.max_eq_left h]
        exact .inr List.mem_cons_self
theorem topG_le {n : Nat} {g : Gt} (ok : GtOk n g) : topG g ≤ n := by
  unfold topG
  rcases (foldr_max (cs := g.2) (t := g.1)).2.2 with h | h
  · rw [h]; exact ok.t
  · exact ok.c _ h
theorem up_len {n : Nat} : ∀ {cs : List Nat} {l : Nat}, cs.Pairwise (· < ·) → (∀ c, c ∈ cs → l ≤ c ∧ c < n) → cs.length ≤ n - l
  | [], _, _, _ => Nat.zero_le _
  | c :: cs, l, hp, h => by
    rw [List.pairwise_cons] at hp
    obtain ⟨h1, h2⟩ := h c List.mem_cons_self
    have := up_len (l := c + 1) hp.2 fun x hx => ⟨hp.1 x hx, (h x (List.mem_cons_of_mem _ hx)).2⟩
    rw [List.length_cons]
    omega
theorem GtOk.len {n : Nat} {g : Gt} (h : GtOk n g) : g.2.length ≤ n := by
  have := up_len (l := 0) h.up fun c hc => ⟨Nat.zero_le _, h.c c hc⟩
  omega
theorem cInts_get {cs : List Nat} {i : Nat} {x : V} (hx : (cInts cs)[i]? = some x) : ∃ m : Nat, cs[i]? = some m ∧ x = .int (m : Int) := by
  unfold cInts at hx
  rw [List.getElem?_map] at hx
  cases e : cs[i]? with
  | none => rw [e] at hx; cases hx
  | some n => rw [e] at hx; exact ⟨n, rfl, (Option.some.inj hx).symm⟩
end Br

/-! ### bits, many gates; comprehensions with a test -/
namespace Br
open PySem PySem.Spec PyProof.Rows L2
theorem x_max {σ : L2.St} {H : Hp} {Q : VK} {K : PySem.W.Frag} {p : Addr} {ns : List Int} (hp : SqL K H p (ns.map V.int)) (h0 : 0 < ns.length) (q : ∀ m, m ∈ ns → (∀ y, y ∈ ns → y ≤ m) → Q (.int m) H) : rMax K [.ref p] H Q := ⟨p, ns, rfl, hp, h0, q⟩
theorem cInts_eq {cs : List Nat} : cInts cs = (cs.map fun (c : Nat) => (c : Int)).map V.int := by
  unfold cInts
  rw [List.map_map]
  rfl
theorem x_listT {K : PySem.W.Frag} {H : Hp} {Q : VK} {p : Addr} {xs : List V} (hp : SqT K H p xs) (q : ∀ l, H l = none → Q (.ref l) (L2.upd H l (.lst xs))) : rListOf K [.ref p] H Q := ⟨p, xs, rfl, .inr hp, q⟩
def bls (bs : List Bool) : List V := bs.map V.bl
theorem bls_get {bs : List Bool} {i : Nat} (h : i < bs.length) : (bls bs)[i]? = some (.bl (bs.getD i false)) := by
  unfold bls
  rw [List.getElem?_map, List.getElem?_eq_getElem h, List.getD_eq_getElem?_getD, List.getElem?_eq_getElem h]
  rfl
theorem bls_set {bs : List Bool} {i : Nat} {b : Bool} : (bls bs).set i (.bl b) = bls (bs.set i b) := by
  unfold bls
  rw [List.map_set]
theorem bls_len {bs : List Bool} : (bls bs).length = bs.length := by unfold bls; rw [List.length_map]
/-- many gates -/
def GtsAt (H : Hp) (as : List Addr) (gs : List Gt) : Prop := as.length = gs.length ∧ ∀ (i : Nat) x b, gs[i]? = some x → as[i]? = some b → GtAt H b x
theorem GtsAt.tups {H H' : Hp} {as : List Addr} {gs : List Gt} (h : GtsAt H as gs) (k : ∀ b xs, H b = some (.tup xs) → H' b = some (.tup xs)) : GtsAt H' as gs := ⟨h.1, fun i x b e1 e2 => (h.2 i x b e1 e2).tups k⟩
theorem GtsAt.get {H : Hp} {as : List Addr} {gs : List Gt} (h : GtsAt H as gs) {i : Nat} {b : Addr} (e : as[i]? = some b) : ∃ x, gs[i]? = some x ∧ GtAt H b x := by
  have hl := (List.getElem?_eq_some_iff.mp e).1
  have hl2 : i < gs.length := by rw [← h.1]; exact hl
  exact ⟨_, List.getElem?_eq_getElem hl2, h.2 i _ b (List.getElem?_eq_getElem hl2) e⟩
theorem take_snocG {α : Type} {ss : List α} {i : Nat} {s : α} (h : ss[i]? = some s) : ss.take (i + 1) = ss.take i ++ [s] := by rw [List.take_add_one, h]; rfl
/-- a comprehension over a tuple, with a test, that keeps the items that meet it -/
theorem x_lcTT {K : PySem.W.Frag} {σ : L2.St} {H : Hp} {Q : VK} {ta : TE} {tt : TT} {te : TE} {j : Nat} {vs : List Nat} {a : Addr} (xs : List V) (P : Addr → Nat → Hp → Prop) (hn : ∀ R : V → Hp → Prop, R (.ref a) H → ta σ H R) (ha : SqT K H a xs) (h0 : ∀ p, H p = none → P p 0 (L2.upd H p (.lst [])))
    (hl : ∀ p i H', H p = none → i ≤ xs.length → P p i H' → SqT K H' a xs) (hw : ∀ x, wipe ((wipe σ vs).set j (some x)) vs = wipe σ vs)
    (hs : ∀ p (i : Nat) x H', H p = none → xs[i]? = some x → P p i H' → tt ((wipe σ vs).set j (some x)) H' fun b H3 => if b = true then te ((wipe σ vs).set j (some x)) H3 fun y H4 => ∃ acc, H4 p = some (.lst acc) ∧ acc.length < sizeLine ∧ P p (i + 1) (L2.upd H4 p (.lst (acc ++ [y]))) else P p (i + 1) H3)
    (hd : ∀ p H', H p = none → P p xs.length H' → Q (.ref p) H') : tLc (iTup K ta) (gName j) tt te vs σ H Q := by
  refine hn _ ⟨a, rfl, ⟨xs, ha⟩, fun p hp => ?_⟩
  refine lc_tup (xs := xs) (Qd := fun H' => Q (.ref p) H') (P p) (h0 p hp) (fun i H' hi q => hl p i H' hp hi q) (fun i x H' hi q => ?_) fun H' q => hd p H' hp q
  exact ⟨hw _, hs p i x H' hp hi q⟩
theorem x_lcPreT {σ : L2.St} {H : Hp} {Q : VK} {ta : TE} {j : Nat} {tt : TT} {te : TE} {vs : List Nat} (h : ta σ H fun v H1 => tLc (iRng1 (tCons (tC v) tNil)) (gName j) tt te vs σ H1 Q) : tLc (iRng1 (tCons ta tNil)) (gName j) tt te vs σ H Q := h
/-- a comprehension over a range, with a test -/
theorem x_lcRT {σ : L2.St} {H : Hp} {Q : VK} {ta : TE} {tt : TT} {j : Nat} {te : TE} {vs : List Nat} (n : Int) (P : Addr → Nat → Hp → Prop) (hn : ∀ R : V → Hp → Prop, R (.int n) H → ta σ H R) (h1 : -(2 ^ 62) ≤ n) (h2 : n < 2 ^ 62) (h0 : ∀ p, H p = none → P p 0 (L2.upd H p (.lst [])))
    (hw : ∀ x, wipe ((wipe σ vs).set j (some x)) vs = wipe σ vs)
    (hs : ∀ p (i : Nat) H', H p = none → (i : Int) < n → P p i H' → tt ((wipe σ vs).set j (some (.int (i : Int)))) H' fun b H3 => if b = true then te ((wipe σ vs).set j (some (.int (i : Int)))) H3 fun y H4 => ∃ acc, H4 p = some (.lst acc) ∧ acc.length < sizeLine ∧ P p (i + 1) (L2.upd H4 p (.lst (acc ++ [y]))) else P p (i + 1) H3)
    (hd : ∀ p H', H p = none → P p n.toNat H' → Q (.ref p) H') : tLc (iRng1 (tCons ta tNil)) (gName j) tt te vs σ H Q := by
  refine hn _ ⟨n, rfl, h1, h2, fun p hp => ?_⟩
  refine lc_range (lo := 0) (Qd := fun H' => Q (.ref p) H') (P p) (h0 p hp) (fun i H' hi q => ?_) fun H' q => hd p H' hp q
  have e : (0 : Int) + (i : Int) = (i : Int) := Int.zero_add _
  rw [e]
  exact ⟨hw _, hs p i H' hp (by omega) q⟩
theorem up_snoc {cs : List Nat} {i : Nat} (h : cs.Pairwise (· < ·)) (hc : ∀ c, c ∈ cs → c < i) : (cs ++ [i]).Pairwise (· < ·) := by
  rw [List.pairwise_append]
  exact ⟨h, List.pairwise_singleton _ _, fun a ha b hb => by rw [List.mem_singleton.mp hb]; exact hc a ha⟩
theorem cInts_snoc {cs : List Nat} {i : Nat} : cInts cs ++ [.int (i : Int)] = cInts (cs ++ [i]) := by unfold cInts; rw [List.map_append]; rfl
theorem cInts_len {cs : List Nat} : (cInts cs).length = cs.length := by unfold cInts; rw [List.length_map]
theorem bls_snoc {bs : List Bool} {b : Bool} : bls bs ++ [.bl b] = bls (bs ++ [b]) := by unfold bls; rw [List.map_append]; rfl
/-- a comprehension of values, item by item -/
theorem x_lcV {wi : TI} {te : TE} {vs : List Nat} {j : Nat} {Q : VK} {σ : L2.St} {H : Hp} {J : It} {G : Hp → Prop} {xs : List V} (f : Nat → V) (hw : ∀ R : It → Hp → Prop, R J H → wi σ H R) (w : Walk J xs.length G (YAt xs)) (hn : xs.length ≤ 100000)
    (hG : ∀ H', Same H H' → G H') (hv : ∀ x, wipe ((wipe σ vs).set j (some x)) vs = wipe σ vs)
    (he : ∀ (i : Nat) x H', Same H H' → xs[i]? = some x → ∀ R : VK, (∀ H2, Same H' H2 → R (f i) H2) → te ((wipe σ vs).set j (some x)) H' R)
    (hd : ∀ p H', H p = none → Same H H' → H' p = some (.lst ((List.range xs.length).map f)) → Q (.ref p) H') : tLc wi (gName j) tYes te vs σ H Q := by
  refine x_lcI hw w (fun p i H' => Same H H' ∧ H' p = some (.lst ((List.range i).map f))) (fun p hp => ⟨same_upd hp, upd_same⟩) (fun p i H' _ _ z => hG H' z.1) ?_ (fun x σ' H' R R' hr h => hr _ _ h) fun p H' hp z => hd p H' hp z.1 z.2
  rintro p i x H' H2 hi hp ⟨hs, hl⟩ ⟨rfl, hx⟩
  refine x_gName ⟨hv x, he i x _ hs hx _ fun H3 hs3 => ?_⟩
  refine ⟨_, hs3 _ _ hl, lt_line (by simp; omega), sput (hs.trans hs3) hp, ?_⟩
  rw [upd_same, List.range_succ, List.map_append]
  rfl
theorem range_map {α β : Type} {ds : List α} {f : α → β} {d : α} : ((List.range ds.length).map fun i => f (ds.getD i d)) = ds.map f := by
  apply List.ext_getElem?
  intro i
  rw [List.getElem?_map, List.getElem?_map]
  by_cases h : i < ds.length
  · rw [List.getElem?_range h, List.getElem?_eq_getElem h]
    show some (f (ds.getD i d)) = some (f ds[i])
    rw [List.getD_eq_getElem?_getD, List.getElem?_eq_getElem h]; rfl
  · rw [List.getElem?_eq_none (by simpa using h), List.getElem?_eq_none (by simpa using h)]
    rfl
theorem getDT {α : Type} {ds : List α} {i : Nat} {e d : α} (h : ds[i]? = some e) : ds.getD i d = e := by rw [List.getD_eq_getElem?_getD, h]; rfl
theorem GtsAt.snoc {H : Hp} {as : List Addr} {gs : List Gt} {b : Addr} {x : Gt} (h : GtsAt H as gs) (hx : GtAt H b x) : GtsAt H (as ++ [b]) (gs ++ [x]) := by
  refine ⟨by rw [List.length_append, List.length_append, h.1]; rfl, fun i y c e1 e2 => ?_⟩
  rcases snoc_at rfl e1 with ⟨h1, e1⟩ | ⟨h1, rfl⟩
  · rcases snoc_at rfl e2 with ⟨h2, e2⟩ | ⟨h2, rfl⟩
    · exact h.2 i y c e1 e2
    · have := h.1; omega
  · rcases snoc_at rfl e2 with ⟨h2, e2⟩ | ⟨h2, rfl⟩
    · have := h.1; omega
    · exact hx
theorem x_lcPreLT {K : PySem.W.Frag} {σ : L2.St} {H : Hp} {Q : VK} {te : TE} {ta : TE} {tt : TT} {j : Nat} {vs : List Nat} (h : ta σ H fun v H1 => tLc (iList K (tC v)) (gName j) tt te vs σ H1 Q) : tLc (iList K ta) (gName j) tt te vs σ H Q := h
/-- a comprehension over a list, with a test -/
theorem x_lcLT {K : PySem.W.Frag} {σ : L2.St} {H : Hp} {Q : VK} {ta : TE} {tt : TT} {te : TE} {j : Nat} {vs : List Nat} {a : Addr} (xs : List V) (P : Addr → Nat → Hp → Prop) (hn : ∀ R : V → Hp → Prop, R (.ref a) H → ta σ H R) (ha : SqL K H a xs) (h0 : ∀ p, H p = none → P p 0 (L2.upd H p (.lst [])))
    (hl : ∀ p i H', H p = none → i ≤ xs.length → P p i H' → SqL K H' a xs) (hw : ∀ x, wipe ((wipe σ vs).set j (some x)) vs = wipe σ vs)
    (hs : ∀ p (i : Nat) x H', H p = none → xs[i]? = some x → P p i H' → tt ((wipe σ vs).set j (some x)) H' fun b H3 => if b = true then te ((wipe σ vs).set j (some x)) H3 fun y H4 => ∃ acc, H4 p = some (.lst acc) ∧ acc.length < sizeLine ∧ P p (i + 1) (L2.upd H4 p (.lst (acc ++ [y]))) else P p (i + 1) H3)
    (hd : ∀ p H', H p = none → P p xs.length H' → Q (.ref p) H') : tLc (iList K ta) (gName j) tt te vs σ H Q := by
  refine hn _ ⟨a, rfl, ⟨xs, ha⟩, fun p hp => ?_⟩
  refine lc_list (xs := xs) (Qd := fun H' => Q (.ref p) H') (P p) (h0 p hp) (fun i H' hi q => hl p i H' hp hi q) (fun i x H' hi q => ?_) fun H' q => hd p H' hp q
  exact ⟨hw _, hs p i x H' hp hi q⟩
def bitsD (n : Int) : PyData → Bool
  | .list es => decide (n ≤ (es.length : Int)) && es.all isBlD
  | _ => false
def blsD (bs : List Bool) : PyData := .list (bs.map PyData.bool)
theorem bitsD_iff {n : Int} {e : PyData} : bitsD n e = true ↔ ∃ bs : List Bool, e = blsD bs ∧ n ≤ (bs.length : Int) := by
  constructor
  · intro h
    cases e with
    | list es =>
      have h : (decide (n ≤ (es.length : Int)) && es.all isBlD) = true := h
      rw [Bool.and_eq_true, decide_eq_true_iff] at h
      have : ∀ es : List PyData, es.all isBlD = true → ∃ bs : List Bool, es = bs.map PyData.bool := by
        intro es
        induction es with
        | nil => intro _; exact ⟨[], rfl⟩
        | cons e es ih =>
          intro h
          rw [List.all_cons, Bool.and_eq_true] at h
          obtain ⟨bs, rfl⟩ := ih h.2
          cases e with
          | bool b => exact ⟨b :: bs, rfl⟩
          | _ => cases h.1
      obtain ⟨bs, rfl⟩ := this es h.2
      exact ⟨bs, rfl, by have := h.1; rw [List.length_map] at this; exact this⟩
    | _ => cases h
  · rintro ⟨bs, rfl, h⟩
    show (decide (n ≤ ((bs.map PyData.bool).length : Int)) && (bs.map PyData.bool).all isBlD) = true
    rw [List.length_map, decide_eq_true h, Bool.true_and, List.all_eq_true]
    intro e he
    obtain ⟨b, _, rfl⟩ := List.mem_map.mp he
    rfl
theorem blsD_at {d : Addr} {H : Hp} {v : V} {bs : List Bool} (h : DAt d H v (blsD bs)) : ∃ a, v = .ref a ∧ H a = some (.lst (bls bs)) := by
  unfold blsD at h
  cases h with
  | lst hd h hs =>
    rename_i a xs
    refine ⟨a, rfl, ?_⟩
    have : ∀ {bs : List Bool} {xs : List V}, DAts d H xs (bs.map PyData.bool) → xs = bls bs := by
      intro bs
      induction bs with
      | nil => intro xs h; cases h; rfl
      | cons b bs ih =>
        intro xs h
        cases h with
        | cons h hs =>
          cases h
          rw [ih hs]
          rfl
    rw [h, this hs]
end Br

/-! ### words as data, and what they do -/
namespace Br
open PySem PySem.Spec PyProof.Rows L2
theorem cutV_to {xs : List V} {k : Nat} (h : k ≤ xs.length) : cutV xs none (some (k : Int)) = xs.take k := by
  unfold cutV
  rw [HT.sIx_none, HT.sIx_nat, Nat.min_eq_left h, List.drop_zero, Nat.sub_zero]
theorem cutV_from {xs : List V} {k : Nat} (h : k ≤ xs.length) : cutV xs (some (k : Int)) none = xs.drop k := by
  unfold cutV
  rw [HT.sIx_none, HT.sIx_nat, Nat.min_eq_left h]
  exact List.take_of_length_le (by rw [List.length_drop]; exact Nat.le_refl _)
/-! slices -/
section
variable {σ : L2.St} {H : Hp} {Q : VK} {R : Option Int → Hp → Prop}
theorem x_gTup3 {K : PySem.W.Frag} {σ : L2.St} {H : Hp} {p : Addr} {x y z : V} {i j k : Nat} {R : L2.St → Hp → Prop} (hp : SqT K H p [x, y, z]) (h : R (((σ.set i (some x)).set j (some y)).set k (some z)) H) : gTup K 3 (gCons (gName i) (gCons (gName j) (gCons (gName k) gNil))) (.ref p) σ H R :=
  ⟨p, [x, y, z], rfl, hp, rfl, x, [y, z], rfl, y, [z], rfl, z, [], rfl, rfl, h⟩
end
structure PmOk (p : List Nat) : Prop where
  len : p.length = 5
  lt : ∀ x, x ∈ p → x < 5
  nd : p.Nodup
abbrev Tr := Nat × List Nat × List Nat
def TrOk (t : Tr) : Prop := t.1 < 60 ∧ PmOk t.2.1 ∧ PmOk t.2.2
def pmD (p : List Nat) : PyData := .tuple (p.map fun (c : Nat) => PyData.int (c : Int))
def trD (t : Tr) : PyData := .tuple [.int (t.1 : Int), pmD t.2.1, pmD t.2.2]
def TrAt (H : Hp) (a : Addr) (t : Tr) : Prop := ∃ z o : Addr, H a = some (.tup [.int (t.1 : Int), .ref z, .ref o]) ∧ H z = some (.tup (cInts t.2.1)) ∧ H o = some (.tup (cInts t.2.2))
theorem TrAt.tups {H H' : Hp} {a : Addr} {t : Tr} (h : TrAt H a t) (k : ∀ b xs, H b = some (.tup xs) → H' b = some (.tup xs)) : TrAt H' a t := by
  obtain ⟨z, o, h1, h2, h3⟩ := h
  exact ⟨z, o, k _ _ h1, k _ _ h2, k _ _ h3⟩
theorem TrAt.dat {d a : Addr} {H : Hp} {t : Tr} (h : TrAt H a t) : DAt d H (.ref a) (trD t) := by
  obtain ⟨z, o, h1, h2, h3⟩ := h
  exact .tup h1 (.cons (.int _) (.cons (.tup h2 cInts_at) (.cons (.tup h3 cInts_at) .nil)))
/-- back from data -/
theorem cInts_of {d : Addr} {H : Hp} : ∀ {xs : List V} {cs : List Nat}, DAts d H xs (cs.map fun (c : Nat) => PyData.int (c : Int)) → xs = cInts cs
  | [], [], _ => rfl
  | v :: xs, c :: cs, h => by
    cases h with
    | cons h hs =>
      cases h
      rw [cInts_of hs]
      rfl
  | [], _ :: _, h => by cases h
  | _ :: _, [], h => by cases h
theorem pmD_at {d : Addr} {H : Hp} {v : V} {p : List Nat} (h : DAt d H v (pmD p)) : ∃ z, v = .ref z ∧ H z = some (.tup (cInts p)) := by
  unfold pmD at h
  cases h with
  | tup h hs =>
    rename_i a xs
    refine ⟨a, rfl, ?_⟩
    rw [h, cInts_of hs]
theorem trD_at {d : Addr} {H : Hp} {v : V} {t : Tr} (h : DAt d H v (trD t)) : ∃ a, v = .ref a ∧ TrAt H a t := by
  unfold trD at h
  cases h with
  | tup h hs =>
    rename_i a xs
    cases hs with
    | cons h1 hs =>
      cases h1
      cases hs with
      | cons h2 hs =>
        cases hs with
        | cons h3 hs =>
          cases hs
          obtain ⟨z, rfl, e2⟩ := pmD_at h2
          obtain ⟨o, rfl, e3⟩ := pmD_at h3
          exact ⟨a, rfl, z, o, h, e2, e3⟩
/-- the checks -/
def intD : PyData → Int
  | .int i => i
  | _ => 0
def permD : PyData → Bool
  | .tuple es => decide (es.length = 5) && (es.all (isBD 5) && decide (es.map intD).Nodup)
  | _ => false
def tripD : PyData → Bool
  | .tuple [k, z, o] => isBD 60 k && (permD z && permD o)
  | _ => false
def wordD : PyData → Bool
  | .list es => decide (es.length ≤ 20000) && es.all tripD
  | _ => false
theorem ints_nat : ∀ {es : List PyData} {b : Nat}, es.all (isBD (b : Int)) = true → ∃ cs : List Nat, es = cs.map (fun (c : Nat) => PyData.int (c : Int)) ∧ ∀ c, c ∈ cs → c < b
  | [], _, _ => ⟨[], rfl, fun c h => by simp at h⟩
  | e :: es, b, h => by
    rw [List.all_cons, Bool.and_eq_true] at h
    obtain ⟨i, rfl, i0, i1⟩ := isBD_iff.mp h.1
    obtain ⟨cs, rfl, hc⟩ := ints_nat h.2
    refine ⟨i.toNat :: cs, ?_, fun c hc' => ?_⟩
    · rw [List.map_cons]
      congr 2
      omega
    · rcases List.mem_cons.mp hc' with rfl | hc'
      · omega
      · exact hc c hc'
theorem map_intD {cs : List Nat} : (cs.map fun (c : Nat) => PyData.int (c : Int)).map intD = cs.map fun (c : Nat) => (c : Int) := by rw [List.map_map]; rfl
theorem nodup_cast {cs : List Nat} : (cs.map fun (c : Nat) => (c : Int)).Nodup ↔ cs.Nodup := by
  unfold List.Nodup
  rw [List.pairwise_map]
  exact ⟨fun h => h.imp fun hh e => hh (by rw [e]), fun h => h.imp fun hh e => hh (Int.ofNat.inj e)⟩
theorem permD_iff {e : PyData} : permD e = true ↔ ∃ p, e = pmD p ∧ PmOk p := by
  constructor
  · intro h
    cases e with
    | tuple es =>
      have h : (decide (es.length = 5) && (es.all (isBD 5) && decide (es.map intD).Nodup)) = true := h
      rw [Bool.and_eq_true, Bool.and_eq_true (es.all _), decide_eq_true_iff, decide_eq_true_iff] at h
      obtain ⟨h1, h2, h3⟩ := h
      obtain ⟨cs, rfl, hc⟩ := ints_nat (b := 5) h2
      rw [map_intD, nodup_cast] at h3
      exact ⟨cs, rfl, by rw [List.length_map] at h1; exact h1, hc, h3⟩
    | _ => cases h
  · rintro ⟨p, rfl, h⟩
    show (decide ((p.map _).length = 5) && ((p.map _).all (isBD 5) && decide ((p.map _).map intD).Nodup)) = true
    rw [map_intD, List.length_map, decide_eq_true h.len, decide_eq_true (nodup_cast.mpr h.nd), Bool.and_true, Bool.true_and, List.all_eq_true]
    intro x hx
    obtain ⟨c, hc, rfl⟩ := List.mem_map.mp hx
    exact isBD_iff.mpr ⟨_, rfl, by omega, by have := h.lt c hc; omega⟩
theorem tripD_iff {e : PyData} : tripD e = true ↔ ∃ t, e = trD t ∧ TrOk t := by
  constructor
  · intro h
    match e, h with
    | .tuple [k, z, o], h =>
      have h : (isBD 60 k && (permD z && permD o)) = true := h
      rw [Bool.and_eq_true, Bool.and_eq_true (permD z)] at h
      obtain ⟨i, rfl, i0, i1⟩ := isBD_iff.mp h.1
      obtain ⟨p, rfl, hp⟩ := permD_iff.mp h.2.1
      obtain ⟨p2, rfl, hp2⟩ := permD_iff.mp h.2.2
      refine ⟨(i.toNat, p, p2), ?_, by show i.toNat < 60; omega, hp, hp2⟩
      show PyData.tuple _ = .tuple [.int ((i.toNat : Nat) : Int), _, _]
      rw [show ((i.toNat : Nat) : Int) = i by omega]
  · rintro ⟨t, rfl, h1, h2, h3⟩
    show (isBD 60 (.int (t.1 : Int)) && (permD (pmD t.2.1) && permD (pmD t.2.2))) = true
    rw [isBD_iff.mpr ⟨_, rfl, by omega, by omega⟩, permD_iff.mpr ⟨_, rfl, h2⟩, permD_iff.mpr ⟨_, rfl, h3⟩]
    rfl
theorem trips_of : ∀ {es : List PyData}, es.all tripD = true → ∃ ws : List Tr, es = ws.map trD ∧ ∀ t, t ∈ ws → TrOk t
  | [], _ => ⟨[], rfl, fun t h => by simp at h⟩
  | e :: es, h => by
    rw [List.all_cons, Bool.and_eq_true] at h
    obtain ⟨t, rfl, ht⟩ := tripD_iff.mp h.1
    obtain ⟨ws, rfl, hw⟩ := trips_of h.2
    refine ⟨t :: ws, rfl, fun x hx => ?_⟩
    rcases List.mem_cons.mp hx with rfl | hx
    · exact ht
    · exact hw x hx
theorem wordD_iff {e : PyData} : wordD e = true ↔ ∃ ws : List Tr, e = .list (ws.map trD) ∧ ws.length ≤ 20000 ∧ ∀ t, t ∈ ws → TrOk t := by
  constructor
  · intro h
    cases e with
    | list es =>
      have h : (decide (es.length ≤ 20000) && es.all tripD) = true := h
      rw [Bool.and_eq_true, decide_eq_true_iff] at h
      obtain ⟨ws, rfl, hw⟩ := trips_of h.2
      exact ⟨ws, rfl, by have := h.1; rw [List.length_map] at this; exact this, hw⟩
    | _ => cases h
  · rintro ⟨ws, rfl, hl, hw⟩
    show (decide ((ws.map trD).length ≤ 20000) && (ws.map trD).all tripD) = true
    rw [List.length_map, decide_eq_true hl, Bool.true_and, List.all_eq_true]
    intro x hx
    obtain ⟨t, ht, rfl⟩ := List.mem_map.mp hx
    exact tripD_iff.mpr ⟨t, rfl, hw t ht⟩
/-- what a word does -/
def stepW (bs : List Bool) (p : Nat) (t : Tr) : Nat := (if bs.getD t.1 false then t.2.2 else t.2.1).getD p 0
def effF (ws : List Tr) (bs : List Bool) (p : Nat) : Nat := ws.foldl (stepW bs) p
theorem effF_snoc {ws : List Tr} {t : Tr} {bs : List Bool} {p : Nat} : effF (ws ++ [t]) bs p = stepW bs (effF ws bs p) t := by
  unfold effF
  rw [List.foldl_append]
  rfl
theorem pm_get {p : List Nat} (h : PmOk p) {i : Nat} (hi : i < 5) : p[i]? = some (p.getD i 0) ∧ p.getD i 0 < 5 := by
  have hl : i < p.length := by rw [h.len]; exact hi
  have e : p.getD i 0 = p[i] := by rw [List.getD_eq_getElem?_getD, List.getElem?_eq_getElem hl]; rfl
  rw [e]
  exact ⟨List.getElem?_eq_getElem hl, h.lt _ (List.getElem_mem hl)⟩
theorem effF_lt {bs : List Bool} : ∀ {ws : List Tr} {p : Nat}, (∀ t, t ∈ ws → TrOk t) → p < 5 → effF ws bs p < 5
  | [], _, _, hp => hp
  | t :: ws, p, h, hp => by
    have ht := h t List.mem_cons_self
    refine effF_lt (p := stepW bs p t) (fun x hx => h x (List.mem_cons_of_mem _ hx)) ?_
    unfold stepW
    split
    · exact (pm_get ht.2.2 hp).2
    · exact (pm_get ht.2.1 hp).2
/-- the bits that a word needs -/
def needW (ws : List Tr) : Nat := (ws.map fun t => t.1 + 1).foldr max 0
theorem needW_le {ws : List Tr} {t : Tr} (h : t ∈ ws) : t.1 + 1 ≤ needW ws := (foldr_max (cs := ws.map fun t => t.1 + 1) (t := 0)).2.1 _ (List.mem_map.mpr ⟨t, h, rfl⟩)
theorem needW_max {ws : List Tr} {m : Int} (h : (ws = [] ∧ m = 0) ∨ (m ∈ ws.map (fun t => ((t.1 : Int) + 1)) ∧ ∀ y, y ∈ ws.map (fun t => ((t.1 : Int) + 1)) → y ≤ m)) : m = (needW ws : Nat) := by
  rcases h with ⟨rfl, rfl⟩ | ⟨h1, h2⟩
  · rfl
  · obtain ⟨t, ht, rfl⟩ := List.mem_map.mp h1
    have k1 := needW_le ht
    have k2 : (needW ws : Int) ≤ (t.1 : Int) + 1 := by
      rcases (foldr_max (cs := ws.map fun t => t.1 + 1) (t := 0)).2.2 with e | e
      · have : needW ws = 0 := e
        omega
      · obtain ⟨u, hu, e⟩ := List.mem_map.mp e
        have := h2 _ (List.mem_map.mpr ⟨u, hu, rfl⟩)
        have e : u.1 + 1 = needW ws := e
        omega
    omega
theorem needW_60 {ws : List Tr} (h : ∀ t, t ∈ ws → TrOk t) : needW ws ≤ 60 := by
  rcases (foldr_max (cs := ws.map fun t => t.1 + 1) (t := 0)).2.2 with e | e
  · have : needW ws = 0 := e
    omega
  · obtain ⟨u, hu, e⟩ := List.mem_map.mp e
    have := (h u hu).1
    have e : u.1 + 1 = needW ws := e
    omega
end Br

/-! ### exceptions of the program: what a suite asks of the one it holds -/
namespace Br
open PySem PySem.Spec PyProof.Rows L2
theorem kit_ref {K : PySem.W.Frag} {D Y : Addr} {b : Bool} (hd : PySem.W.hasDictIn K Y = true) (ht : PySem.W.typeIn K (.ref Y) = some (.type "type")) (h : PySem.W.subIn K (.ref D) (.ref Y) = some b) (hs : PySem.W.subIn K (.ref Y) (.ref Y) = some true) : PySem.W.kitOne K (.ref D) (.ref Y) = some b := by
  unfold PySem.W.kitOne
  by_cases e : D = Y
  · subst e
    rw [h] at hs
    cases hs
    rw [if_pos (by simp)]
  · have hne : ((Value.ref D : Value) == Value.ref Y) = false := by
      rw [beq_eq_false_iff_ne]
      intro z
      cases z
      exact e rfl
    rw [hne, if_neg Bool.false_ne_true]
    obtain ⟨cd, hc, _⟩ := PySem.W.any_some hd
    have e2 : ((PySem.W.clsIn K Y).isSome && PySem.W.typeIn K (.ref Y) == some (.type "type")) = true := by rw [hc, ht]; rfl
    show (if ((PySem.W.clsIn K Y).isSome && PySem.W.typeIn K (.ref Y) == some (.type "type")) = true then PySem.W.subIn K (.ref D) (.ref Y) else none) = some b
    rw [if_pos e2]
    exact h
/-- isinstance(e, c), e what the suite holds, of whatever class -/
def rIsEQ (K : PySem.W.Frag) (a : Addr) (cls : Value) (d : Option Addr) : List V → Hp → VK → Prop := fun xs H Q => ∃ (D : Addr) (C : Addr) (b : Bool), cls = .ref D ∧ d = none ∧ ExcC K D ∧ xs = [.ref a, .ref C] ∧ PySem.W.kitOne K (.ref D) (.ref C) = some b ∧ Q (.bl b) H
theorem call_isEQ {X : Cx} {a : Addr} {oe : Obj} {cls : Value} {d : Option Addr} {pn : List (Addr × Obj)} {K : PySem.W.Frag} (hK : X.K = K) (hz : Zc cls d oe) (hf : ∃ vs, oe.data = .fields vs) : CallR (X.suite a ((a, oe) :: pn)) (.builtin "isinstance") (rIsEQ K a cls d) := by
  subst hK
  intro pins s σ H xs us Q I r h
  obtain ⟨D, C, b, rfl, rfl, hC, rfl, hk, q⟩ := h
  exact call_isE hC hz hf pins s σ H _ us Q I r ⟨.ref C, .ref C, b, rfl, fun u hu => hu, hk, q⟩
section
variable {σ : L2.St} {H : Hp} {D : Ends}
theorem x_callS {sp : Sp} {E : L2.St → XK} {t : TA} {Q : VK} (h : t σ H fun vs H1 => sp vs H1 Q (E σ)) : tCallS sp E t σ H Q := h
end
/-- a method's call within a try: what it raises is wished for at the slots as they stand -/
def tMethX (C : Addr) (m : Str) (sp : Sp) (E : L2.St → XK) (ta : TE) (t : TA) : TE := fun σ H Q => ta σ H fun x H1 => ∃ a dx fs, x = .ref a ∧ H1 a = some (.ins C dx fs) ∧ fs.lookup m = none ∧ t σ H1 fun vs H2 => sp (x :: vs) H2 Q (E σ)
theorem pe_methX {X : Cx} {CX : CXT} {k : Nat} {f C : Addr} {fd : FuncData} {ps : List Str} {sp : Sp} {E : L2.St → XK} {m : Str} {pos apos : Pos} {e o : Expr} {es : List Expr} {ta : TE} {t : TA} {pl : Sem Bool} (he : PE X o ta) (c : Cls X.K C) (hm : Meth X.K C m f)
    (F : FnOk X.prog X.w X.K X.mg X.base CX k f fd ps sp) (hr : Room k X.A) (hb : Binds X.K fd ps []) (hx : ∀ σ, PassesAt CX X σ (E σ)) (ha : PA X (e :: es) t)
    (hst : starEach (e :: es) X.env = (false, eval e X.env) :: starEach es X.env := by rfl) (hpl : (backTo pos (starEach es X.env)).any (·.1) = false := by rfl)
    (ht : eval (.Call (.Attribute o m apos) (e :: es) [] pos) X.env = (do
      let ov ← eval o X.env
      standAt apos.atName
      let (f, first) ← holding [ov] (getMethod ov m pl)
      callWith pos f first (backTo pos (starEach (e :: es) X.env)) (backToKw pos (keywordEach [] X.env))) := by rfl) :
    PE X (.Call (.Attribute o m apos) (e :: es) [] pos) (tMethX C m sp E ta t) := by
  refine ⟨fun pins s σ H Q I h => ?_⟩
  refine PySem.W.methodCall_KW (pl := pl) (thn (he.run pins s σ H _ I h) fun u s1 ⟨x, H1, I1, rx, a, dx, fs, ex, ea, l, q⟩ => ?_) ht
  subst ex
  obtain rfl : u = Value.ref a := rx
  refine getmeth_ok I1 ea c hm l ?_
  refine PySem.W.callWith_K (first := [.ref a]) (h₀ := X.base) I.ok.mod.kin hm.kp (thn (ha.run pos pins s1 σ H1 _ I1 q) fun us s2 ⟨vs, H2, I2, r, q2⟩ => ⟨I2.kIn, ?_⟩) hst hpl
  exact run_fnS (us := .ref a :: us) (vs := .ref a :: vs) F hr hb (hx σ) I2 (.cons rfl r) q2
theorem x_methX {C : Addr} {m : Str} {sp : Sp} {E : L2.St → XK} {ta : TE} {t : TA} {σ : L2.St} {H : Hp} {Q : VK} (h : ta σ H fun x H1 => ∃ a dx fs, x = .ref a ∧ H1 a = some (.ins C dx fs) ∧ fs.lookup m = none ∧ t σ H1 fun vs H2 => sp (x :: vs) H2 Q (E σ)) : tMethX C m sp E ta t σ H Q := h
/-! texts with numbers -/
theorem x_fmt {te : TE} {σ : L2.St} {H : Hp} {Q : VK} (h : te σ H fun x H1 => (∃ y : Str, x = .str y ∧ y.length ≤ sizeLine ∧ Q (.str y) H1) ∨ ∃ i : Int, x = .int i ∧ i.natAbs.log2 < 1920 ∧ Q (.str (toString i)) H1) : tFmt te σ H Q := h
theorem len_nat {n : Nat} (h : n < 10 ^ 10) : (Str.ofString (toString (n : Int))).length ≤ 10 := toString_length_le (Int.natCast_nonneg n) (by decide) (by exact_mod_cast h)
theorem log_nat {n : Nat} (h : n < 2 ^ 64) : ((n : Int)).natAbs.log2 < 1920 := by
  rw [Int.natAbs_natCast]
  by_cases h0 : n = 0
  · subst h0; decide
  · have := (Nat.log2_lt h0).mpr h
    omega
end Br
/-! isinstance(e, (C1, C2, ..)), e what the suite holds -/
namespace Br
open PySem PySem.Spec PyProof.Rows L2
def rIsEQT (K : PySem.W.Frag) (a : Addr) (cls : Value) (d : Option Addr) : List V → Hp → VK → Prop := fun xs H Q => ∃ (D tp : Addr) (cs : List V) (us : List Value) (b : Bool), cls = .ref D ∧ d = none ∧ ExcC K D ∧ xs = [.ref a, .ref tp] ∧ H tp = some (.tup cs) ∧ Paired ClsV cs us ∧ PySem.W.kitAny K (.ref D) us = some b ∧ Q (.bl b) H
theorem call_isEQT {X : Cx} {a : Addr} {oe : Obj} {cls : Value} {d : Option Addr} {pn : List (Addr × Obj)} {K : PySem.W.Frag} (hK : X.K = K) (hz : Zc cls d oe) (hf : ∃ vs, oe.data = .fields vs) : CallR (X.suite a ((a, oe) :: pn)) (.builtin "isinstance") (rIsEQT K a cls d) := by
  subst hK
  intro pins s σ H xs us Q I r h
  obtain ⟨D, tp, cs, ws, b, rfl, rfl, C, rfl, hT, k, e, q⟩ := h
  obtain ⟨u1, u2, rfl, rx, rt⟩ := vals2 r
  cases (show u2 = Value.ref tp from rt)
  cases (show u1 = Value.ref a from rx)
  obtain ⟨hget, _⟩ := I.pin (a, oe) (List.mem_append.mpr (.inl List.mem_cons_self))
  obtain ⟨vs, hv⟩ := hf
  have J : PySem.W.InstAt s.heap a oe D none := by
    obtain ⟨oc, od, oda, osl⟩ := oe
    obtain ⟨h1, h2⟩ := hz
    dsimp only at h1 h2 hv
    subst h1 h2 hv
    exact ⟨hget, rfl, rfl, trivial⟩
  obtain ⟨_, its, rv, o, h1, h2, n, h3⟩ := (show ObjOk _ _ H s.heap tp (.tup cs) from I.hok tp _ hT)
  have e3 := ClsV.all k rv
  subst e3
  obtain ⟨oc, od, dt, sl⟩ := o
  simp only at h2 h3
  subst h2 h3
  exact PySem.W.kia_tup (PySem.W.handS_kitx_exc C.hg C.hk C.hs C.hd C.ha C.hn C.ht C.hm) I.kIn J h1 e (fun z => nomatch z) fun tk => ⟨.bl b, H, I.kept (t' := tk) fun _ _ z => z, rfl, q⟩
end Br
namespace Br
open PySem PySem.Spec PyProof.Rows L2
/-! isinstance(e, ValueError), e what the suite holds -/
def rIsEV (K : PySem.W.Frag) (a : Addr) (cls : Value) (d : Option Addr) : List V → Hp → VK → Prop := fun xs H Q => ∃ (D : Addr) (T : String) (b : Bool), cls = .ref D ∧ d = none ∧ ExcC K D ∧ xs = [.ref a, .ty T] ∧ PySem.W.kitOne K (.ref D) (.type T) = some b ∧ Q (.bl b) H
theorem call_isEV {X : Cx} {a : Addr} {oe : Obj} {cls : Value} {d : Option Addr} {pn : List (Addr × Obj)} {K : PySem.W.Frag} (hK : X.K = K) (hz : Zc cls d oe) (hf : ∃ vs, oe.data = .fields vs) : CallR (X.suite a ((a, oe) :: pn)) (.builtin "isinstance") (rIsEV K a cls d) := by
  subst hK
  intro pins s σ H xs us Q I r h
  obtain ⟨D, T, b, rfl, rfl, hC, rfl, hk, q⟩ := h
  exact call_isE hC hz hf pins s σ H _ us Q I r ⟨.ty T, .type T, b, rfl, fun u hu => hu, hk, q⟩
theorem kit_val {K : PySem.W.Frag} {D : Addr} (h : PySem.W.subIn K (.ref D) (.type "ValueError") = some true) : PySem.W.kitOne K (.ref D) (.type "ValueError") = some true := by
  unfold PySem.W.kitOne
  rw [if_neg (by rw [show ((Value.ref D : Value) == Value.type "ValueError") = false from rfl]; decide)]
  show (if PySem.W.kitMeta "ValueError" = true then PySem.W.subIn K (.ref D) (.type "ValueError") else none) = some true
  rw [if_pos (by decide +kernel)]
  exact h
end Br

/-! ### data: changes elsewhere, changes of an item -/
namespace Br
open PySem PySem.Spec PyProof.Rows L2
section
variable {d c : Addr} {H H' : Hp}
mutual
theorem DAt.keep2 (hc : ∃ ys, H c = some (.lst ys)) (k : Keep c H H') : ∀ (e : PyData) {v : V}, DAt c H v e → DAt d H v e → DAt d H' v e
  | .none, _, _, h => by cases h; exact .non
  | .bool b, _, _, h => by cases h; exact .bl b
  | .int i, _, _, h => by cases h; exact .int i
  | .str x, _, _, h => by cases h; exact .str x
  | .list ds, _, h1, h => by
    cases h1 with
    | lst hn1 h1 hs1 =>
      cases h with
      | lst hn h hs =>
        rw [h] at h1
        cases h1
        exact .lst hn (k _ _ h hn1) (DAts.keep2 hc k ds hs1 hs)
  | .tuple ds, _, h1, h => by
    obtain ⟨ys, hc'⟩ := id hc
    cases h1 with
    | tup h1 hs1 =>
      cases h with
      | tup h hs =>
        rw [h] at h1
        cases h1
        exact .tup (k _ _ h (ne_of h hc' (by intro z; cases z))) (DAts.keep2 hc k ds hs1 hs)
  | .dict _, _, _, h => by cases h
theorem DAts.keep2 (hc : ∃ ys, H c = some (.lst ys)) (k : Keep c H H') : ∀ (es : List PyData) {vs : List V}, DAts c H vs es → DAts d H vs es → DAts d H' vs es
  | [], _, _, h => by cases h; exact .nil
  | e :: es, _, h1, h => by
    cases h1 with
    | cons h1 hs1 =>
      cases h with
      | cons h hs => exact .cons (DAt.keep2 hc k e h1 h) (DAts.keep2 hc k es hs1 hs)
end
theorem DAts.set : ∀ {xs : List V} {es : List PyData} {i : Nat} {v : V} {e : PyData}, DAts d H xs es → DAt d H v e → DAts d H (xs.set i v) (es.set i e)
  | [], _, _, _, _, h, _ => by cases h; exact .nil
  | x :: xs, _, i, v, e, h, h1 => by
    cases h with
    | cons h hs =>
      cases i with
      | zero => exact .cons h1 hs
      | succ i => exact .cons h (hs.set h1)
theorem DAts.take : ∀ {xs : List V} {es : List PyData} {n : Nat}, DAts d H xs es → DAts d H (xs.take n) (es.take n)
  | [], _, n, h => by cases h; cases n <;> exact .nil
  | x :: xs, _, 0, h => by cases h; exact .nil
  | x :: xs, _, n + 1, h => by
    cases h with
    | cons h hs => exact .cons h hs.take
theorem DAts.drop : ∀ {xs : List V} {es : List PyData} {n : Nat}, DAts d H xs es → DAts d H (xs.drop n) (es.drop n)
  | [], _, n, h => by cases h; cases n <;> exact .nil
  | x :: xs, _, 0, h => h
  | x :: xs, _, n + 1, h => by
    cases h with
    | cons h hs => exact hs.drop
/-- a value that needs no object -/
def FlatD (v : V) (e : PyData) : Prop := ∀ d H, DAt d H v e
/-- data apart from every list that stood before -/
def DNew (H0 H : Hp) (v : V) (e : PyData) : Prop := ∀ p, H0 p ≠ none → DAt p H v e
theorem FlatD.new {H0 H : Hp} {v : V} {e : PyData} (h : FlatD v e) : DNew H0 H v e := fun p _ => h p H
end
theorem x_andP {t u : TT} {σ : L2.St} {H : Hp} {QT : Bool → Hp → Prop} (b1 b2 : Bool) (h1 : ∀ R : Bool → Hp → Prop, R b1 H → t σ H R) (h2 : b1 = true → ∀ R : Bool → Hp → Prop, R b2 H → u σ H R) (h : QT (b1 && b2) H) : tAnd t u σ H QT := by
  refine h1 _ ?_
  cases b1 with
  | true => exact iteT (h2 rfl _ h)
  | false => exact iteF h
theorem x_orI {u : TT} {σ : L2.St} {H : Hp} {QT : Bool → Hp → Prop} {b1 : Bool} (b2 : Bool) (h2 : b1 = false → ∀ R : Bool → Hp → Prop, R b2 H → u σ H R) (h : QT (b1 || b2) H) : if b1 = true then QT true H else u σ H QT := by
  cases b1 with
  | true => exact iteT h
  | false => exact iteF (h2 rfl _ h)
theorem x_andI {u : TT} {σ : L2.St} {H : Hp} {QT : Bool → Hp → Prop} {b1 : Bool} (b2 : Bool) (h2 : b1 = true → ∀ R : Bool → Hp → Prop, R b2 H → u σ H R) (h : QT (b1 && b2) H) : if b1 = true then u σ H QT else QT false H := by
  cases b1 with
  | true => exact iteT (h2 rfl _ h)
  | false => exact iteF h
end Br

/-! ### what is a list of gates, read back -/
namespace Br
open PySem PySem.Spec PyProof.Rows L2
theorem risF_nat : ∀ {es : List PyData} {l : Int}, -1 ≤ l → risF l es = true → ∃ cs : List Nat, es = cs.map (fun (c : Nat) => PyData.int (c : Int)) ∧ cs.Pairwise (· < ·) ∧ ∀ c, c ∈ cs → c < 120 ∧ l < (c : Int)
  | [], _, _, _ => ⟨[], rfl, .nil, fun c h => by simp at h⟩
  | .int i :: es, l, hl, hr => by
    have hr : ((decide (0 ≤ i) && decide (i < 120)) && (decide (l < i) && risF i es)) = true := hr
    rw [Bool.and_eq_true, Bool.and_eq_true (decide (l < i)), Bool.and_eq_true, decide_eq_true_iff, decide_eq_true_iff, decide_eq_true_iff] at hr
    obtain ⟨⟨h0, h1⟩, h2, h3⟩ := hr
    obtain ⟨cs, rfl, hp, hc⟩ := risF_nat (by omega) h3
    obtain ⟨c, rfl⟩ : ∃ c : Nat, i = (c : Int) := ⟨i.toNat, by omega⟩
    refine ⟨c :: cs, rfl, List.pairwise_cons.mpr ⟨fun x hx => by have := (hc x hx).2; omega, hp⟩, fun x hx => ?_⟩
    rcases List.mem_cons.mp hx with rfl | hx
    · omega
    · have := hc x hx
      omega
  | .none :: _, _, _, hr => by cases hr
  | .bool _ :: _, _, _, hr => by cases hr
  | .str _ :: _, _, _, hr => by cases hr
  | .list _ :: _, _, _, hr => by cases hr
  | .tuple _ :: _, _, _, hr => by cases hr
  | .dict _ :: _, _, _, hr => by cases hr
theorem gateD_iff {e : PyData} : gateD e = true ↔ ∃ g, e = gtD g ∧ GtOk 120 g := by
  constructor
  · intro h
    match e, h with
    | .tuple [t, .tuple es], h =>
      have h : (isBD 120 t && (risF (-1) es && !hasD t es)) = true := h
      rw [Bool.and_eq_true, Bool.and_eq_true] at h
      obtain ⟨h1, h2, h3⟩ := h
      obtain ⟨i, rfl, i0, i1⟩ := isBD_iff.mp h1
      obtain ⟨cs, rfl, hp, hc⟩ := risF_nat (by decide) h2
      obtain ⟨t, rfl⟩ : ∃ c : Nat, i = (c : Int) := ⟨i.toNat, by omega⟩
      refine ⟨(t, cs), rfl, ⟨by show t < 120; omega, fun c hc2 => (hc c hc2).1, fun hm => ?_, hp⟩⟩
      have hf : hasD (.int (t : Int)) (cs.map fun (c : Nat) => PyData.int (c : Int)) = false := by simpa using h3
      unfold hasD at hf
      rw [List.any_eq_false] at hf
      exact hf (.int (t : Int)) (List.mem_map.mpr ⟨t, hm, rfl⟩) (by show decide ((t : Int) = (t : Int)) = true; exact decide_eq_true rfl)
  · rintro ⟨g, rfl, ok⟩
    exact gateD_ok ok
theorem gatesD_iff {e : PyData} : gatesD e = true ↔ ∃ gs : List Gt, e = .list (gs.map gtD) ∧ gs.length ≤ 60000 ∧ ∀ g, g ∈ gs → GtOk 120 g := by
  constructor
  · intro h
    cases e with
    | list es =>
      have h : (decide (es.length ≤ 60000) && es.all gateD) = true := h
      rw [Bool.and_eq_true, decide_eq_true_iff] at h
      have : ∀ es : List PyData, es.all gateD = true → ∃ gs : List Gt, es = gs.map gtD ∧ ∀ g, g ∈ gs → GtOk 120 g := by
        intro es
        induction es with
        | nil => intro _; exact ⟨[], rfl, fun g h => by simp at h⟩
        | cons e es ih =>
          intro h
          rw [List.all_cons, Bool.and_eq_true] at h
          obtain ⟨gs, rfl, hg⟩ := ih h.2
          obtain ⟨g, rfl, ok⟩ := gateD_iff.mp h.1
          refine ⟨g :: gs, rfl, fun x hx => ?_⟩
          rcases List.mem_cons.mp hx with rfl | hx
          · exact ok
          · exact hg x hx
      obtain ⟨gs, rfl, hg⟩ := this es h.2
      exact ⟨gs, rfl, by have := h.1; rw [List.length_map] at this; exact this, hg⟩
    | _ => cases h
  · rintro ⟨gs, rfl, hl, ok⟩
    show (decide ((gs.map gtD).length ≤ 60000) && (gs.map gtD).all gateD) = true
    rw [List.length_map, decide_eq_true hl, Bool.true_and, List.all_eq_true]
    intro e he
    obtain ⟨g, hg, rfl⟩ := List.mem_map.mp he
    exact gateD_ok (ok g hg)
/-- the bits that gates need -/
def needG (gs : List Gt) : Nat := (gs.map topG).foldr max 0
theorem needG_max {gs : List Gt} {m : Int} (h : (gs.map fun g => ((topG g : Nat) : Int)) = [] ∧ m = 0 ∨ m ∈ (gs.map fun g => ((topG g : Nat) : Int)) ∧ ∀ y, y ∈ (gs.map fun g => ((topG g : Nat) : Int)) → y ≤ m) : m = ((needG gs : Nat) : Int) := by
  obtain ⟨f1, f2, f3⟩ := foldr_max (cs := gs.map topG) (t := 0)
  rcases h with ⟨h, rfl⟩ | ⟨h, hle⟩
  · rw [List.map_eq_nil_iff.mp h]; rfl
  · obtain ⟨g, hg, rfl⟩ := List.mem_map.mp h
    have k1 := f2 _ (List.mem_map.mpr ⟨g, hg, rfl⟩)
    have k2 : ((needG gs : Nat) : Int) ≤ ((topG g : Nat) : Int) := by
      rcases f3 with f3 | f3
      · unfold needG; rw [f3]; omega
      · obtain ⟨g2, hg2, e2⟩ := List.mem_map.mp f3
        have := hle _ (List.mem_map.mpr ⟨g2, hg2, rfl⟩)
        unfold needG
        rw [← e2]
        exact this
    have k3 : topG g ≤ needG gs := k1
    omega
theorem needG_le {gs : List Gt} {n : Nat} (h : ∀ g, g ∈ gs → GtOk n g) : needG gs ≤ n := by
  rcases (foldr_max (cs := gs.map topG) (t := 0)).2.2 with e | e
  · unfold needG; rw [e]; exact Nat.zero_le _
  · obtain ⟨g, hg, e2⟩ := List.mem_map.mp e
    unfold needG
    rw [← e2]
    exact topG_le (h g hg)
theorem needG_ge {gs : List Gt} {g : Gt} (h : g ∈ gs) : topG g ≤ needG gs := (foldr_max (cs := gs.map topG) (t := 0)).2.1 _ (List.mem_map.mpr ⟨g, h, rfl⟩)
theorem GtOk.top {n m : Nat} {g : Gt} (ok : GtOk n g) (h : topG g ≤ m) : GtOk m g := by
  obtain ⟨f1, f2, _⟩ := foldr_max (cs := g.2) (t := g.1)
  have h : g.2.foldr max g.1 + 1 ≤ m := h
  exact ⟨by omega, fun c hc => by have := f2 c hc; omega, ok.ne, ok.up⟩
theorem gtD_inj : Function.Injective gtD := fun a b hab => by
  obtain ⟨t, cs⟩ := a
  obtain ⟨u, ds⟩ := b
  have h := PyData.tuple.inj hab
  obtain ⟨h1, h2⟩ := List.cons.inj h
  have h2 := PyData.tuple.inj (List.cons.inj h2).1
  have h1 : (t : Int) = (u : Int) := PyData.int.inj h1
  have h2 : cs = ds := (List.map_inj_right (fun _ _ z => Int.ofNat.inj (PyData.int.inj z))).mp h2
  rw [h2, Int.ofNat.inj h1]
theorem gts_inj {a b : List Gt} (h : a.map gtD = b.map gtD) : a = b := (List.map_inj_right gtD_inj).mp h
theorem gtD_at {d : Addr} {H : Hp} {v : V} {g : Gt} (h : DAt d H v (gtD g)) : ∃ a, v = .ref a ∧ GtAt H a g := by
  unfold gtD at h
  cases h with
  | tup h hs =>
    rename_i a xs
    cases hs with
    | cons h1 hs =>
      cases hs with
      | cons h2 hs =>
        cases hs
        cases h1
        cases h2 with
        | tup h2 hs2 =>
          rename_i c ys
          have : ∀ {cs : List Nat} {ys : List V}, DAts d H ys (cs.map fun (c : Nat) => PyData.int (c : Int)) → ys = cInts cs := by
            intro cs
            induction cs with
            | nil => intro ys h; cases h; rfl
            | cons c cs ih =>
              intro ys h
              cases h with
              | cons h hs => cases h; rw [ih hs]; rfl
          exact ⟨a, rfl, c, h, by rw [h2, this hs2]⟩
theorem DAts.gts {d : Addr} {H : Hp} {xs : List V} {gs : List Gt} (h : DAts d H xs (gs.map gtD)) : ∃ as : List Addr, xs = as.map V.ref ∧ GtsAt H as gs := by
  induction gs generalizing xs with
  | nil => cases h; exact ⟨[], rfl, rfl, fun i x b h _ => by simp at h⟩
  | cons g gs ih =>
    cases h with
    | cons h hs =>
      obtain ⟨a, rfl, ha⟩ := gtD_at h
      obtain ⟨as, rfl, hl, hat⟩ := ih hs
      refine ⟨a :: as, rfl, congrArg (· + 1) hl, fun i x b h1 h2 => ?_⟩
      cases i with
      | zero => cases h1; cases h2; exact ha
      | succ i => exact hat i x b (by simpa using h1) (by simpa using h2)
theorem GtsAt.dats {d : Addr} {H : Hp} {as : List Addr} {gs : List Gt} (h : GtsAt H as gs) : DAts d H (as.map V.ref) (gs.map gtD) := by
  refine DAts.of (by rw [List.length_map, List.length_map, h.1]) fun i x e h1 h2 => ?_
  obtain ⟨b, hb, rfl⟩ := map_getR h1
  obtain ⟨g, hg, hat⟩ := h.get hb
  rw [List.getElem?_map, hg] at h2
  cases h2
  exact hat.dat
/-- what is no list of rising bits -/
theorem risF_bad : ∀ {es : List PyData} {l : Int} {e : PyData}, e ∈ es → isBD 120 e = false → risF l es = false
  | [], _, _, h, _ => by simp at h
  | .int i :: es, l, e, h, hb => by
    show ((decide (0 ≤ i) && decide (i < 120)) && (decide (l < i) && risF i es)) = false
    rcases List.mem_cons.mp h with rfl | h
    · rw [show (decide (0 ≤ i) && decide (i < 120)) = false from hb]; rfl
    · rw [risF_bad h hb, Bool.and_false, Bool.and_false]
  | .none :: _, _, _, _, _ => rfl
  | .bool _ :: _, _, _, _, _ => rfl
  | .str _ :: _, _, _, _, _ => rfl
  | .list _ :: _, _, _, _, _ => rfl
  | .tuple _ :: _, _, _, _, _ => rfl
  | .dict _ :: _, _, _, _, _ => rfl
theorem risF_two : ∀ {xs ys : List PyData} {l a b : Int}, b ≤ a → risF l (xs ++ .int a :: .int b :: ys) = false
  | [], ys, l, a, b, h => by
    show ((decide (0 ≤ a) && decide (a < 120)) && (decide (l < a) && ((decide (0 ≤ b) && decide (b < 120)) && (decide (a < b) && risF b ys)))) = false
    rw [decide_eq_false (show ¬ a < b by omega), Bool.false_and, Bool.and_false, Bool.and_false, Bool.and_false]
  | .int i :: xs, ys, l, a, b, h => by
    show ((decide (0 ≤ i) && decide (i < 120)) && (decide (l < i) && risF i (xs ++ .int a :: .int b :: ys))) = false
    rw [risF_two h, Bool.and_false, Bool.and_false]
  | .none :: _, _, _, _, _, _ => rfl
  | .bool _ :: _, _, _, _, _, _ => rfl
  | .str _ :: _, _, _, _, _, _ => rfl
  | .list _ :: _, _, _, _, _, _ => rfl
  | .tuple _ :: _, _, _, _, _, _ => rfl
  | .dict _ :: _, _, _, _, _, _ => rfl
theorem gateD_ris {t : PyData} {es : List PyData} (h : risF (-1) es = false) : gateD (.tuple [t, .tuple es]) = false := by
  show (isBD 120 t && (risF (-1) es && _)) = false
  rw [h, Bool.false_and, Bool.and_false]
theorem gateD_tgt {t c : PyData} (h : isBD 120 t = false) : gateD (.tuple [t, c]) = false := by
  cases c with
  | tuple es =>
    show (isBD 120 t && _) = false
    rw [h, Bool.false_and]
  | _ => rfl
theorem gateD_has {t : Int} {es : List PyData} (h : PyData.int t ∈ es) : gateD (.tuple [.int t, .tuple es]) = false := by
  show (isBD 120 (.int t) && (risF (-1) es && !hasD (.int t) es)) = false
  have : hasD (.int t) es = true := by
    unfold hasD
    rw [List.any_eq_true]
    exact ⟨_, h, decide_eq_true rfl⟩
  rw [this, Bool.not_true, Bool.and_false, Bool.and_false]
theorem mem_setI {α : Type} {xs : List α} {i : Nat} {e : α} (h : i < xs.length) : e ∈ xs.set i e := List.mem_of_getElem? (List.getElem?_set_self h)
theorem gatesD_set {gs : List Gt} {i : Nat} {e : PyData} (hi : i < gs.length) (h : gateD e = false) : gatesD (.list ((gs.map gtD).set i e)) = false := by
  show (decide _ && ((gs.map gtD).set i e).all gateD) = false
  have : ((gs.map gtD).set i e).all gateD = false := List.all_eq_false.mpr ⟨e, mem_setI (by rw [List.length_map]; exact hi), by rw [h]; decide⟩
  rw [this, Bool.and_false]
theorem bitsD_set {bs : List Bool} {i : Nat} {e : PyData} {n : Int} (hi : i < bs.length) (h : isBlD e = false) : bitsD n (.list ((bs.map PyData.bool).set i e)) = false := by
  show (decide _ && ((bs.map PyData.bool).set i e).all isBlD) = false
  have : ((bs.map PyData.bool).set i e).all isBlD = false := List.all_eq_false.mpr ⟨e, mem_setI (by rw [List.length_map]; exact hi), by rw [h]; decide⟩
  rw [this, Bool.and_false]
theorem bitsD_short {bs : List Bool} {n : Int} (h : (bs.length : Int) < n) : bitsD n (blsD bs) = false := by
  show (decide (n ≤ ((bs.map PyData.bool).length : Int)) && _) = false
  rw [List.length_map, decide_eq_false (by omega), Bool.false_and]
end Br

/-! ### gates that are spread -/
namespace Br
open PySem PySem.Spec PyProof.Rows L2
theorem atI_back {α : Type} {xs : List α} {j : Nat} {v : α} (hj : j < xs.length) (h : xs[xs.length - 1 - j]? = some v) : atI xs (-1 - (j : Int)) = some v := by
  unfold atI ixN
  rw [if_neg (by omega), if_pos (by omega)]
  show xs[(-1 - (j : Int) + (xs.length : Int)).toNat]? = some v
  rw [show (-1 - (j : Int) + (xs.length : Int)).toNat = xs.length - 1 - j by omega]
  exact h
theorem atI_m1 {α : Type} {xs : List α} {v : α} (hj : 0 < xs.length) (h : xs[xs.length - 1]? = some v) : atI xs (-1) = some v := atI_back (j := 0) hj h
def two (t a b : Nat) : Gt := (t, if a < b then [a, b] else [b, a])
/-- what the borrowed bits must be -/
def borD (ns : List Int) (n : Int) : PyData → Bool
  | .list es => decide ((es.length : Int) = n) && (es.all (isBD 120) && decide ((ns ++ es.map intD).Nodup))
  | _ => false
def natsD (cs : List Nat) : List PyData := cs.map fun (c : Nat) => PyData.int (c : Int)
theorem natsD_of : ∀ {es : List PyData}, es.all (isBD 120) = true → ∃ bs : List Nat, es = natsD bs ∧ ∀ b, b ∈ bs → b < 120
  | [], _ => ⟨[], rfl, fun b h => by simp at h⟩
  | e :: es, h => by
    rw [List.all_cons, Bool.and_eq_true] at h
    obtain ⟨i, rfl, i0, i1⟩ := isBD_iff.mp h.1
    obtain ⟨bs, rfl, hb⟩ := natsD_of h.2
    obtain ⟨b, rfl⟩ : ∃ b : Nat, i = (b : Int) := ⟨i.toNat, by omega⟩
    refine ⟨b :: bs, rfl, fun x hx => ?_⟩
    rcases List.mem_cons.mp hx with rfl | hx
    · omega
    · exact hb x hx
theorem natsD_int {bs : List Nat} : (natsD bs).map intD = bs.map fun (c : Nat) => (c : Int) := by unfold natsD; rw [List.map_map]; rfl
theorem natsD_all {bs : List Nat} (h : ∀ b, b ∈ bs → b < 120) : (natsD bs).all (isBD 120) = true := by
  rw [List.all_eq_true]
  intro e he
  obtain ⟨b, hb, rfl⟩ := List.mem_map.mp he
  have := h b hb
  exact isBD_iff.mpr ⟨_, rfl, by omega, by omega⟩
theorem nodup_nat {ns : List Nat} : (ns.map fun (c : Nat) => (c : Int)).Nodup ↔ ns.Nodup := by
  constructor
  · intro h
    exact (List.pairwise_map.mp h).imp fun h e => h (by rw [e])
  · intro h
    exact List.pairwise_map.mpr (h.imp fun h e => h (by omega))
theorem borD_iff {t n : Nat} {cs : List Nat} {e : PyData} : borD ((t : Int) :: cs.map fun (c : Nat) => (c : Int)) (n : Int) e = true ↔ ∃ bs : List Nat, e = .list (natsD bs) ∧ bs.length = n ∧ (∀ b, b ∈ bs → b < 120) ∧ (t :: cs ++ bs).Nodup := by
  constructor
  · intro h
    cases e with
    | list es =>
      have h : (decide ((es.length : Int) = n) && (es.all (isBD 120) && decide ((((t : Int) :: cs.map fun (c : Nat) => (c : Int)) ++ es.map intD).Nodup))) = true := h
      rw [Bool.and_eq_true, Bool.and_eq_true, decide_eq_true_iff, decide_eq_true_iff] at h
      obtain ⟨h1, h2, h3⟩ := h
      obtain ⟨bs, rfl, hb⟩ := natsD_of h2
      rw [natsD_int] at h3
      refine ⟨bs, rfl, by unfold natsD at h1; rw [List.length_map] at h1; omega, hb, nodup_nat.mp ?_⟩
      rw [List.map_append]
      exact h3
    | _ => cases h
  · rintro ⟨bs, rfl, hl, hb, hn⟩
    show (decide (((natsD bs).length : Int) = n) && ((natsD bs).all (isBD 120) && decide ((((t : Int) :: cs.map fun (c : Nat) => (c : Int)) ++ (natsD bs).map intD).Nodup))) = true
    rw [natsD_all hb, natsD_int, Bool.true_and]
    have h1 : (natsD bs).length = n := by unfold natsD; rw [List.length_map]; exact hl
    have h2 := nodup_nat.mpr hn
    rw [List.map_append] at h2
    have h2 : (((t : Int) :: cs.map fun (c : Nat) => (c : Int)) ++ bs.map fun (c : Nat) => (c : Int)).Nodup := h2
    rw [decide_eq_true (by omega), decide_eq_true h2]
    rfl
def turnF (t : Nat) (bs : List Nat) : List Nat := t :: bs.reverse
def downF (t : Nat) (cs bs : List Nat) : List Gt := (List.range bs.length).map fun j => two ((turnF t bs).getD j 0) ((turnF t bs).getD (j + 1) 0) (cs.getD (cs.length - 1 - j) 0)
def lastF (t : Nat) (cs bs : List Nat) : Gt := ((turnF t bs).getD bs.length 0, cs.take 2)
def spreadF (t : Nat) (cs bs : List Nat) : List Gt := if bs = [] then [(t, cs)] else downF t cs bs ++ [lastF t cs bs] ++ (downF t cs bs).reverse ++ (downF t cs bs).drop 1 ++ [lastF t cs bs] ++ ((downF t cs bs).drop 1).reverse
theorem turn_len {t : Nat} {bs : List Nat} : (turnF t bs).length = bs.length + 1 := by unfold turnF; rw [List.length_cons, List.length_reverse]
theorem down_len {t : Nat} {cs bs : List Nat} : (downF t cs bs).length = bs.length := by unfold downF; rw [List.length_map, List.length_range]
theorem down_get {t k : Nat} {cs bs : List Nat} (h : k < bs.length) : (downF t cs bs)[k]? = some (two ((turnF t bs).getD k 0) ((turnF t bs).getD (k + 1) 0) (cs.getD (cs.length - 1 - k) 0)) := by
  unfold downF
  rw [List.getElem?_map, List.getElem?_range h]
  rfl
theorem cInts_at2 {cs : List Nat} {i : Nat} (h : i < cs.length) : (cInts cs)[i]? = some (.int ((cs.getD i 0 : Nat) : Int)) := by
  unfold cInts
  rw [List.getElem?_map, List.getElem?_eq_getElem h, List.getD_eq_getElem?_getD, List.getElem?_eq_getElem h]
  rfl
theorem cInts_rev {cs : List Nat} : (cInts cs).reverse = cInts cs.reverse := by unfold cInts; rw [List.map_reverse]
theorem cInts_app {cs ds : List Nat} : cInts cs ++ cInts ds = cInts (cs ++ ds) := by unfold cInts; rw [List.map_append]
theorem cInts_take {cs : List Nat} {n : Nat} : (cInts cs).take n = cInts (cs.take n) := by unfold cInts; rw [List.map_take]
theorem GtsAt.rev {H : Hp} {as : List Addr} {gs : List Gt} (h : GtsAt H as gs) : GtsAt H as.reverse gs.reverse := by
  refine ⟨by rw [List.length_reverse, List.length_reverse, h.1], fun i x b e1 e2 => ?_⟩
  have h1 := (List.getElem?_eq_some_iff.mp e1).1
  have h2 := (List.getElem?_eq_some_iff.mp e2).1
  rw [List.length_reverse] at h1 h2
  rw [List.getElem?_reverse h1] at e1
  rw [List.getElem?_reverse h2, h.1] at e2
  exact h.2 _ x b e1 e2
theorem GtsAt.app {H : Hp} {as bs : List Addr} {gs hs : List Gt} (h : GtsAt H as gs) (h2 : GtsAt H bs hs) : GtsAt H (as ++ bs) (gs ++ hs) := by
  refine ⟨by rw [List.length_append, List.length_append, h.1, h2.1], fun i x b e1 e2 => ?_⟩
  by_cases hi : i < gs.length
  · rw [List.getElem?_append_left hi] at e1
    rw [List.getElem?_append_left (by rw [h.1]; exact hi)] at e2
    exact h.2 i x b e1 e2
  · rw [List.getElem?_append_right (by omega)] at e1
    rw [List.getElem?_append_right (by rw [h.1]; omega), h.1] at e2
    exact h2.2 _ x b e1 e2
theorem GtsAt.drop {H : Hp} {as : List Addr} {gs : List Gt} (h : GtsAt H as gs) {n : Nat} : GtsAt H (as.drop n) (gs.drop n) :=
  ⟨by rw [List.length_drop, List.length_drop, h.1], fun i x b e1 e2 => h.2 (n + i) x b (by rw [← List.getElem?_drop]; exact e1) (by rw [← List.getElem?_drop]; exact e2)⟩
theorem GtsAt.one {H : Hp} {a : Addr} {g : Gt} (h : GtAt H a g) : GtsAt H [a] [g] := ⟨rfl, fun i x b e1 e2 => by
  cases i with
  | zero => cases e1; cases e2; exact h
  | succ i => simp at e1⟩
end Br

/-! ### len(set(xs)), any ints -/
namespace Br
open PySem PySem.Spec PyProof.Rows L2
theorem nodup_le : ∀ {ks ns : List Int}, ks.Nodup → (∀ k, k ∈ ks → k ∈ ns) → ks.length ≤ ns.length
  | [], _, _, _ => Nat.zero_le _
  | k :: ks, ns, hn, hs => by
    rw [List.nodup_cons] at hn
    have hk := hs k List.mem_cons_self
    have h := nodup_le (ns := ns.erase k) hn.2 fun x hx => by
      have hx2 := hs x (List.mem_cons_of_mem _ hx)
      exact (List.mem_erase_of_ne (fun e => hn.1 (by rw [← e]; exact hx))).mpr hx2
    rw [List.length_erase_of_mem hk] at h
    have := List.length_pos_of_mem hk
    rw [List.length_cons]
    omega
theorem dup_at : ∀ {ns : List Int}, ¬ ns.Nodup → ∃ x, x ∈ ns ∧ x ∈ ns.erase x
  | [], h => absurd List.nodup_nil h
  | x :: r, h => by
    by_cases hx : x ∈ r
    · exact ⟨x, List.mem_cons_self, by rw [List.erase_cons_head]; exact hx⟩
    · have hr : ¬ r.Nodup := fun hr => h (List.nodup_cons.mpr ⟨hx, hr⟩)
      obtain ⟨y, h1, h2⟩ := dup_at hr
      have hne : x ≠ y := fun e => hx (by rw [e]; exact h1)
      refine ⟨y, List.mem_cons_of_mem _ h1, ?_⟩
      rw [List.erase_cons_tail (by simpa using hne)]
      exact List.mem_cons_of_mem _ h2
theorem card_iff {ks ns : List Int} (hn : ks.Nodup) (h : ∀ k, k ∈ ks ↔ k ∈ ns) : (ks.length = ns.length ↔ ns.Nodup) ∧ ks.length ≤ ns.length := by
  have hle := nodup_le hn fun k hk => (h k).mp hk
  refine ⟨⟨fun e => ?_, fun hs => ?_⟩, hle⟩
  · by_cases hd : ns.Nodup
    · exact hd
    · exfalso
      obtain ⟨x, h1, h2⟩ := dup_at hd
      have := nodup_le (ns := ns.erase x) hn fun k hk => by
        by_cases e : k = x
        · rw [e]; exact h2
        · exact (List.mem_erase_of_ne e).mpr ((h k).mp hk)
      rw [List.length_erase_of_mem h1] at this
      have := List.length_pos_of_mem h1
      omega
  · have := nodup_le hs fun k hk => (h k).mpr hk
    omega
theorem step_nodup {ks : List Int} {k : Int} (h : ks.Nodup) : (step_dedup ks k).Nodup ∧ ∀ x, x ∈ step_dedup ks k ↔ x ∈ ks ∨ x = k := by
  unfold step_dedup
  split
  · rename_i hb
    obtain ⟨y, hy, e⟩ := List.any_eq_true.mp hb
    have : y = k := by simpa using e
    subst this
    refine ⟨h, fun x => ⟨.inl, fun z => z.elim id fun e => by rw [e]; exact hy⟩⟩
  · rename_i hb
    have hk : k ∉ ks := fun hk => hb (List.any_eq_true.mpr ⟨k, hk, by simp⟩)
    refine ⟨List.nodup_append.mpr ⟨h, by simp, fun a ha b hb e => hk (by rw [← List.mem_singleton.mp hb, ← e]; exact ha)⟩, fun x => by simp⟩
theorem firstMet_spec {ns : List Int} : ∀ i, i ≤ ns.length → (firstMet (fun i => ns.getD i 0) i).Nodup ∧ ∀ x, x ∈ firstMet (fun i => ns.getD i 0) i ↔ x ∈ ns.take i
  | 0, _ => ⟨List.nodup_nil, fun x => by show x ∈ [] ↔ x ∈ ns.take 0; simp⟩
  | i + 1, hi => by
    obtain ⟨h1, h2⟩ := firstMet_spec (ns := ns) i (Nat.le_of_lt hi)
    obtain ⟨k1, k2⟩ := step_nodup (k := ns.getD i 0) h1
    rw [firstMet_succ]
    refine ⟨k1, fun x => ?_⟩
    have e : ns.getD i 0 = ns[i] := by rw [List.getD_eq_getElem?_getD, List.getElem?_eq_getElem hi]; rfl
    have e2 : ns.take (i + 1) = ns.take i ++ [ns[i]] := by rw [List.take_add_one, List.getElem?_eq_getElem hi]; rfl
    rw [k2, h2, e, e2, List.mem_append, List.mem_singleton]
def tLenSet (K : PySem.W.Frag) (ta : TE) : TE := fun σ H Q => ta σ H fun x H1 => ∃ (l : Addr) (ns : List Int), x = V.ref l ∧ (SqL K H1 l (ns.map V.int) ∨ SqT K H1 l (ns.map V.int)) ∧ ns.length ≤ 4000 ∧ ∀ c : Nat, (c = ns.length ↔ ns.Nodup) → c ≤ ns.length → Q (.int (c : Nat)) H1
theorem pe_lenSetA {X : Cx} {a : Expr} {ta : TE} {p p2 q pos : Pos} (hg : Gl X "len") (hm : X.mg "len" = none) (hg2 : Gl X "set") (hm2 : X.mg "set" = none) (ha : PE X a ta) (hc : X.calm = true := by rfl)
    (na : starEach [a] X.env = (false, eval a X.env) :: starEach [] X.env := by rfl) : PE X (.Call (.Name "len" p) [.Call (.Name "set" p2) [a] [] q] [] pos) (tLenSet X.K ta) := by
  refine ⟨fun pins s σ H Q I h => ?_⟩
  refine Call_ (ld_blt I hg hm PySem.boot_len ?_)
  refine PyProof.Rows.callWith_builtin1 (PyProof.Rows.args_cons ?_ rfl) rfl rfl
  refine Call_ (ld_blt I hg2 hm2 PyProof.Rows.boot_set ?_)
  refine PyProof.Rows.callWith_type1 (PyProof.Rows.args_cons (thn (ha.run pins s σ H _ I h) fun v s1 ⟨x, H1, I1, r1, q1⟩ => PyProof.Rows.args_nil ?_) na) na rfl
  obtain ⟨l, ns, rfl, hq, hl, q1⟩ := q1
  cases r1
  rcases hq with hq | hq
  · obtain ⟨its, r, pl, hz⟩ := I1.list hq
    have hlen : its.toArray.size = ns.length := by rw [List.size_toArray, ← r.length, List.length_map]
    refine call_set_list (I1.ok.hd hc) pl.isList (ns := ns) (by simpa using r.ints) (by rw [hlen]; unfold scanBound; omega) fun h' tk hS hk => ?_
    rw [hlen] at hS
    obtain ⟨f1, f2⟩ := firstMet_spec (ns := ns) ns.length (Nat.le_refl _)
    rw [List.take_length] at f2
    obtain ⟨c1, c2⟩ := card_iff f1 f2
    refine PyProof.Rows.args_nil ?_
    obtain ⟨o, es, ep, t, ho, hex, hd, _, _, _, hf, hn⟩ := hS
    have I2 : Inv X pins σ H1 { s1 with heap := h', toks := tk } := I1.kept fun b o e => hk b o (Heap.lt_size e) e
    refine call_len_set ho hex hd hf (by rw [hn]; omega) ⟨.int ((es.size : Nat) : Int), H1, I2.tok _, ⟨_, rfl⟩, by rw [hn]; exact q1 _ c1 c2⟩
  · obtain ⟨its, r, pl, hz⟩ := I1.tuple hq
    refine call_set_tupI ns (I1.ok.hd hc) pl (by simpa using r.ints) (by unfold scanBound; omega) fun h' tk c hS _ hk => ?_
    refine PyProof.Rows.args_nil ?_
    obtain ⟨o, es, ep, t, ho, hex, hd, _, hnd, hS, _, hf, hn, _⟩ := hS
    obtain ⟨c1, c2⟩ := card_iff (ns := ns) hnd fun k => by rw [← hS k]; simp
    have hsz : (es.toList.map keyOf).length = c := by rw [List.length_map, Array.length_toList, hn]
    rw [hsz] at c1 c2
    have I2 : Inv X pins σ H1 { s1 with heap := h', toks := tk } := I1.kept hk
    refine call_len_set ho hex hd hf (by rw [hn]; omega) ⟨.int ((es.size : Nat) : Int), H1, I2.tok _, ⟨_, rfl⟩, by rw [hn]; exact q1 c c1 c2⟩
end Br

/-! ### what spread gates do -/
namespace Br
open PySem PySem.Spec PyProof.Rows L2
def ups : List Nat → List Nat → List Gt
  | T :: T' :: Ts, C :: Cs => two T T' C :: ups (T' :: Ts) Cs
  | _, _ => []
theorem ups_get : ∀ {Ts Cs : List Nat} {j : Nat}, j + 1 < Ts.length → j < Cs.length → (ups Ts Cs)[j]? = some (two (Ts.getD j 0) (Ts.getD (j + 1) 0) (Cs.getD j 0))
  | T :: T' :: Ts, C :: Cs, 0, _, _ => rfl
  | T :: T' :: Ts, C :: Cs, j + 1, h1, h2 => by
    show (ups (T' :: Ts) Cs)[j]? = _
    rw [ups_get (by simpa using h1) (by simpa using h2)]
    rfl
  | [], _, _, h, _ => by simp at h
  | [_], _, _, h, _ => by simp at h
  | _ :: _ :: _, [], _, _, h => by simp at h
theorem ups_len : ∀ {Ts Cs : List Nat}, Ts.length ≤ Cs.length + 1 → (ups Ts Cs).length = Ts.length - 1
  | [], _, _ => by simp [ups]
  | [_], _, _ => by simp [ups]
  | T :: T' :: Ts, C :: Cs, h => by
    show (ups (T' :: Ts) Cs).length + 1 = _
    rw [ups_len (by simpa using h)]
    simp
  | _ :: _ :: _, [], h => by simp at h
theorem down_ups {t : Nat} {cs bs : List Nat} (h : bs.length + 1 ≤ cs.length) : downF t cs bs = ups (turnF t bs) cs.reverse := by
  apply List.ext_getElem?
  intro j
  by_cases hj : j < bs.length
  · rw [down_get hj, ups_get (by rw [turn_len]; omega) (by rw [List.length_reverse]; omega)]
    congr 2
    rw [List.getD_eq_getElem?_getD, List.getD_eq_getElem?_getD, List.getElem?_reverse (by omega)]
  · rw [List.getElem?_eq_none (by rw [down_len]; omega), List.getElem?_eq_none (by rw [ups_len (by rw [turn_len, List.length_reverse]; omega), turn_len]; omega)]
theorem perfG_two {bs : List Bool} {t a b : Nat} : perfG bs (two t a b) = if bs.getD a false && bs.getD b false then bs.set t (!bs.getD t false) else bs := by
  unfold perfG two
  by_cases h : a < b
  · rw [if_pos h]
    simp only [List.all_cons, List.all_nil, Bool.and_true]
  · rw [if_neg h]
    simp only [List.all_cons, List.all_nil, Bool.and_true]
    rw [Bool.and_comm]
theorem getD_tog {bs : List Bool} {t x : Nat} {c : Bool} (ht : t < bs.length) : (if c then bs.set t (!bs.getD t false) else bs).getD x false = (bs.getD x false ^^ (decide (x = t) && c)) := by
  cases c with
  | false => rw [if_neg (by decide), Bool.and_false, Bool.xor_false]
  | true =>
    rw [if_pos rfl, Bool.and_true]
    by_cases e : x = t
    · subst e
      rw [decide_eq_true rfl, List.getD_eq_getElem?_getD (l := bs.set _ _), List.getElem?_set_self ht]
      simp
    · rw [decide_eq_false e, Bool.xor_false, getD_setB (fun h => e h.symm)]
/-- by what the bits are turned over -/
def markF (b : Nat → Bool) (q : Bool) : List Nat → List Nat → Nat → Bool
  | T :: Ts, Cs, x => if x = T then q && (Cs.take Ts.length).all b else markF b q Ts Cs.tail x
  | [], _, _ => false
theorem mark_none {b : Nat → Bool} {q : Bool} : ∀ {Ts Cs : List Nat} {x : Nat}, x ∉ Ts → markF b q Ts Cs x = false
  | [], _, _, _ => rfl
  | T :: Ts, Cs, x, h => by
    show (if x = T then _ else _) = false
    rw [if_neg (fun e => h (by rw [e]; exact List.mem_cons_self))]
    exact mark_none fun hx => h (List.mem_cons_of_mem _ hx)
theorem mark_congr {b c : Nat → Bool} {q : Bool} : ∀ {Ts Cs : List Nat} {x : Nat}, (∀ y, y ∈ Cs → b y = c y) → markF b q Ts Cs x = markF c q Ts Cs x
  | [], _, _, _ => rfl
  | T :: Ts, Cs, x, h => by
    show (if x = T then q && (Cs.take Ts.length).all b else _) = (if x = T then q && (Cs.take Ts.length).all c else _)
    have e : (Cs.take Ts.length).all b = (Cs.take Ts.length).all c := by
      rw [Bool.eq_iff_iff, List.all_eq_true, List.all_eq_true]
      exact ⟨fun z y hy => by rw [← h y (List.mem_of_mem_take hy)]; exact z y hy, fun z y hy => by rw [h y (List.mem_of_mem_take hy)]; exact z y hy⟩
    rw [e, mark_congr (Ts := Ts) fun y hy => h y (List.mem_of_mem_tail hy)]
theorem half_ok {c0 c1 : Nat} : ∀ {Ts Cs : List Nat} {bs : List Bool} {z : Nat}, Ts.getLast? = some z → Ts.Nodup → (∀ x, x ∈ Ts → x < bs.length) → Ts.length ≤ Cs.length + 1 → (∀ x, x ∈ Ts → x ∉ Cs ∧ x ≠ c0 ∧ x ≠ c1) →
    ∀ x, (perfF (ups Ts Cs ++ [(z, [c0, c1])] ++ (ups Ts Cs).reverse) bs).getD x false = (bs.getD x false ^^ markF (fun y => bs.getD y false) (bs.getD c0 false && bs.getD c1 false) Ts Cs x)
  | [], _, _, _, h, _, _, _, _ => by cases h
  | [T], Cs, bs, z, hz, _, hb, _, _ => by
    intro x
    have e : z = T := (Option.some.inj hz).symm
    subst e
    show (perfG bs (z, [c0, c1])).getD x false = _
    have e : perfG bs (z, [c0, c1]) = if bs.getD c0 false && bs.getD c1 false then bs.set z (!bs.getD z false) else bs := by
      unfold perfG
      simp only [List.all_cons, List.all_nil, Bool.and_true]
    rw [e, getD_tog (hb z List.mem_cons_self)]
    congr 1
    show _ = if x = z then (bs.getD c0 false && bs.getD c1 false) && true else false
    by_cases hx : x = z
    · rw [if_pos hx, decide_eq_true hx, Bool.true_and, Bool.and_true]
    · rw [if_neg hx, decide_eq_false hx, Bool.false_and]
  | T :: T' :: Ts, C :: Cs, bs, z, hz, hn, hb, hl, hd => by
    intro x
    rw [List.nodup_cons] at hn
    have hT := hb T List.mem_cons_self
    obtain ⟨hTC, hT0, hT1⟩ := hd T List.mem_cons_self
    obtain ⟨hT'C, hT'0, hT'1⟩ := hd T' (List.mem_cons_of_mem _ List.mem_cons_self)
    have hTT' : T ≠ T' := fun e => hn.1 (by rw [e]; exact List.mem_cons_self)
    have hTc : T ≠ C := fun e => hTC (by rw [e]; exact List.mem_cons_self)
    have hT'c : T' ≠ C := fun e => hT'C (by rw [e]; exact List.mem_cons_self)
    have e0 : perfF (ups (T :: T' :: Ts) (C :: Cs) ++ [(z, [c0, c1])] ++ (ups (T :: T' :: Ts) (C :: Cs)).reverse) bs = perfG (perfF (ups (T' :: Ts) Cs ++ [(z, [c0, c1])] ++ (ups (T' :: Ts) Cs).reverse) (perfG bs (two T T' C))) (two T T' C) := by
      show perfF (two T T' C :: ups (T' :: Ts) Cs ++ [(z, [c0, c1])] ++ (two T T' C :: ups (T' :: Ts) Cs).reverse) bs = _
      rw [List.reverse_cons, ← List.append_assoc, perfF_snoc]
      rfl
    rw [e0]
    -- behind the first gate
    have g1 : ∀ y, (perfG bs (two T T' C)).getD y false = (bs.getD y false ^^ (decide (y = T) && (bs.getD T' false && bs.getD C false))) := fun y => by rw [perfG_two, getD_tog hT]
    have l1 : (perfG bs (two T T' C)).length = bs.length := perfG_len
    generalize perfG bs (two T T' C) = b1 at g1 l1
    have g1n : ∀ y, y ≠ T → b1.getD y false = bs.getD y false := fun y hy => by rw [g1, decide_eq_false hy, Bool.false_and, Bool.xor_false]
    have g2 := half_ok (c0 := c0) (c1 := c1) (Ts := T' :: Ts) (Cs := Cs) (bs := b1) (z := z) hz hn.2 (fun y hy => by rw [l1]; exact hb y (List.mem_cons_of_mem _ hy)) (by simpa using hl) (fun y hy => ⟨fun h => (hd y (List.mem_cons_of_mem _ hy)).1 (List.mem_cons_of_mem _ h), (hd y (List.mem_cons_of_mem _ hy)).2⟩)
    have l2 : (perfF (ups (T' :: Ts) Cs ++ [(z, [c0, c1])] ++ (ups (T' :: Ts) Cs).reverse) b1).length = bs.length := by rw [perfF_len, l1]
    generalize perfF (ups (T' :: Ts) Cs ++ [(z, [c0, c1])] ++ (ups (T' :: Ts) Cs).reverse) b1 = b2 at g2 l2
    have em : ∀ y, markF (fun y => b1.getD y false) (b1.getD c0 false && b1.getD c1 false) (T' :: Ts) Cs y = markF (fun y => bs.getD y false) (bs.getD c0 false && bs.getD c1 false) (T' :: Ts) Cs y := fun y => by
      rw [g1n c0 (fun e => hT0 e.symm), g1n c1 (fun e => hT1 e.symm)]
      exact mark_congr fun w hw => g1n w fun e => hTC (by rw [← e]; exact List.mem_cons_of_mem _ hw)
    have g2 : ∀ y, b2.getD y false = (b1.getD y false ^^ markF (fun y => bs.getD y false) (bs.getD c0 false && bs.getD c1 false) (T' :: Ts) Cs y) := fun y => by rw [g2, em]
    have hqT' : markF (fun y => bs.getD y false) (bs.getD c0 false && bs.getD c1 false) (T' :: Ts) Cs T' = ((bs.getD c0 false && bs.getD c1 false) && (Cs.take Ts.length).all fun y => bs.getD y false) := if_pos rfl
    rw [perfG_two, getD_tog (by rw [l2]; exact hT), g2, g2 T', g2 C, g1n T' (fun e => hTT' e.symm), g1n C (fun e => hTc e.symm), hqT']
    have hCn : C ∉ T' :: Ts := fun h => (hd C (List.mem_cons_of_mem _ h)).1 List.mem_cons_self
    rw [mark_none (x := C) hCn, Bool.xor_false]
    show _ = (_ ^^ (if x = T then (bs.getD c0 false && bs.getD c1 false) && ((C :: Cs).take (Ts.length + 1)).all (fun y => bs.getD y false) else markF _ _ (T' :: Ts) Cs x))
    by_cases hx : x = T
    · subst hx
      rw [g1, decide_eq_true rfl, if_pos rfl, mark_none hn.1, List.take_succ_cons, List.all_cons]
      cases bs.getD x false <;> cases bs.getD T' false <;> cases bs.getD C false <;> cases bs.getD c0 false <;> cases bs.getD c1 false <;> cases ((Cs.take Ts.length).all fun y => bs.getD y false) <;> rfl
    · rw [g1n x hx, decide_eq_false hx, if_neg hx, Bool.false_and, Bool.xor_false]
  | _ :: _ :: _, [], _, _, _, _, _, hl, _ => by simp at hl
theorem bits_ext {a b : List Bool} (hl : a.length = b.length) (h : ∀ x, a.getD x false = b.getD x false) : a = b := by
  apply List.ext_getElem hl
  intro i h1 h2
  have := h i
  rw [List.getD_eq_getElem?_getD, List.getD_eq_getElem?_getD, List.getElem?_eq_getElem h1, List.getElem?_eq_getElem h2] at this
  exact this
theorem perfF_app {gs hs : List Gt} {bs : List Bool} : perfF (gs ++ hs) bs = perfF hs (perfF gs bs) := by
  unfold perfF
  rw [List.foldl_append]
theorem ups_drop : ∀ {Ts Cs : List Nat}, (ups Ts Cs).drop 1 = ups Ts.tail Cs.tail
  | [], Cs => by cases Cs <;> rfl
  | [_], Cs => by cases Cs <;> rfl
  | T :: T' :: Ts, C :: Cs => rfl
  | _ :: T' :: Ts, [] => by cases Ts <;> rfl
theorem turn_last {t : Nat} {bs : List Nat} : (turnF t bs).getLast? = some ((turnF t bs).getD bs.length 0) := by
  rw [List.getLast?_eq_getElem?, turn_len, List.getD_eq_getElem?_getD, Nat.add_sub_cancel, List.getElem?_eq_getElem (by rw [turn_len]; omega)]
  rfl
/-- together they do what the gate does -/
theorem spread_ok {t : Nat} {cs bs : List Nat} {bits : List Bool} (hl : bs.length = cs.length - 2) (hnd : (t :: cs ++ bs).Nodup) (hb : ∀ x, x ∈ t :: cs ++ bs → x < bits.length) : perfF (spreadF t cs bs) bits = perfG bits (t, cs) := by
  unfold spreadF
  by_cases h0 : bs = []
  · rw [if_pos h0]; rfl
  rw [if_neg h0]
  have hbl : 0 < bs.length := List.length_pos_iff.mpr h0
  obtain ⟨c0, c1, cr, rfl⟩ : ∃ c0 c1 cr, cs = c0 :: c1 :: cr := by
    match cs, hl with
    | [], hl => simp at hl; exact absurd hl h0
    | [_], hl => simp at hl; exact absurd hl h0
    | c0 :: c1 :: cr, _ => exact ⟨c0, c1, cr, rfl⟩
  have hcl : cr.length = bs.length := by simp at hl; omega
  have eD := down_ups (t := t) (cs := c0 :: c1 :: cr) (bs := bs) (by simp; omega)
  have eL : lastF t (c0 :: c1 :: cr) bs = ((turnF t bs).getD bs.length 0, [c0, c1]) := rfl
  rw [eD, eL, ups_drop]
  have hzl := turn_last (t := t) (bs := bs)
  generalize (turnF t bs).getD bs.length 0 = z at hzl
  obtain ⟨b0, br, hbr⟩ : ∃ b0 br, bs.reverse = b0 :: br := by
    cases h : bs.reverse with
    | nil => exact absurd (List.reverse_eq_nil_iff.mp h) h0
    | cons b0 br => exact ⟨b0, br, rfl⟩
  have eT : turnF t bs = t :: b0 :: br := by unfold turnF; rw [hbr]
  have hmem : ∀ x, x ∈ b0 :: br ↔ x ∈ bs := fun x => by rw [← hbr]; exact List.mem_reverse
  rw [List.nodup_append, List.nodup_cons] at hnd
  obtain ⟨⟨htc, hcn⟩, hbn, hdis⟩ := hnd
  have hTn : (t :: b0 :: br).Nodup := by
    rw [List.nodup_cons, ← hbr]
    exact ⟨fun h => hdis t List.mem_cons_self t (List.mem_reverse.mp h) rfl, List.pairwise_reverse.mpr (hbn.imp fun h => h.symm)⟩
  have hTb : ∀ x, x ∈ t :: b0 :: br → x < bits.length := fun x hx => by
    rcases List.mem_cons.mp hx with rfl | hx
    · exact hb x (by simp)
    · exact hb x (List.mem_append.mpr (.inr ((hmem x).mp hx)))
  have hTd : ∀ x, x ∈ t :: b0 :: br → x ∉ (c0 :: c1 :: cr).reverse ∧ x ≠ c0 ∧ x ≠ c1 := fun x hx => by
    have : x ∉ c0 :: c1 :: cr := by
      rcases List.mem_cons.mp hx with rfl | hx
      · exact htc
      · exact fun h => hdis x (List.mem_cons_of_mem _ h) x ((hmem x).mp hx) rfl
    exact ⟨fun h => this (List.mem_reverse.mp h), fun e => this (by rw [e]; exact List.mem_cons_self), fun e => this (by rw [e]; exact List.mem_cons_of_mem _ List.mem_cons_self)⟩
  have hrl : (c0 :: c1 :: cr).reverse.length = bs.length + 2 := by rw [List.length_reverse]; simp; omega
  have hbl2 : (b0 :: br).length = bs.length := by rw [← hbr, List.length_reverse]
  rw [eT] at hzl ⊢
  rw [List.append_assoc (ups (t :: b0 :: br) (c0 :: c1 :: cr).reverse ++ [(z, [c0, c1])] ++ (ups (t :: b0 :: br) (c0 :: c1 :: cr).reverse).reverse), List.append_assoc (ups (t :: b0 :: br) (c0 :: c1 :: cr).reverse ++ [(z, [c0, c1])] ++ (ups (t :: b0 :: br) (c0 :: c1 :: cr).reverse).reverse), perfF_app]
  have g1 := half_ok (c0 := c0) (c1 := c1) (Ts := t :: b0 :: br) (Cs := (c0 :: c1 :: cr).reverse) (bs := bits) (z := z) hzl hTn hTb (by rw [hrl, List.length_cons, hbl2]; omega) hTd
  have l1 : (perfF (ups (t :: b0 :: br) (c0 :: c1 :: cr).reverse ++ [(z, [c0, c1])] ++ (ups (t :: b0 :: br) (c0 :: c1 :: cr).reverse).reverse) bits).length = bits.length := perfF_len
  generalize perfF (ups (t :: b0 :: br) (c0 :: c1 :: cr).reverse ++ [(z, [c0, c1])] ++ (ups (t :: b0 :: br) (c0 :: c1 :: cr).reverse).reverse) bits = b1 at g1 l1
  show perfF (ups (b0 :: br) (c0 :: c1 :: cr).reverse.tail ++ [(z, [c0, c1])] ++ (ups (b0 :: br) (c0 :: c1 :: cr).reverse.tail).reverse) b1 = _
  have g2 := half_ok (c0 := c0) (c1 := c1) (Ts := b0 :: br) (Cs := (c0 :: c1 :: cr).reverse.tail) (bs := b1) (z := z) hzl (List.nodup_cons.mp hTn).2 (fun x hx => by rw [l1]; exact hTb x (List.mem_cons_of_mem _ hx)) (by rw [List.length_tail, hrl, hbl2]; omega) (fun x hx => ⟨fun h => (hTd x (List.mem_cons_of_mem _ hx)).1 (List.mem_of_mem_tail h), (hTd x (List.mem_cons_of_mem _ hx)).2⟩)
  have same : ∀ y, y ∉ t :: b0 :: br → b1.getD y false = bits.getD y false := fun y hy => by rw [g1, mark_none hy, Bool.xor_false]
  have hc0 : c0 ∉ t :: b0 :: br := fun h => (hTd c0 h).2.1 rfl
  have hc1 : c1 ∉ t :: b0 :: br := fun h => (hTd c1 h).2.2 rfl
  have em : ∀ y, markF (fun y => b1.getD y false) (b1.getD c0 false && b1.getD c1 false) (b0 :: br) (c0 :: c1 :: cr).reverse.tail y = markF (fun y => bits.getD y false) (bits.getD c0 false && bits.getD c1 false) (b0 :: br) (c0 :: c1 :: cr).reverse.tail y := fun y => by
    rw [same c0 hc0, same c1 hc1]
    exact mark_congr fun w hw => same w fun h => (hTd w h).1 (List.mem_of_mem_tail hw)
  apply bits_ext (by rw [perfF_len, l1, perfG_len])
  intro x
  rw [g2, em, g1]
  have eG : perfG bits (t, c0 :: c1 :: cr) = if (c0 :: c1 :: cr).all (fun c => bits.getD c false) then bits.set t (!bits.getD t false) else bits := rfl
  rw [eG, getD_tog (hTb t List.mem_cons_self)]
  show ((_ ^^ (if x = t then _ else markF _ _ (b0 :: br) (c0 :: c1 :: cr).reverse.tail x)) ^^ markF _ _ (b0 :: br) (c0 :: c1 :: cr).reverse.tail x) = _
  by_cases hx : x = t
  · subst hx
    rw [if_pos rfl, mark_none (List.nodup_cons.mp hTn).1, Bool.xor_false, decide_eq_true rfl, Bool.true_and]
    congr 1
    rw [hbl2]
    have e1 : (c0 :: c1 :: cr).reverse.take bs.length = cr.reverse := by
      rw [List.reverse_cons, List.reverse_cons, List.append_assoc, List.take_append_of_le_length (by rw [List.length_reverse]; omega)]
      exact List.take_of_length_le (by rw [List.length_reverse]; omega)
    rw [e1, List.all_reverse, List.all_cons, List.all_cons, Bool.and_assoc]
  · rw [if_neg hx, decide_eq_false hx, Bool.false_and, Bool.xor_false, Bool.xor_assoc, Bool.xor_self, Bool.xor_false]
end Br
namespace Br
open PySem PySem.Spec PyProof.Rows L2
theorem two_2 {t a b : Nat} (h : a ≠ b) : ∃ x y, (two t a b).2 = [x, y] ∧ x < y ∧ ((x = a ∧ y = b) ∨ (x = b ∧ y = a)) := by
  unfold two
  by_cases hh : a < b
  · rw [if_pos hh]; exact ⟨a, b, rfl, hh, .inl ⟨rfl, rfl⟩⟩
  · rw [if_neg hh]; exact ⟨b, a, rfl, by omega, .inr ⟨rfl, rfl⟩⟩
/-- a gate with two controls among so many bits -/
structure TwoOk (U : List Nat) (g : Gt) : Prop where
  ex : ∃ x y, g.2 = [x, y] ∧ x < y ∧ g.1 ≠ x ∧ g.1 ≠ y ∧ g.1 ∈ U ∧ x ∈ U ∧ y ∈ U
theorem TwoOk.gt {U : List Nat} {n : Nat} {g : Gt} (h : TwoOk U g) (hU : ∀ x, x ∈ U → x < n) : GtOk n g := by
  obtain ⟨x, y, e, h1, h2, h3, h4, h5, h6⟩ := h.ex
  refine ⟨hU _ h4, fun c hc => ?_, fun hm => ?_, ?_⟩
  · rw [e] at hc
    simp only [List.mem_cons, List.not_mem_nil, or_false] at hc
    rcases hc with rfl | rfl
    · exact hU _ h5
    · exact hU _ h6
  · rw [e] at hm
    simp only [List.mem_cons, List.not_mem_nil, or_false] at hm
    rcases hm with hm | hm
    · exact h2 hm
    · exact h3 hm
  · rw [e]
    simp [h1]
theorem getD_mem2 {xs : List Nat} {i : Nat} (h : i < xs.length) : xs.getD i 0 ∈ xs := by
  rw [List.getD_eq_getElem?_getD, List.getElem?_eq_getElem h]
  exact List.getElem_mem _
theorem getD_ne {xs : List Nat} {i j : Nat} (hn : xs.Nodup) (hi : i < xs.length) (hj : j < xs.length) (h : i ≠ j) : xs.getD i 0 ≠ xs.getD j 0 := by
  rw [List.getD_eq_getElem?_getD, List.getD_eq_getElem?_getD, List.getElem?_eq_getElem hi, List.getElem?_eq_getElem hj]
  intro e
  have e : xs[i] = xs[j] := e
  rcases Nat.lt_or_gt_of_ne h with hlt | hlt
  · exact List.pairwise_iff_getElem.mp hn i j hi hj hlt e
  · exact List.pairwise_iff_getElem.mp hn j i hj hi hlt e.symm
theorem spread_two {t : Nat} {cs bs : List Nat} (hl : bs.length = cs.length - 2) (h3 : 3 ≤ cs.length) (hup : cs.Pairwise (· < ·)) (hnd : (t :: cs ++ bs).Nodup) : (spreadF t cs bs).length = 4 * (cs.length - 2) ∧ ∀ g, g ∈ spreadF t cs bs → TwoOk (t :: cs ++ bs) g := by
  have h0 : bs ≠ [] := fun e => by rw [e] at hl; simp at hl; omega
  rw [List.nodup_append, List.nodup_cons] at hnd
  obtain ⟨⟨htc, hcn⟩, hbn, hdis⟩ := hnd
  have hTn : (turnF t bs).Nodup := by
    unfold turnF
    rw [List.nodup_cons]
    exact ⟨fun h => hdis t List.mem_cons_self t (List.mem_reverse.mp h) rfl, List.pairwise_reverse.mpr (hbn.imp fun h => h.symm)⟩
  have hTU : ∀ x, x ∈ turnF t bs → x ∈ t :: cs ++ bs ∧ x ∉ cs := fun x hx => by
    rcases List.mem_cons.mp hx with rfl | hx
    · exact ⟨by simp, htc⟩
    · have hx := List.mem_reverse.mp hx
      exact ⟨List.mem_append.mpr (.inr hx), fun h => hdis x (List.mem_cons_of_mem _ h) x hx rfl⟩
  have hD : ∀ g, g ∈ downF t cs bs → TwoOk (t :: cs ++ bs) g := fun g hg => by
    obtain ⟨j, hj, rfl⟩ := List.mem_map.mp hg
    have hj := List.mem_range.mp hj
    have a1 := getD_mem2 (xs := turnF t bs) (i := j) (by rw [turn_len]; omega)
    have a2 := getD_mem2 (xs := turnF t bs) (i := j + 1) (by rw [turn_len]; omega)
    have a3 := getD_mem2 (xs := cs) (i := cs.length - 1 - j) (by omega)
    have n1 := getD_ne (i := j) (j := j + 1) hTn (by rw [turn_len]; omega) (by rw [turn_len]; omega) (by omega)
    generalize (turnF t bs).getD j 0 = x at a1 n1
    generalize (turnF t bs).getD (j + 1) 0 = y at a2 n1
    generalize cs.getD (cs.length - 1 - j) 0 = c at a3
    obtain ⟨u1, u2⟩ := hTU x a1
    obtain ⟨v1, v2⟩ := hTU y a2
    have hxc : x ≠ c := fun e => u2 (by rw [e]; exact a3)
    have hyc : y ≠ c := fun e => v2 (by rw [e]; exact a3)
    have cU : c ∈ t :: cs ++ bs := by simp [a3]
    obtain ⟨p, q, e, hpq, h⟩ := two_2 (t := x) hyc
    refine ⟨p, q, e, hpq, ?_⟩
    rcases h with ⟨rfl, rfl⟩ | ⟨rfl, rfl⟩
    · exact ⟨n1, hxc, u1, v1, cU⟩
    · exact ⟨hxc, n1, u1, cU, v1⟩
  have hL : TwoOk (t :: cs ++ bs) (lastF t cs bs) := by
    have a1 := getD_mem2 (xs := turnF t bs) (i := bs.length) (by rw [turn_len]; omega)
    obtain ⟨u1, u2⟩ := hTU _ a1
    match cs, h3 with
    | c0 :: c1 :: cr, _ =>
      refine ⟨c0, c1, rfl, (List.pairwise_cons.mp hup).1 c1 List.mem_cons_self, fun e => u2 (by rw [← e]; exact List.mem_cons_self), fun e => u2 (by rw [← e]; exact List.mem_cons_of_mem _ List.mem_cons_self), u1, by simp, by simp⟩
  unfold spreadF
  rw [if_neg h0]
  constructor
  · simp only [List.length_append, List.length_reverse, List.length_drop, List.length_cons, List.length_nil, down_len]
    have := List.length_pos_iff.mpr h0
    omega
  · intro g hg
    simp only [List.mem_append, List.mem_reverse, List.mem_cons, List.not_mem_nil, or_false] at hg
    rcases hg with ((((h | h) | h) | h) | h) | h
    · exact hD g h
    · rw [h]; exact hL
    · exact hD g h
    · exact hD g (List.mem_of_mem_drop h)
    · rw [h]; exact hL
    · exact hD g (List.mem_of_mem_drop h)
end Br

/-! ### a def that takes the rest of its arguments; cases of other forms; data in a match -/
namespace Br
open PySem PySem.Spec PyProof.Rows L2
def StarB (fd : FuncData) (ps : List Str) (pv : Str) : Prop := ∀ us rest : List Value, us.length = ps.length → bindArgs fd ⟨us ++ rest, []⟩ = (newTuple rest >>= fun t => pure (ps.zip us ++ [(pv, t)]))
def spStar (n : Nat) (sp : Sp) : Sp := fun vs H Q E => ∃ ws rest, vs = ws ++ rest ∧ ws.length = n ∧ rest.length ≤ sizeLine ∧ ∀ p, H p = Option.none → sp (ws ++ [V.ref p]) (L2.upd H p (.tup rest)) Q E
section
variable {P : Program} {w : World} {K : PySem.W.Frag} {mg : Str → Option Value} {base : Heap}
theorem star_ok {x qual : Str} {st : Stmt} {f : Addr} {fd : FuncData} {N ps : List Str} {pv : Str} {k : Nat} {sp : Sp} (F : Fun K x qual st f fd) (B : StarB fd ps pv) (S : FnScope N (ps ++ [pv]) (defScope st))
    (hbody : ∀ (cdv : Value) (A : Around) (outer : List Env) (s : Shared) (H : Hp) (vs : List V) (Q : VK) (E : XK), Room k (A.deeper (envOfC qual (defScope st) s.heap.objs.size f cdv)) → sp vs H Q E →
      ∃ t, PSs (cxOf CX0 P w K mg base N qual (defScope st) f cdv A outer s H E).nox (defBody st) t ∧ t { nx := fun _ H' => Q .non H', rt := Q } (start N vs) H) : FnR P w K mg base CX0 (k + 1) f (spStar ps.length sp) := by
  obtain ⟨oc, od, kV, doc, pm, an, cdv, ct, osl, rfl, lk, hcd⟩ := F.ex
  refine StX.fn_star lk hcd S StX.cxUp_none B fun A outer s H vs Q E hr hsp => ?_
  obtain ⟨t, h, q⟩ := hbody cdv A outer s H vs Q E hr hsp
  exact ⟨t, h.nox, q⟩
end
def tCallR (sp : Sp) (E : XK) (t : TA) : TE := fun σ H Q => t σ H fun vs H1 => sp vs H1 Q E
theorem x_callR {sp : Sp} {E : XK} {t : TA} {σ : L2.St} {H : Hp} {Q : VK} (h : t σ H fun vs H1 => sp vs H1 Q E) : tCallR sp E t σ H Q := h
section
variable {X : Cx}
theorem pe_callR {CX : CXT} {k : Nat} {f : Addr} {sp : Sp} {E : XK} {x : Str} {e : Expr} {es : List Expr} {t : TA} {p pos : Pos} (F : FnR X.prog X.w X.K X.mg X.base CX k f sp) (hr : Room k X.A) (hk : PySem.W.keepIn X.K (.ref f) = true) (hg : Gl X x) (hm : X.mg x = some (.ref f)) (hx : Passes CX X E)
    (ha : PA X (e :: es) t) (hdb : (x == ("__debug__" : Str)) = false := by decide) (he : starEach (e :: es) X.env = (false, eval e X.env) :: starEach es X.env := by rfl) (hpl : (backTo pos (starEach es X.env)).any (·.1) = false := by rfl) :
    PE X (.Call (.Name x p) (e :: es) [] pos) (tCallR sp E t) := by
  refine ⟨fun pins s σ H Q I h => ?_⟩
  refine wpAny_Call_Name_kw (ld_glob I hg hm ?_ hdb)
  refine PySem.W.callWith_K (h₀ := X.base) I.ok.mod.kin hk (thn (ha.run pos pins s σ H _ I h) fun us s1 ⟨vs, H1, I1, r, q⟩ => ⟨I1.kIn, ?_⟩) he hpl
  exact wpAny_call (run_fnR F hr hx I1 r q)
/-- a tuple of n parts, whatever they are -/
def tSeqA (K : PySem.W.Frag) (n : Nat) (is : List (Option Nat)) (body : TS) (rest : V → TS) : V → TS := fun v D σ H => ∃ (a : Addr) (xs : List V), v = .ref a ∧ SqT K H a xs ∧
  ((xs.length ≠ n ∧ rest v D σ H) ∨ (xs.length = n ∧ body D (bindS is xs σ) H))
theorem pcs_tup {n : Nat} {p3 : Pos} {ps : List Pattern} {is : List (Option Nat)} {body : List Stmt} {rest : List MatchCase} {tb : TS} {tr : V → TS} (hc : X.calm = true) (hp : PCap X ps is) (hb : PSs X body tb) (hr : PCs X rest tr) (hn : ps.length = n := by rfl)
    (hs : ps.findIdx? (·.isStar) = none := by rfl) (hw : (ps.all fun p => p.isWildcard || (p.isStar && p.names.isEmpty)) = false := by rfl) :
    PCs X (⟨.MatchSequence ps p3, none, body⟩ :: rest) (tSeqA X.K n is tb tr) := by
  refine ⟨fun first pins s σ H D v u I rv h => ?_⟩
  obtain ⟨a, xs, rfl, hx, h⟩ := h
  cases (show u = Value.ref a from rv)
  obtain ⟨its, ri, ht, hz⟩ := I.tuple hx
  have hl := ri.length
  have hfit : ((its.toArray.size : Nat) : Int) < 2 ^ 63 := by
    have h1 : its.length ≤ sizeLine := by rw [← hl]; exact hz
    have h2 : sizeLine < 2 ^ 63 := by decide
    have h3 : its.toArray.size < 2 ^ 63 := Nat.lt_of_le_of_lt (by simpa using h1) h2
    omega
  rcases h with ⟨hne, q⟩ | ⟨hxl, q⟩
  · refine wpAny_matchCases_cons (matchSeq_tuple_miss ht hfit (by simp; omega) ?_ hs hw)
    exact hr.run false pins _ σ H D (.ref a) _ (I.tok _) rfl q
  · have sz : its.toArray.size = ps.length := by simp at hxl ⊢; omega
    refine wpAny_matchCases_cons (matchSeq_tuple_hit ht hfit (by simpa using sz) ?_ hs hw)
    rw [show ps.length = its.toArray.size from sz.symm]
    refine unpackItems_tuple (I.ok.hd hc) ht fun h' hk => ?_
    have I2 : Inv X pins σ H { s with heap := h', toks := s.toks + 1 + 1 } := I.kept fun b o e => hk b o (Nat.ne_of_lt (Heap.lt_size e)) e
    refine each_caps hp.caps (by simpa using sz) ?_
    refine thn (hp.run pins _ σ H xs its I2 ri (by simpa using sz)) fun _ s4 I4 => ?_
    exact hb.run pins s4 _ H D I4 q
/-- any value, by a name -/
def tNameC (i : Nat) (body : TS) : V → TS := fun v D σ H => body D (σ.set i (some v)) H
theorem pcs_name {i : Nat} {x : Str} {pos : Pos} {body : List Stmt} {rest : List MatchCase} {t : TS} (hN : X.N.Nodup) (hi : X.N[i]? = some x) (hx : Loc X.env.scope x) (hb : PSs X body t) (hf : X.fn x = true ∨ X.env.scope.names.lookup x = some .local := by first | exact .inl rfl | exact .inr rfl) :
    PCs X (⟨.MatchAs none (some x) pos, none, body⟩ :: rest) (tNameC i t) :=
  ⟨fun _ pins s σ H D v u I r h => wpAny_matchCases_cons (wpAny_matchPattern_Capture (wpAny_assignInOrder_more (wpAny_bindName (store_ok I hN hi hx r (fun s' I' => wpAny_assignInOrder_none (hb.run pins s' _ H D I' h)) hf))))⟩
end
section
variable {σ : L2.St} {H : Hp} {D : Ends} {K : PySem.W.Frag} {v : V} {t : V → TS}
theorem x_caseA {n : Nat} {is : List (Option Nat)} {body : TS} {a : Addr} {xs : List V} (ha : SqT K H a xs) (hl : xs.length = n) (h : body D (bindS is xs σ) H) : tSeqA K n is body t (.ref a) D σ H := ⟨a, xs, rfl, ha, .inr ⟨hl, h⟩⟩
theorem x_caseAN {n : Nat} {is : List (Option Nat)} {body : TS} {a : Addr} {xs : List V} (ha : SqT K H a xs) (hl : xs.length ≠ n) (h : t (.ref a) D σ H) : tSeqA K n is body t (.ref a) D σ H := ⟨a, xs, rfl, ha, .inl ⟨hl, h⟩⟩
theorem x_nameC {i : Nat} {body : TS} (h : body D (σ.set i (some v)) H) : tNameC i body v D σ H := h
end
/-! data that may be compared -/
def Sh (e : PyData) : Prop := e.canLay0 = true ∧ e.depth ≤ 60
theorem Sh.shaped {e : PyData} (h : Sh e) : SeqAt.shaped e = true := by
  unfold SeqAt.shaped
  rw [h.1, Bool.true_and]
  exact decide_eq_true (by have := h.2; omega)
theorem canLayAll_mem : ∀ {es : List PyData}, PyData.canLayAll0 es = true ↔ ∀ e, e ∈ es → e.canLay0 = true
  | [] => ⟨fun _ e h => by simp at h, fun _ => rfl⟩
  | x :: es => by
    show (PyData.canLay0 x && PyData.canLayAll0 es) = true ↔ _
    rw [Bool.and_eq_true, canLayAll_mem (es := es)]
    exact ⟨fun h e he => (List.mem_cons.mp he).elim (fun e1 => by rw [e1]; exact h.1) (h.2 e), fun h => ⟨h x List.mem_cons_self, fun e he => h e (List.mem_cons_of_mem _ he)⟩⟩
theorem depthAll_mem : ∀ {es : List PyData} {n : Nat}, PyData.depthAll es ≤ n ↔ ∀ e, e ∈ es → e.depth ≤ n
  | [], n => ⟨fun _ e h => by simp at h, fun _ => by show PyData.depthAll [] ≤ n; rw [PyData.depthAll]; exact Nat.zero_le _⟩
  | x :: es, n => by
    have e : PyData.depthAll (x :: es) = max x.depth (PyData.depthAll es) := by rw [PyData.depthAll]
    rw [e, Nat.max_le, depthAll_mem (es := es)]
    exact ⟨fun h y hy => (List.mem_cons.mp hy).elim (fun e1 => by rw [e1]; exact h.1) (h.2 y), fun h => ⟨h x List.mem_cons_self, fun y hy => h y (List.mem_cons_of_mem _ hy)⟩⟩
/-- so deep at most -/
def ShN (n : Nat) (e : PyData) : Prop := e.canLay0 = true ∧ e.depth ≤ n
theorem ShN.sh {n : Nat} {e : PyData} (h : ShN n e) (hn : n ≤ 60) : Sh e := ⟨h.1, Nat.le_trans h.2 hn⟩
theorem ShN.mono {n m : Nat} {e : PyData} (h : ShN n e) (hn : n ≤ m) : ShN m e := ⟨h.1, Nat.le_trans h.2 hn⟩
theorem ShN.tup {n : Nat} {es : List PyData} (h : ∀ e, e ∈ es → ShN n e) : ShN (n + 1) (.tuple es) := by
  constructor
  · show PyData.canLayAll0 es = true
    exact canLayAll_mem.mpr fun e he => (h e he).1
  · rw [PyData.depth]
    have := depthAll_mem.mpr fun e he => (h e he).2
    omega
theorem ShN.lst {n : Nat} {es : List PyData} (h : ∀ e, e ∈ es → ShN n e) : ShN (n + 1) (.list es) := by
  constructor
  · show PyData.canLayAll0 es = true
    exact canLayAll_mem.mpr fun e he => (h e he).1
  · rw [PyData.depth]
    have := depthAll_mem.mpr fun e he => (h e he).2
    omega
theorem ShN.of_tup {n : Nat} {es : List PyData} (h : ShN (n + 1) (.tuple es)) : ∀ e, e ∈ es → ShN n e := fun e he => by
  obtain ⟨h1, h2⟩ := h
  have h1 : PyData.canLayAll0 es = true := h1
  rw [PyData.depth] at h2
  exact ⟨canLayAll_mem.mp h1 e he, depthAll_mem.mp (by omega) e he⟩
theorem Sh.of_tup {es : List PyData} (h : Sh (.tuple es)) : ∀ e, e ∈ es → Sh e := fun e he => by
  obtain ⟨h1, h2⟩ := h
  have h1 : PyData.canLayAll0 es = true := h1
  rw [PyData.depth] at h2
  exact ⟨canLayAll_mem.mp h1 e he, (depthAll_mem (n := 60)).mp (by omega) e he⟩
theorem ShN.int {n : Nat} {i : Int} : ShN n (.int i) := ⟨rfl, by rw [PyData.depth]; exact Nat.zero_le _⟩
theorem ShN.bl {n : Nat} {i : Bool} : ShN n (.bool i) := ⟨rfl, by rw [PyData.depth]; exact Nat.zero_le _⟩
theorem ShN.non {n : Nat} : ShN n .none := ⟨rfl, by rw [PyData.depth]; exact Nat.zero_le _⟩
theorem ShN.str {n : Nat} {x : Str} (h : PyData.strOk x = true) : ShN n (.str x) := ⟨h, by rw [PyData.depth]; exact Nat.zero_le _⟩
mutual
theorem DAt.dp {K : PySem.W.Frag} {d : Addr} {H : Hp} : ∀ (e : PyData) {v : V}, DAt d H v e → Dp K H v e
  | .none, _, h => by cases h; exact .non
  | .bool b, _, h => by cases h; exact .bl b
  | .int i, _, h => by cases h; exact .int i
  | .str x, _, h => by cases h; exact .str x
  | .list ds, _, h => by
    cases h with
    | lst hd h hs => exact .lst (sq_of h) (DAts.dp ds hs)
  | .tuple ds, _, h => by
    cases h with
    | tup h hs => exact .tup (st_of h) (DAts.dp ds hs)
  | .dict _, _, h => by cases h
theorem DAts.dp {K : PySem.W.Frag} {d : Addr} {H : Hp} : ∀ (es : List PyData) {vs : List V}, DAts d H vs es → DpAll K H vs es
  | [], _, h => by cases h; exact .nil
  | e :: es, _, h => by
    cases h with
    | cons h hs => exact .cons (DAt.dp e h) (DAts.dp es hs)
end
/-- does it begin with the word and have so many parts -/
def wordAt (es : List PyData) (n : Nat) (word : Str) : Bool := match es with
  | .str w :: er => decide (er.length + 1 = n) && decide (w = word)
  | _ => false
theorem eqv_str {e : PyData} {w : Str} : PyData.eqv e (.str w) = match e with | .str x => decide (x = w) | _ => false := by
  cases e with
  | str x => rw [PyData.eqv]; first | rfl | simp
  | none => rw [PyData.eqv]
  | bool b => rw [PyData.eqv]
  | int i => rw [PyData.eqv]
  | list xs => rw [PyData.eqv]
  | tuple xs => rw [PyData.eqv]
  | dict xs => rw [PyData.eqv]
theorem x_caseD {σ : L2.St} {H : Hp} {D : Ends} {K : PySem.W.Frag} {t : V → TS} {d a : Addr} {xs : List V} {es : List PyData} {n : Nat} {word : Str} {is : List (Option Nat)} {body : TS} (ha : SqT K H a xs) (hs : DAts d H xs es) (hsh : ∀ e, e ∈ es → Sh e) (hw : PyData.strOk word = true) (n0 : 0 < n)
    (h1 : ∀ (y : V) (ys : List V) (er : List PyData), xs = y :: ys → es = .str word :: er → er.length + 1 = n → DAts d H ys er → body D (bindS is ys σ) H) (h0 : wordAt es n word = false → t (.ref a) D σ H) : tSeqW K (rEqD K) n word is body t (.ref a) D σ H := by
  have hlen := hs.len
  refine ⟨a, xs, rfl, ha, ?_⟩
  by_cases hl : es.length = n
  · cases hs with
    | nil => simp at hl; omega
    | cons h hs =>
      rename_i y ys e er
      refine .inr ⟨y, ys, rfl, by rw [hlen]; exact hl, e, .str word, DAt.dp e h, .str word, (hsh e List.mem_cons_self).shaped, Sh.shaped ⟨hw, by rw [PyData.depth]; exact Nat.zero_le _⟩, _, rfl, ?_⟩
      rw [eqv_str]
      cases e with
      | str x =>
        show if decide (x = word) = true then _ else _
        by_cases hx : x = word
        · subst hx
          rw [if_pos (decide_eq_true rfl)]
          exact h1 y ys er rfl rfl hl hs
        · rw [if_neg (by rw [decide_eq_false hx]; decide)]
          refine h0 ?_
          show (decide _ && decide (x = word)) = false
          rw [decide_eq_false hx, Bool.and_false]
      | none => exact iteF (h0 rfl)
      | bool b => exact iteF (h0 rfl)
      | int i => exact iteF (h0 rfl)
      | list xs => exact iteF (h0 rfl)
      | tuple xs => exact iteF (h0 rfl)
      | dict xs => exact iteF (h0 rfl)
  · refine .inl ⟨by rw [hlen]; exact hl, h0 ?_⟩
    cases es with
    | nil => rfl
    | cons e er =>
      cases e with
      | str x =>
        show (decide (er.length + 1 = n) && _) = false
        rw [decide_eq_false (show ¬ er.length + 1 = n from hl), Bool.false_and]
      | _ => rfl
theorem v_str {a b : Str} : decide (V.str a = V.str b) = decide (a = b) := decide_eq_decide.mpr ⟨fun h => V.str.inj h, fun h => h ▸ rfl⟩
theorem x_EqS {i j : Str} {H : Hp} {Q : VK} (q : Q (.bl (decide (i = j))) H) : rEq (.str i) (.str j) H Q := ⟨rfl, v_str ▸ q⟩
theorem x_NeS {i j : Str} {H : Hp} {Q : VK} (q : Q (.bl (!decide (i = j))) H) : rNe (.str i) (.str j) H Q := ⟨rfl, by rw [v_str]; exact q⟩
end Br

/-! ### enumerate of a tuple -/
namespace Br
open PySem PySem.Spec PyProof.Rows L2
def IteT (K : PySem.W.Frag) (a : Addr) : It :=
  ⟨fun i H => ∃ (xs : List V) (x : V), SqT K H a xs ∧ xs[i]? = some x, fun i H v H' => ∃ T x, v = .ref T ∧ H T = none ∧ H' = upd H T (.tup [.int (i : Nat), x]) ∧ ∀ xs, SqT K H a xs → xs[i]? = some x, fun i H => ∃ xs : List V, SqT K H a xs ∧ xs.length = i⟩
theorem turn_enumT {P : Program} {w : World} {K : PySem.W.Frag} {elts : List Expr} {kk : Nat} {tpos : Pos} (a e it : Addr) :
    Turn P w K (.Tuple elts kk tpos) (IteT K a) [e, it] e (fun i h => (∃ old, IsEnum h e it ((i : Nat) : Int) old) ∧ h.IsTupleIter it a i ∧ e ≠ it ∧ e ≠ a) where
  mem := by simp
  obj := fun i h st b hb => by
    obtain ⟨⟨old, he⟩, ⟨o, ho, hc, hd⟩, _⟩ := st
    have e' : b = e ∨ b = it := by simpa using hb
    rcases e' with z | z
    · rw [z]; exact ⟨_, he, fun v q => nomatch q⟩
    · rw [z]; exact ⟨o, ho, fun v q => by rw [hd] at q; cases q⟩
  keep := fun i h h' st k => let ⟨⟨old, he⟩, hi, hne⟩ := st; ⟨⟨old, k e (by simp) _ he⟩, hi.at fun o q => k it (by simp) o q, hne⟩
  item := by
    intro X hP hw hK hc i pins s σ H E I hf st hg
    subst hP hw hK
    obtain ⟨⟨old, he⟩, hit, hne, hea⟩ := st
    obtain ⟨xs, x, hq, hx⟩ := hg
    obtain ⟨its, rv, p, hz⟩ := I.tuple hq
    obtain ⟨u, hu, ru⟩ := rv.get hx
    have hel : e < s.heap.objs.size := Heap.lt_size he
    have hil : it < s.heap.objs.size := by obtain ⟨_, q, _⟩ := hit; exact Heap.lt_size q
    have hd : X.A.in1.handled = none := I.ok.hd hc
    have nb : a ≠ it := fun e => by
      obtain ⟨o, eo, co, _⟩ := hit
      obtain ⟨o', eo', co', _⟩ := p
      rw [e, eo] at eo'
      cases eo'
      rw [co] at co'
      simp at co'
    have nx := rv.length
    have hlt : i < its.toArray.size := by
      have := (List.getElem?_eq_some_iff.mp hx).1
      simp
      omega
    refine wpAny_pyNext_enum_itemD (Draws.tuple hd it a nb its.toArray) he ⟨hit, p⟩ hlt hne (by simp; exact ⟨hne, hea⟩) fun x2 h' tk q2 ho hit' hT hsz hk => ?_
    have ex : x2 = u := by
      rw [List.getElem?_toArray, hu] at q2
      exact (Option.some.inj q2).symm
    subst ex
    refine ⟨_, rfl, wpAny_letOwnedTupleGo_enum (s := { s with heap := h', toks := tk + 1 }) ho fun h'' he' sb => ?_⟩
    have hT2 : h''.get? s.heap.objs.size = some { cls := .type "tuple", data := .seq #[.int i tk, x2] } := (sb.2 _ (Nat.ne_of_gt hel)).trans hT
    have new : ObjOk X.prog X.w (upd H s.heap.objs.size (.tup [.int (i : Nat), x])) h'' s.heap.objs.size (.tup [.int (i : Nat), x]) :=
      ⟨by show 2 ≤ sizeLine; decide, [.int i tk, x2], .cons ⟨_, rfl⟩ (.cons ru .nil), ⟨_, hT2, rfl, _, rfl⟩⟩
    have I1 : Inv X pins σ (upd H s.heap.objs.size (.tup [.int (i : Nat), x])) { s with heap := h'', toks := tk + 1 } :=
      I.turnedNew (ch := [e, it]) (t' := tk + 1) (fun b ob hb q => (sb.2 b (fun z => hb (by simp [z]))).trans (hk b ob (fun z => hb (by simp [z])) (fun z => hb (by simp [z])) q)) hf (Nat.le_refl _) new
    refine ⟨.ref s.heap.objs.size, _, I1, rfl, ⟨_, x, rfl, I.hok.fresh (Nat.le_refl _), rfl, fun ys hy => by rw [I.tuple_inj hy hq]; exact hx⟩, ⟨⟨x2, ?_⟩, hit'.1.at fun o q => (sb.2 it (Ne.symm hne)).trans q, hne, hea⟩, fun b hb => ?_⟩
    · have e1 : ((i + 1 : Nat) : Int) = (i : Int) + 1 := by omega
      rw [e1]; exact he'
    · have hb' : b < s.heap.objs.size := by
        have e' : b = e ∨ b = it := by simpa using hb
        rcases e' with z | z
        · rw [z]; exact hel
        · rw [z]; exact hil
      rw [upd_ne (Nat.ne_of_lt hb')]
      exact (hf b hb).1
  done := by
    intro X hP hw hK hc i pins s σ H E I hf st hg
    subst hP hw hK
    obtain ⟨⟨old, he⟩, hit, hne, hea⟩ := st
    obtain ⟨xs, hq, hx⟩ := hg
    obtain ⟨its, rv, p, hz⟩ := I.tuple hq
    obtain ⟨f0, f1, f2, f3, f4, f5⟩ := hf it (by simp)
    have hl := rv.length
    have hd : X.A.in1.handled = none := I.ok.hd hc
    have nb : a ≠ it := fun e => by
      obtain ⟨o, eo, co, _⟩ := hit
      obtain ⟨o', eo', co', _⟩ := p
      rw [e, eo] at eo'
      cases eo'
      rw [co] at co'
      simp at co'
    have hn : its.toArray.size = i := by simp; omega
    subst hn
    exact wpAny_pyNext_enum_endD (Draws.tuple hd it a nb its.toArray) he ⟨hit, p⟩ fun h' eb => ⟨rfl, I.turned (t' := s.toks) (fun b o hb q => eb b o hb q) f0 f1 f3 f4 f5⟩
  self := fun A i s Q E st h => let ⟨⟨_, he⟩, _⟩ := st; wpAny_pyIter_enum he h
set_option maxHeartbeats 1000000 in
theorem meets_enum_B0 {v : Value} {o : Obj} {H : Heap → Prop} (B : Begins v o H) :
    Meets (Builtin.«enumerate.__new__» ⟨[.type "enumerate", v], []⟩) (fun _ R s => H s.heap ∧
      R (.ok (.ret (.ref (s.heap.push o).objs.size))) { s with heap := (s.heap.push o).push { cls := .type "enumerate", data := .fields #[.none, .bool false, .ref s.heap.objs.size, rawInt 0, .none, .none] } }) :=
  .of_wp fun prog w A R s h => by
    obtain ⟨hp, g, d, tk, os⟩ := s; obtain ⟨h1, h⟩ := h
    have hsub := sub_enumerate
    have q1 : ∀ {A' : Around} {E : Value → Shared → Prop} {Q : Value → Shared → Prop}, Q (.ref hp.objs.size) ⟨hp.push o, g, d, tk, os⟩ → wpAny (model prog w) A' (pyIter v) Q E ⟨hp, g, d, tk, os⟩ :=
      fun q => B.iter prog w _ _ ⟨hp, g, d, tk, os⟩ _ h1 q
    wp_walk using q1
    refine wpAny_stack_any fun st => wpAny_pure ?_
    split
    · rename_i c _ _ _ _ _
      cases (c == Value.type "enumerate")
      · wp_walk using q1
        exact ⟨_, rfl, h⟩
      · wp_walk using q1
        exact ⟨_, rfl, h⟩
    · wp_walk using q1
      exact ⟨_, rfl, h⟩
theorem enum_begins0 {prog : Program} {w : World} {A : Around} {E : Value → Shared → Prop} {s : Shared} {v : Value} {o : Obj} {H : Heap → Prop} {Q : Value → Shared → Prop} (B : Begins v o H) (h1 : H s.heap)
    (h : ∀ h', IsEnum h' (s.heap.objs.size + 1) s.heap.objs.size 0 .none → h'.get? s.heap.objs.size = some o → h'.objs.size = s.heap.objs.size + 2 →
      (∀ b o, s.heap.get? b = some o → h'.get? b = some o) → Q (.ref (s.heap.objs.size + 1)) { s with heap := h' }) :
    wpAny (model prog w) A (call (.type "enumerate") [v]) Q E s := by
  refine callType_new F.called_enumerate (by decide) (F.typeCall_enumerate_1 _) (F.newCall_enumerate_1 _) (fun obj => F.args_object_init_2 obj _) F.entry_enumerate_new
    (meets_enum_B0 B) ⟨h1, ?_⟩
  have hz : (s.heap.push o).objs.size = s.heap.objs.size + 1 := Heap.size_push ..
  show _ ∧ _
  rw [hz]
  have he : IsEnum ((s.heap.push o).push { cls := .type "enumerate", data := .fields #[.none, .bool false, .ref s.heap.objs.size, rawInt 0, .none, .none] }) (s.heap.objs.size + 1) s.heap.objs.size 0 .none := by
    have := Heap.get?_push_size (s.heap.push o) (o := { cls := .type "enumerate", data := .fields #[.none, .bool false, .ref s.heap.objs.size, rawInt 0, .none, .none] }) rfl
    rw [hz] at this; exact this
  refine ⟨⟨_, he, rfl⟩, h _ he (Heap.get?_push_of_some _ (Heap.get?_push_size _ B.free)) (by rw [Heap.size_push, hz]) fun b o x => Heap.get?_push_of_some _ (Heap.get?_push_of_some _ x)⟩
def iEnumT (K : PySem.W.Frag) (ta : TA) : TI := fun σ H R => ta σ H fun vs H1 => ∃ a xs, vs = [.ref a] ∧ SqT K H1 a xs ∧ R (IteT K a) H1
theorem pi_enumT {X : Cx} {K2 : PySem.W.Frag} (hK : X.K = K2) {e : Expr} {ta : TA} {p pos tpos : Pos} {elts : List Expr} {kk : Nat} (hg : Gl X "enumerate") (hm : X.mg "enumerate" = none) (ha : PA X [e] ta) (hs : starEach [e] X.env = [(false, eval e X.env)] := by rfl) :
    PI X (.Tuple elts kk tpos) (.Call (.Name "enumerate" p) [e] [] pos) (iEnumT K2 ta) := by
  subst hK
  refine ⟨fun pins s σ H R I h => ?_⟩
  refine Call_ (ld_blt I hg hm boot_enumerate (PyProof.Rows.callWith_type1 (thn (ha.run pos pins s σ H _ I h) fun us s1 ⟨vs, H1, I1, r1, q1⟩ => ?_) hs rfl))
  obtain ⟨a, xs, ex, hq, q⟩ := q1
  subst ex
  cases r1 with
  | cons r rr =>
    cases rr
    cases r
    obtain ⟨its, rv, p', hz⟩ := I1.tuple hq
    have la : a < s1.heap.objs.size := by
      obtain ⟨_, e, _⟩ := id p'
      exact Heap.lt_size e
    refine enum_begins0 (begins_tuple a its.toArray) p' fun h' he hit hsz hk => wpAny_pyIter_enum he ?_
    have I2 : Inv X pins σ H1 { s1 with heap := h' } := I1.kept (t' := s1.toks) hk
    refine ⟨s1.heap.objs.size + 1, [s1.heap.objs.size + 1, s1.heap.objs.size], _, _, H1, rfl, I2, turn_enumT a (s1.heap.objs.size + 1) s1.heap.objs.size, ⟨⟨.none, he⟩, ⟨_, hit, rfl, rfl⟩, Nat.succ_ne_self _, Nat.ne_of_gt (Nat.lt_succ_of_lt la)⟩, fun b hb => ?_, q⟩
    have e' : b = s1.heap.objs.size + 1 ∨ b = s1.heap.objs.size := by simpa using hb
    have hle : s1.heap.objs.size ≤ b := by
      rcases e' with z | z
      · rw [z]; exact Nat.le_add_right _ _
      · rw [z]; exact Nat.le_refl _
    exact I1.fpOk hle (I1.hok.fresh hle)
def YEnT (xs : List V) : Nat → Hp → V → Hp → Prop := fun i H v H' => ∃ T x, v = .ref T ∧ H T = none ∧ H' = upd H T (.tup [.int (i : Nat), x]) ∧ xs[i]? = some x
theorem walk_enumT {K : PySem.W.Frag} {a : Addr} {xs : List V} : Walk (IteT K a) xs.length (fun H => SqT K H a xs) (YEnT xs) := by
  refine ⟨fun i H hi q => ⟨xs, xs[i], q, List.getElem?_eq_getElem hi⟩, fun H q => ⟨xs, q, rfl⟩, fun i H v H' hi q y => ?_⟩
  obtain ⟨T, x, e1, e2, e3, e4⟩ := y
  exact ⟨T, x, e1, e2, e3, e4 _ q⟩
/-- a comprehension over enumerate of a tuple, item by item -/
theorem x_lcEnT {K : PySem.W.Frag} {ta : TA} {te : TE} {vs : List Nat} {i j : Nat} {Q : VK} {σ : L2.St} {H : Hp} {a : Addr} {xs : List V} (f : Nat → V) (hn : ∀ R : List V → Hp → Prop, R [.ref a] H → ta σ H R) (ha : SqT K H a xs) (hl : xs.length ≤ 100000)
    (hv : ∀ x y, wipe (((wipe σ vs).set i (some x)).set j (some y)) vs = wipe σ vs) (hG : ∀ H', Same H H' → SqT K H' a xs)
    (he : ∀ (k : Nat) x H', Same H H' → xs[k]? = some x → ∀ R : VK, (∀ H2, Same H' H2 → R (f k) H2) → te (((wipe σ vs).set i (some (.int (k : Int)))).set j (some x)) H' R)
    (hd : ∀ p H', H p = none → Same H H' → H' p = some (.lst ((List.range xs.length).map f)) → Q (.ref p) H') : tLc (iEnumT K ta) (gTup K 2 (gCons (gName i) (gCons (gName j) gNil))) tYes te vs σ H Q := by
  refine x_lcI (J := IteT K a) (n := xs.length) (G := fun H => SqT K H a xs) (fun R r => hn _ ⟨a, xs, rfl, ha, r⟩) walk_enumT (fun p k H' => Same H H' ∧ H' p = some (.lst ((List.range k).map f))) (fun p hp => ⟨same_upd hp, upd_same⟩) (fun p k H' _ _ z => hG H' z.1) ?_ ?_ fun p H' hp z => hd p H' hp z.1 z.2
  · rintro p k x H' H2 hk hp ⟨hs, hl⟩ ⟨T, y, rfl, hT, rfl, hx⟩
    have sT := same_upd (o := .tup [.int (k : Nat), y]) hT
    refine x_gTup2 (st_of upd_same) ⟨hv _ _, he k y _ (hs.trans sT) hx _ fun H3 s3 => ?_⟩
    refine ⟨_, s3 _ _ (sT _ _ hl), lt_line (by simp; omega), sput ((hs.trans sT).trans s3) hp, ?_⟩
    rw [upd_same, List.range_succ, List.map_append]
    rfl
  · rintro x σ' H' R R' hr ⟨p, zs, e1, e2, e3, x1, r1, e4, x2, r2, e5, e6, h⟩
    exact ⟨p, zs, e1, e2, e3, x1, r1, e4, x2, r2, e5, e6, hr _ _ h⟩
end Br

/-! ### nodes that refer to nodes before them: Boolean sources as data -/
namespace Br
open PySem PySem.Spec PyProof.Rows L2
/-- values from left to right, each from those before it -/
def scanF {α β : Type} (f : List β → α → β) (ns : List α) : List β := ns.foldl (fun acc n => acc ++ [f acc n]) []
theorem scanF_snoc {α β : Type} {f : List β → α → β} {ns : List α} {n : α} : scanF f (ns ++ [n]) = scanF f ns ++ [f (scanF f ns) n] := by unfold scanF; rw [List.foldl_append]; rfl
theorem revRec {α : Type} {P : List α → Prop} (h0 : P []) (h1 : ∀ xs x, P xs → P (xs ++ [x])) : ∀ xs, P xs := fun xs => by
  have h : ∀ ys : List α, P ys.reverse := by
    intro ys
    induction ys with
    | nil => exact h0
    | cons y ys ih => rw [List.reverse_cons]; exact h1 _ _ ih
  have := h xs.reverse
  rw [List.reverse_reverse] at this
  exact this
theorem scanF_len {α β : Type} {f : List β → α → β} {ns : List α} : (scanF f ns).length = ns.length := by
  refine revRec (P := fun ns => (scanF f ns).length = ns.length) rfl (fun ns n ih => ?_) ns
  rw [scanF_snoc, List.length_append, List.length_append, ih]
  rfl
def isTupD : PyData → Bool
  | .tuple _ => true
  | _ => false
def nodesD : PyData → Bool
  | .tuple es => (decide (1 ≤ es.length) && decide (es.length ≤ 200)) && es.all isTupD
  | _ => false
theorem isBD_nat {i m : Nat} (h : i < m) : isBD (m : Int) (.int (i : Int)) = true := isBD_iff.mpr ⟨_, rfl, by omega, by omega⟩
theorem sh_cons {m : Nat} {e : PyData} {es : List PyData} (h : ShN m e) (hs : ∀ x, x ∈ es → ShN m x) : ∀ x, x ∈ e :: es → ShN m x := fun x hx => (List.mem_cons.mp hx).elim (fun e1 => by rw [e1]; exact h) (hs x)
theorem sh_nil {m : Nat} : ∀ x, x ∈ ([] : List PyData) → ShN m x := fun x hx => by simp at hx
theorem sh_app {m : Nat} {es fs : List PyData} (h : ∀ x, x ∈ es → ShN m x) (h2 : ∀ x, x ∈ fs → ShN m x) : ∀ x, x ∈ es ++ fs → ShN m x := fun x hx => (List.mem_append.mp hx).elim (h x) (h2 x)
theorem sh_take {m n : Nat} {es : List PyData} (h : ∀ x, x ∈ es → ShN m x) : ∀ x, x ∈ es.take n → ShN m x := fun x hx => h x (List.mem_of_mem_take hx)
theorem sh_drop {m n : Nat} {es : List PyData} (h : ∀ x, x ∈ es → ShN m x) : ∀ x, x ∈ es.drop n → ShN m x := fun x hx => h x (List.mem_of_mem_drop hx)
theorem sh_up {m k : Nat} {es : List PyData} (h : ∀ x, x ∈ es → ShN m x) (hm : m ≤ k) : ∀ x, x ∈ es → ShN k x := fun x hx => (h x hx).mono hm
/-! readings of slices and sums of tuples, the whole and the empty one included -/
theorem x_slA {K : PySem.W.Frag} {a : Addr} {xs : List V} {lo hi : Option Int} {H : Hp} {Q : VK} (hp : H a = some (.tup xs)) (q : ∀ r H', Same H H' → H' r = some (.tup (cutV xs lo hi)) → Q (.ref r) H') : rSlA K (.ref a) lo hi H Q := by
  refine ⟨a, xs, rfl, st_of hp, fun h => q a H (Same.refl _) ?_, fun _ p hn => q p _ (same_upd hn) upd_same⟩
  rw [hp]
  unfold cutV
  rw [h.1, h.2, List.drop_zero, Nat.sub_zero, List.take_length]
theorem x_catA {K : PySem.W.Frag} {a b : Addr} {xs ys : List V} {H : Hp} {Q : VK} (ha : H a = some (.tup xs)) (hb : H b = some (.tup ys)) (hl : xs.length + ys.length ≤ 1000000) (q : ∀ r H', Same H H' → H' r = some (.tup (xs ++ ys)) → Q (.ref r) H') : rCatA K (.ref a) (.ref b) H Q := by
  refine ⟨a, b, xs, ys, rfl, rfl, st_of ha, st_of hb, Nat.le_trans hl (by decide), fun h => q b H (Same.refl _) (by rw [h]; exact hb), fun _ h => q a H (Same.refl _) (by rw [h, List.append_nil]; exact ha), fun _ _ p hn => q p _ (same_upd hn) upd_same⟩
end Br

/-! ### trees of functions -/
namespace Br
open PySem PySem.Spec PyProof.Rows L2 Br.F
inductive Tn where
  | leaf (v : Int)
  | node (tb : List (List Int)) (l r : Tn)
def Tn.val : Tn → Int
  | .leaf v => v
  | .node tb l r => (tb.getD l.val.toNat []).getD r.val.toNat 0
def TnOk (n : Nat) : Tn → Prop
  | .leaf v => 0 ≤ v ∧ v < (n : Int)
  | .node tb l r => IsTab n tb ∧ tb.length = n ∧ TnOk n l ∧ TnOk n r
def Tn.size : Tn → Nat
  | .leaf _ => 1
  | .node _ l r => 1 + l.size + r.size
def Tn.dep : Tn → Nat
  | .leaf _ => 1
  | .node _ l r => max l.dep r.dep + 1
def Tn.cost (p : Int) : Tn → Int
  | .leaf _ => 1
  | .node _ l r => (p - 1) * (2 * (l.cost p + r.cost p) + 5)
def TnAt (H : Hp) : Tn → Addr → Prop
  | .leaf v, a => H a = some (.tup [.str "leaf", .int v])
  | .node tb l r, a => ∃ t x y : Addr, H a = some (.tup [.str "node", .ref t, .ref x, .ref y]) ∧ TbAt H t tb ∧ TnAt H l x ∧ TnAt H r y
theorem TnAt.tups {H H' : Hp} (s : Tups H H') : ∀ {t : Tn} {a : Addr}, TnAt H t a → TnAt H' t a
  | .leaf _, _, h => s _ _ h
  | .node _ _ _, _, ⟨t, x, y, h, ht, hl, hr⟩ => ⟨t, x, y, s _ _ h, ht.tups s, hl.tups s, hr.tups s⟩
theorem Tn.dep_pos : ∀ t : Tn, 1 ≤ t.dep
  | .leaf _ => Nat.le_refl _
  | .node _ _ _ => Nat.succ_le_succ (Nat.zero_le _)
theorem Tn.size_pos : ∀ t : Tn, 1 ≤ t.size
  | .leaf _ => Nat.le_refl _
  | .node _ l r => by show 1 ≤ 1 + l.size + r.size; omega
theorem Tn.size_dep : ∀ {t : Tn} {n : Nat}, t.dep ≤ n → t.size + 1 ≤ 2 ^ n
  | .leaf v, n, h => by
    cases n with
    | zero => exact absurd (show 1 ≤ 0 from h) (by decide)
    | succ n =>
      show 2 ≤ 2 ^ (n + 1)
      have := Nat.one_le_two_pow (n := n)
      rw [Nat.pow_succ]; omega
  | .node tb l r, n, h => by
    cases n with
    | zero => exact absurd h (by show ¬ (max l.dep r.dep + 1 ≤ 0); omega)
    | succ n =>
      have h : max l.dep r.dep + 1 ≤ n + 1 := h
      have h1 := Tn.size_dep (t := l) (n := n) (by omega)
      have h2 := Tn.size_dep (t := r) (n := n) (by omega)
      show 1 + l.size + r.size + 1 ≤ 2 ^ (n + 1)
      rw [Nat.pow_succ]; omega
theorem tab_get {n : Nat} {tb : List (List Int)} (h : IsTab n tb) (hl : tb.length = n) {x y : Int} (x0 : 0 ≤ x) (x1 : x < (n : Int)) (y0 : 0 ≤ y) (y1 : y < (n : Int)) :
    ∃ row, tb[x.toNat]? = some row ∧ row.length = n ∧ row[y.toNat]? = some ((tb.getD x.toNat []).getD y.toNat 0) ∧ 0 ≤ (tb.getD x.toNat []).getD y.toNat 0 ∧ (tb.getD x.toNat []).getD y.toNat 0 < (n : Int) := by
  have hx : x.toNat < tb.length := by omega
  obtain ⟨hr, hg⟩ := h.rows _ _ (List.getElem?_eq_getElem hx)
  have hy : y.toNat < (tb[x.toNat]).length := by omega
  have e : tb.getD x.toNat [] = tb[x.toNat] := by rw [List.getD_eq_getElem?_getD, List.getElem?_eq_getElem hx]; rfl
  have e2 : (tb[x.toNat]).getD y.toNat 0 = (tb[x.toNat])[y.toNat] := by rw [List.getD_eq_getElem?_getD, List.getElem?_eq_getElem hy]; rfl
  refine ⟨_, List.getElem?_eq_getElem hx, by omega, ?_, ?_⟩
  · rw [e, e2]; exact List.getElem?_eq_getElem hy
  · rw [e, e2]; exact hg _ (List.getElem_mem hy)
theorem TnOk.val {n : Nat} : ∀ {t : Tn}, TnOk n t → 0 ≤ t.val ∧ t.val < (n : Int)
  | .leaf _, h => h
  | .node _ _ _, ⟨h, hl, a, b⟩ => by
    obtain ⟨_, _, _, _, h0, h1⟩ := tab_get h hl a.val.1 a.val.2 b.val.1 b.val.2
    exact ⟨h0, h1⟩
theorem TnOk.pos {n : Nat} : ∀ {t : Tn}, TnOk n t → 1 ≤ n
  | .leaf v, h => by
    have h : 0 ≤ v ∧ v < (n : Int) := h
    omega
  | .node _ _ _, ⟨_, _, a, _⟩ => a.pos
theorem Tn.cost_pos {p : Int} (hp : 2 ≤ p) : ∀ t : Tn, 1 ≤ t.cost p
  | .leaf _ => Int.le_refl _
  | .node _ l r => by
    have h1 := Tn.cost_pos hp l
    have h2 := Tn.cost_pos hp r
    have h3 : 1 * (2 * (l.cost p + r.cost p) + 5) ≤ (p - 1) * (2 * (l.cost p + r.cost p) + 5) := Int.mul_le_mul_of_nonneg_right (by omega) (by omega)
    show 1 ≤ (p - 1) * (2 * (l.cost p + r.cost p) + 5)
    omega
/-- the parts and the table exchanged -/
def flipT (n : Nat) (tb : List (List Int)) : List (List Int) := (List.range n).map fun j => (List.range n).map fun i => (tb.getD i []).getD j 0
def Tn.turn (n : Nat) : Tn → Tn
  | .leaf v => .leaf v
  | .node tb l r => .node (flipT n tb) (r.turn n) (l.turn n)
theorem flipT_at {n i j : Nat} {tb : List (List Int)} (hi : i < n) (hj : j < n) : ((flipT n tb).getD j []).getD i 0 = (tb.getD i []).getD j 0 := by
  unfold flipT
  simp [List.getD_eq_getElem?_getD, List.getElem?_map, List.getElem?_range, hi, hj]
theorem flipT_tab {n : Nat} {tb : List (List Int)} (h : IsTab n tb) (hl : tb.length = n) : IsTab n (flipT n tb) ∧ (flipT n tb).length = n := by
  have hf : (flipT n tb).length = n := by unfold flipT; simp
  refine ⟨⟨by have := h.pos; omega, by omega, fun k r e => ?_⟩, hf⟩
  unfold flipT at e
  rw [List.getElem?_map] at e
  cases ek : (List.range n)[k]? with
  | none => rw [ek] at e; cases e
  | some j =>
    rw [ek] at e
    cases e
    have hj : j < n := by have := List.mem_of_getElem? ek; simpa using this
    refine ⟨by rw [hf]; simp, fun z hz => ?_⟩
    obtain ⟨i, hi, rfl⟩ := List.mem_map.mp hz
    have hi : i < n := by simpa using hi
    obtain ⟨_, _, _, _, h0, h1⟩ := tab_get h hl (x := (i : Int)) (y := (j : Int)) (by omega) (by omega) (by omega) (by omega)
    exact ⟨by simpa using h0, by simpa using h1⟩
theorem turn_ok {n : Nat} : ∀ {t : Tn}, TnOk n t → TnOk n (t.turn n) ∧ (t.turn n).val = t.val ∧ (t.turn n).dep = t.dep
  | .leaf _, h => ⟨h, rfl, rfl⟩
  | .node tb l r, ⟨h, hl, a, b⟩ => by
    obtain ⟨l1, l2, l3⟩ := turn_ok a
    obtain ⟨r1, r2, r3⟩ := turn_ok b
    obtain ⟨f1, f2⟩ := flipT_tab h hl
    refine ⟨⟨f1, f2, r1, l1⟩, ?_, ?_⟩
    · show ((flipT n tb).getD (r.turn n).val.toNat []).getD (l.turn n).val.toNat 0 = (tb.getD l.val.toNat []).getD r.val.toNat 0
      rw [l2, r2]
      have := a.val
      have := b.val
      exact flipT_at (by omega) (by omega)
    · show max (r.turn n).dep (l.turn n).dep + 1 = max l.dep r.dep + 1
      omega
/-! the parts that wait -/
def sizesT : List (Tn × Nat) → Nat
  | [] => 0
  | x :: xs => x.1.size + sizesT xs
theorem sizesT_app {xs ys : List (Tn × Nat)} : sizesT (xs ++ ys) = sizesT xs + sizesT ys := by
  induction xs with
  | nil => simp [sizesT]
  | cons x xs ih => simp [sizesT, ih]; omega
end Br
namespace Br
open PySem PySem.Spec PyProof.Rows L2 Br.F
def WtAt (H : Hp) : List Addr → List (Tn × Nat) → Prop
  | [], [] => True
  | b :: bs, x :: xs => (∃ c : Addr, H b = some (.tup [.ref c, .int (x.2 : Int)]) ∧ TnAt H x.1 c) ∧ WtAt H bs xs
  | [], _ :: _ => False
  | _ :: _, [] => False
theorem WtAt.tups {H H' : Hp} (s : Tups H H') : ∀ {as : List Addr} {ws : List (Tn × Nat)}, WtAt H as ws → WtAt H' as ws
  | [], [], _ => trivial
  | _ :: _, _ :: _, ⟨⟨c, h, t⟩, hs⟩ => ⟨⟨c, s _ _ h, t.tups s⟩, hs.tups s⟩
  | [], _ :: _, h => h.elim
  | _ :: _, [], h => h.elim
theorem WtAt.app {H : Hp} : ∀ {as bs : List Addr} {ws xs : List (Tn × Nat)}, WtAt H as ws → WtAt H bs xs → WtAt H (as ++ bs) (ws ++ xs)
  | [], _, [], _, _, h => h
  | _ :: _, _, _ :: _, _, ⟨h1, hs⟩, h => ⟨h1, hs.app h⟩
  | [], _, _ :: _, _, h, _ => h.elim
  | _ :: _, _, [], _, h, _ => h.elim
theorem WtAt.len {H : Hp} : ∀ {as : List Addr} {ws : List (Tn × Nat)}, WtAt H as ws → as.length = ws.length
  | [], [], _ => rfl
  | _ :: _, _ :: _, ⟨_, hs⟩ => congrArg (· + 1) hs.len
  | [], _ :: _, h => h.elim
  | _ :: _, [], h => h.elim
theorem WtAt.last {H : Hp} : ∀ {as : List Addr} {ws : List (Tn × Nat)}, WtAt H as ws → as ≠ [] →
    ∃ as' ws' b x c, as = as' ++ [b] ∧ ws = ws' ++ [x] ∧ WtAt H as' ws' ∧ H b = some (.tup [.ref c, .int (x.2 : Int)]) ∧ TnAt H x.1 c
  | [], _, _, h => absurd rfl h
  | _ :: _, [], h, _ => h.elim
  | [b], [x], ⟨⟨c, h, t⟩, _⟩, _ => ⟨[], [], b, x, c, rfl, rfl, trivial, h, t⟩
  | [_], _ :: _ :: _, ⟨_, h⟩, _ => h.elim
  | b :: b2 :: bs, x :: xs, ⟨h1, hs⟩, _ => by
    obtain ⟨as', ws', b', x', c, e1, e2, h2, h3, h4⟩ := WtAt.last hs (by simp)
    exact ⟨b :: as', x :: ws', b', x', c, by rw [e1]; rfl, by rw [e2]; rfl, ⟨h1, h2⟩, h3, h4⟩
theorem sizesT_len : ∀ ws : List (Tn × Nat), ws.length ≤ sizesT ws
  | [] => Nat.le_refl _
  | x :: xs => by
    have := sizesT_len xs
    have := x.1.size_pos
    show xs.length + 1 ≤ x.1.size + sizesT xs
    omega
end Br

/-! ### trees as data, wrong ones included (k37) -/
namespace Br
open PySem PySem.Spec PyProof.Rows L2 Br.F
def rowTD (size : Nat) (n : Int) : PyData → Bool
  | .tuple es => decide (es.length = size) && es.all (isBD n)
  | _ => false
def tableD (n : Int) : PyData → Bool
  | .tuple rs => (decide (1 ≤ rs.length) && decide ((rs.length : Int) ≤ n)) && rs.all (rowTD rs.length n)
  | _ => false
def lenTD : PyData → Int
  | .tuple rs => (rs.length : Int)
  | _ => -1
def partD (n : Int) : PyData → Bool
  | .tuple [.str w, v] => if w = "leaf" then isBD n v else false
  | .tuple [.str w, tb, _, _] => if w = "node" then tableD n tb && decide (lenTD tb = n) else false
  | _ => false
/-- the two parts of a node, the last one first -/
def kidsD : PyData → List PyData
  | .tuple [.str w, _, l, r] => if w = "node" then [r, l] else []
  | _ => []
def rowV (r : List Int) : PyData := .tuple (r.map PyData.int)
def tbV (tb : List (List Int)) : PyData := .tuple (tb.map rowV)
def tnD : Tn → PyData
  | .leaf v => .tuple [.str "leaf", .int v]
  | .node tb l r => .tuple [.str "node", tbV tb, tnD l, tnD r]
theorem ints_of {n : Nat} : ∀ {es : List PyData}, es.all (isBD (n : Int)) = true → ∃ zs : List Int, es = zs.map PyData.int ∧ Rg 0 n zs
  | [], _ => ⟨[], rfl, .nil⟩
  | e :: es, h => by
    rw [List.all_cons, Bool.and_eq_true] at h
    obtain ⟨i, rfl, h0, h1⟩ := isBD_iff.mp h.1
    obtain ⟨zs, rfl, hz⟩ := ints_of h.2
    refine ⟨i :: zs, rfl, fun z hz2 => ?_⟩
    rcases List.mem_cons.mp hz2 with rfl | hz2
    · exact ⟨h0, h1⟩
    · exact hz z hz2
theorem ints_all {n : Nat} {zs : List Int} (h : Rg 0 n zs) : (zs.map PyData.int).all (isBD (n : Int)) = true := by
  rw [List.all_eq_true]
  intro e he
  obtain ⟨z, hz, rfl⟩ := List.mem_map.mp he
  exact isBD_iff.mpr ⟨z, rfl, (h z hz).1, (h z hz).2⟩
theorem rows_of {n k : Nat} : ∀ {rs : List PyData}, rs.all (rowTD k (n : Int)) = true → ∃ tb : List (List Int), rs = tb.map rowV ∧ ∀ r, r ∈ tb → r.length = k ∧ Rg 0 n r
  | [], _ => ⟨[], rfl, fun r h => by simp at h⟩
  | e :: es, h => by
    rw [List.all_cons, Bool.and_eq_true] at h
    obtain ⟨tb, rfl, hz⟩ := rows_of h.2
    obtain ⟨r, rfl, hl, hr⟩ : ∃ r : List Int, e = rowV r ∧ r.length = k ∧ Rg 0 n r := by
      cases e with
      | tuple xs =>
        have h1 : (decide (xs.length = k) && xs.all (isBD (n : Int))) = true := h.1
        rw [Bool.and_eq_true] at h1
        obtain ⟨zs, rfl, hz⟩ := ints_of h1.2
        have := of_decide_eq_true h1.1
        rw [List.length_map] at this
        exact ⟨zs, rfl, this, hz⟩
      | _ => cases h.1
    refine ⟨r :: tb, rfl, fun z hz2 => ?_⟩
    rcases List.mem_cons.mp hz2 with rfl | hz2
    · exact ⟨hl, hr⟩
    · exact hz z hz2
theorem rows_all {n k : Nat} {tb : List (List Int)} (h : ∀ r, r ∈ tb → r.length = k ∧ Rg 0 n r) : (tb.map rowV).all (rowTD k (n : Int)) = true := by
  rw [List.all_eq_true]
  intro e he
  obtain ⟨r, hr, rfl⟩ := List.mem_map.mp he
  show (decide ((r.map PyData.int).length = k) && (r.map PyData.int).all (isBD (n : Int))) = true
  rw [List.length_map, decide_eq_true (h r hr).1, ints_all (h r hr).2]
  rfl
theorem tableD_iff {n : Nat} {e : PyData} : tableD (n : Int) e = true ↔ ∃ tb, e = tbV tb ∧ IsTab n tb := by
  constructor
  · intro h
    cases e with
    | tuple rs =>
      have h : ((decide (1 ≤ rs.length) && decide ((rs.length : Int) ≤ (n : Int))) && rs.all (rowTD rs.length (n : Int))) = true := h
      rw [Bool.and_eq_true, Bool.and_eq_true] at h
      obtain ⟨⟨h1, h2⟩, h3⟩ := h
      obtain ⟨tb, rfl, h4⟩ := rows_of h3
      have h1 := of_decide_eq_true h1
      have h2 := of_decide_eq_true h2
      rw [List.length_map] at h1 h2 h4
      exact ⟨tb, rfl, ⟨h1, by omega, fun i r hr => h4 r (List.mem_of_getElem? hr)⟩⟩
    | _ => cases h
  · rintro ⟨tb, rfl, h⟩
    show ((decide (1 ≤ (tb.map rowV).length) && decide (((tb.map rowV).length : Int) ≤ (n : Int))) && (tb.map rowV).all (rowTD (tb.map rowV).length (n : Int))) = true
    rw [List.length_map, decide_eq_true h.pos, decide_eq_true (show (tb.length : Int) ≤ (n : Int) by have := h.le; omega), rows_all fun r hr => ?_]
    · rfl
    · obtain ⟨i, hi⟩ := List.mem_iff_getElem?.mp hr
      exact h.rows i r hi
theorem partD_leaf {n : Int} {w : Str} {v : PyData} : partD n (.tuple [.str w, v]) = if w = "leaf" then isBD n v else false := rfl
theorem partD_node {n : Int} {w : Str} {t l r : PyData} : partD n (.tuple [.str w, t, l, r]) = if w = "node" then tableD n t && decide (lenTD t = n) else false := rfl
/-- what a part that may stand is -/
theorem partD_iff {n : Nat} {e : PyData} : partD (n : Int) e = true ↔ (∃ v : Int, e = .tuple [.str "leaf", .int v] ∧ 0 ≤ v ∧ v < (n : Int)) ∨ (∃ (tb : List (List Int)) (l r : PyData), e = .tuple [.str "node", tbV tb, l, r] ∧ IsTab n tb ∧ tb.length = n) := by
  constructor
  · intro h
    match e, h with
    | .tuple [.str w, v], h =>
      rw [partD_leaf] at h
      by_cases hw : w = "leaf"
      · rw [if_pos hw] at h
        obtain ⟨i, rfl, h0, h1⟩ := isBD_iff.mp h
        exact .inl ⟨i, by rw [hw], h0, h1⟩
      · rw [if_neg hw] at h; cases h
    | .tuple [.str w, t, l, r], h =>
      rw [partD_node] at h
      by_cases hw : w = "node"
      · rw [if_pos hw, Bool.and_eq_true] at h
        obtain ⟨tb, rfl, ht⟩ := tableD_iff.mp h.1
        have h2 : (((tb.map rowV).length : Nat) : Int) = (n : Int) := of_decide_eq_true h.2
        rw [List.length_map] at h2
        exact .inr ⟨tb, l, r, by rw [hw], ht, by omega⟩
      · rw [if_neg hw] at h; cases h
  · rintro (⟨v, rfl, h0, h1⟩ | ⟨tb, l, r, rfl, ht, hl⟩)
    · rw [partD_leaf, if_pos rfl]
      exact isBD_iff.mpr ⟨v, rfl, h0, h1⟩
    · rw [partD_node, if_pos rfl, tableD_iff.mpr ⟨tb, rfl, ht⟩]
      exact decide_eq_true (by show (((tb.map rowV).length : Nat) : Int) = _; rw [List.length_map, hl])
/-- the walk over the parts that wait, the last one first -/
def walkD (n : Int) : Nat → List (PyData × Nat) → Nat → Bool
  | 0, _, _ => false
  | _ + 1, [], _ => true
  | f + 1, (e, d) :: st, met => if 200 < met + 1 ∨ 40 < d ∨ partD n e = false then false else walkD n f ((kidsD e).map (fun x => (x, d + 1)) ++ st) (met + 1)
def stD (ts : List (Tn × Nat)) : List (PyData × Nat) := ts.map fun x => (tnD x.1, x.2)
theorem walkD_iff {n : Nat} : ∀ {f : Nat} {st : List (PyData × Nat)} {met : Nat}, met + f = 201 → met ≤ 200 → (walkD (n : Int) f st met = true ↔ ∃ ts : List (Tn × Nat), st = stD ts ∧ (∀ x, x ∈ ts → TnOk n x.1 ∧ x.2 + x.1.dep ≤ 41) ∧ met + sizesT ts ≤ 200)
  | 0, _, _, h, h2 => by omega
  | f + 1, [], met, h, h2 => by
    constructor
    · intro _
      exact ⟨[], rfl, fun x h => by simp at h, by show met + 0 ≤ 200; omega⟩
    · intro _; rfl
  | f + 1, (e, d) :: st, met, h, h2 => by
    have hw : walkD (n : Int) (f + 1) ((e, d) :: st) met = if 200 < met + 1 ∨ 40 < d ∨ partD (n : Int) e = false then false else walkD (n : Int) f ((kidsD e).map (fun x => (x, d + 1)) ++ st) (met + 1) := rfl
    rw [hw]
    constructor
    · intro hh
      by_cases hc : 200 < met + 1 ∨ 40 < d ∨ partD (n : Int) e = false
      · rw [if_pos hc] at hh; cases hh
      · rw [if_neg hc] at hh
        have c1 : ¬ 200 < met + 1 := fun h => hc (.inl h)
        have c2 : ¬ 40 < d := fun h => hc (.inr (.inl h))
        have c3 : partD (n : Int) e = true := by
          cases hp : partD (n : Int) e with
          | true => rfl
          | false => exact absurd (.inr (.inr hp)) hc
        obtain ⟨ts, e1, ok, hs⟩ := (walkD_iff (by omega) (by omega)).mp hh
        rcases partD_iff.mp c3 with ⟨v, rfl, v0, v1⟩ | ⟨tb, l, r, rfl, ht, hl⟩
        · have e1 : st = stD ts := e1
          refine ⟨(.leaf v, d) :: ts, by rw [e1]; rfl, fun x hx => ?_, ?_⟩
          · rcases List.mem_cons.mp hx with rfl | hx
            · exact ⟨⟨v0, v1⟩, by show d + 1 ≤ 41; omega⟩
            · exact ok x hx
          · show met + (1 + sizesT ts) ≤ 200; omega
        · have e1 : (r, d + 1) :: (l, d + 1) :: st = stD ts := e1
          match ts, e1, ok, hs with
          | [x], e1, _, _ => exact absurd (List.cons.inj e1).2 (List.cons_ne_nil _ _)
          | x :: y :: us, e1, ok, hs =>
            obtain ⟨e2, e3⟩ := List.cons.inj e1
            obtain ⟨e4, e5⟩ := List.cons.inj e3
            obtain ⟨r1, d1⟩ := x
            obtain ⟨l1, d2⟩ := y
            obtain ⟨rfl, rfl⟩ := Prod.mk.inj e2
            obtain ⟨rfl, e6⟩ := Prod.mk.inj e4
            have e6 : d + 1 = d2 := e6
            subst e6
            obtain ⟨okr, dr⟩ := ok (r1, d + 1) List.mem_cons_self
            obtain ⟨okl, dl⟩ := ok (l1, d + 1) (List.mem_cons_of_mem _ List.mem_cons_self)
            have dr : d + 1 + r1.dep ≤ 41 := dr
            have dl : d + 1 + l1.dep ≤ 41 := dl
            have hs : met + 1 + (r1.size + (l1.size + sizesT us)) ≤ 200 := hs
            refine ⟨(.node tb l1 r1, d) :: us, by rw [e5]; rfl, fun x hx => ?_, ?_⟩
            · rcases List.mem_cons.mp hx with rfl | hx
              · exact ⟨⟨ht, hl, okl, okr⟩, by show d + (max l1.dep r1.dep + 1) ≤ 41; omega⟩
              · exact ok x (List.mem_cons_of_mem _ (List.mem_cons_of_mem _ hx))
            · show met + ((1 + l1.size + r1.size) + sizesT us) ≤ 200; omega
    · rintro ⟨ts, e1, ok, hs⟩
      match ts, e1, ok, hs with
      | (t, d1) :: us, e1, ok, hs =>
        obtain ⟨e2, rfl⟩ := List.cons.inj e1
        obtain ⟨rfl, e3⟩ := Prod.mk.inj e2
        have e3 : d = d1 := e3
        subst e3
        obtain ⟨okt, dt⟩ := ok (t, d) List.mem_cons_self
        have dt : d + t.dep ≤ 41 := dt
        have hs : met + (t.size + sizesT us) ≤ 200 := hs
        have p1 := t.size_pos
        have p2 := t.dep_pos
        have okv : ∀ x, x ∈ us → TnOk n x.1 ∧ x.2 + x.1.dep ≤ 41 := fun x hx => ok x (List.mem_cons_of_mem _ hx)
        cases t with
        | leaf v =>
          have okt : 0 ≤ v ∧ v < (n : Int) := okt
          have hp : partD (n : Int) (tnD (.leaf v)) = true := partD_iff.mpr (.inl ⟨v, rfl, okt.1, okt.2⟩)
          rw [if_neg (by rw [hp]; rintro (h | h | h) <;> first | omega | cases h)]
          refine (walkD_iff (by omega) (by omega)).mpr ⟨us, rfl, okv, ?_⟩
          have hs : met + (1 + sizesT us) ≤ 200 := hs
          omega
        | node tb l r =>
          obtain ⟨o1, o2, o3, o4⟩ := okt
          have hp : partD (n : Int) (tnD (.node tb l r)) = true := partD_iff.mpr (.inr ⟨tb, tnD l, tnD r, rfl, o1, o2⟩)
          rw [if_neg (by rw [hp]; rintro (h | h | h) <;> first | omega | cases h)]
          have dt : d + (max l.dep r.dep + 1) ≤ 41 := dt
          have hs : met + ((1 + l.size + r.size) + sizesT us) ≤ 200 := hs
          refine (walkD_iff (by omega) (by omega)).mpr ⟨(r, d + 1) :: (l, d + 1) :: us, rfl, fun x hx => ?_, ?_⟩
          · rcases List.mem_cons.mp hx with rfl | hx
            · exact ⟨o4, by show d + 1 + r.dep ≤ 41; omega⟩
            rcases List.mem_cons.mp hx with rfl | hx
            · exact ⟨o3, by show d + 1 + l.dep ≤ 41; omega⟩
            · exact okv x hx
          · show met + 1 + (r.size + (l.size + sizesT us)) ≤ 200; omega
/-- what _is_tree answers -/
def treeD (n : Int) (e : PyData) : Bool := walkD n 201 [(e, 1)] 0
theorem treeD_iff {n : Nat} {e : PyData} : treeD (n : Int) e = true ↔ ∃ t, e = tnD t ∧ TnOk n t ∧ t.dep ≤ 40 ∧ t.size ≤ 200 := by
  unfold treeD
  rw [walkD_iff rfl (by omega)]
  constructor
  · rintro ⟨ts, e1, ok, hs⟩
    match ts, e1, ok, hs with
    | [(t, d)], e1, ok, hs =>
      obtain ⟨e2, _⟩ := List.cons.inj e1
      obtain ⟨rfl, e3⟩ := Prod.mk.inj e2
      have e3 : 1 = d := e3
      subst e3
      obtain ⟨okt, dt⟩ := ok (t, 1) List.mem_cons_self
      have dt : 1 + t.dep ≤ 41 := dt
      have hs : 0 + (t.size + 0) ≤ 200 := hs
      exact ⟨t, rfl, okt, by omega, by omega⟩
    | [], e1, _, _ => cases e1
    | _ :: _ :: _, e1, _, _ => exact absurd (List.cons.inj e1).2.symm (List.cons_ne_nil _ _)
  · rintro ⟨t, rfl, ok, hd, hs⟩
    refine ⟨[(t, 1)], rfl, fun x hx => ?_, by show 0 + (t.size + 0) ≤ 200; omega⟩
    rw [List.mem_singleton.mp hx]
    exact ⟨ok, by show 1 + t.dep ≤ 41; omega⟩
theorem partD_no {n : Int} {es : List PyData} (h1 : wordAt es 2 "leaf" = false) (h2 : wordAt es 4 "node" = false) : partD n (.tuple es) = false := by
  unfold partD
  split
  · next w v heq =>
    obtain rfl := PyData.tuple.inj heq
    have n1 : (true && decide (w = "leaf")) = false := h1
    rw [Bool.true_and, decide_eq_false_iff_not] at n1
    rw [if_neg n1]
  · next w t l r heq =>
    obtain rfl := PyData.tuple.inj heq
    have n1 : (true && decide (w = "node")) = false := h2
    rw [Bool.true_and, decide_eq_false_iff_not] at n1
    rw [if_neg n1]
  · rfl
/-- the parts that wait, in the order of the list -/
def WtE (d : Addr) (H H' : Hp) (as : List Addr) (ws : List (PyData × Nat)) : Prop := as.length = ws.length ∧ ∀ (i : Nat) (x : PyData × Nat) (b : Addr), ws[i]? = some x → as[i]? = some b → ∃ v, H' b = some (.tup [v, .int ((x.2 : Nat) : Int)]) ∧ DAt d H v x.1
theorem WtE.tups {d : Addr} {H H1 H2 : Hp} {as : List Addr} {ws : List (PyData × Nat)} (h : WtE d H H1 as ws) (t : Tups H1 H2) : WtE d H H2 as ws := ⟨h.1, fun i x b h1 h2 => by obtain ⟨v, g1, g2⟩ := h.2 i x b h1 h2; exact ⟨v, t _ _ g1, g2⟩⟩
theorem WtE.snoc {d : Addr} {H H1 : Hp} {as : List Addr} {ws : List (PyData × Nat)} {b : Addr} {v : V} {e : PyData} {k : Nat} (h : WtE d H H1 as ws) (hb : H1 b = some (.tup [v, .int (k : Int)])) (hv : DAt d H v e) : WtE d H H1 (as ++ [b]) (ws ++ [(e, k)]) := by
  refine ⟨by rw [List.length_append, List.length_append, h.1]; rfl, fun i x c h1 h2 => ?_⟩
  by_cases hi : i < ws.length
  · rw [List.getElem?_append_left hi] at h1
    rw [List.getElem?_append_left (by rw [h.1]; exact hi)] at h2
    exact h.2 i x c h1 h2
  · rw [List.getElem?_append_right (by omega)] at h1
    rw [List.getElem?_append_right (by rw [h.1]; omega), h.1] at h2
    have h0 : i - ws.length = 0 := by
      have := (List.getElem?_eq_some_iff.mp h1).1
      simp at this
      omega
    rw [h0] at h1 h2
    obtain rfl := Option.some.inj h1
    obtain rfl := Option.some.inj h2
    exact ⟨v, hb, hv⟩
theorem WtE.last {d : Addr} {H H1 : Hp} {as : List Addr} {ws : List (PyData × Nat)} (h : WtE d H H1 as ws) (h0 : as ≠ []) : ∃ (as' : List Addr) (ws' : List (PyData × Nat)) (b : Addr) (e : PyData) (k : Nat) (v : V), as = as' ++ [b] ∧ ws = ws' ++ [(e, k)] ∧ WtE d H H1 as' ws' ∧ H1 b = some (.tup [v, .int (k : Int)]) ∧ DAt d H v e := by
  have hl := h.1
  have ha : as = as.dropLast ++ [as.getLast h0] := (List.dropLast_concat_getLast h0).symm
  have h1 : ws ≠ [] := fun e => h0 (List.length_eq_zero_iff.mp (by rw [hl, e]; rfl))
  have hw : ws = ws.dropLast ++ [ws.getLast h1] := (List.dropLast_concat_getLast h1).symm
  generalize as.getLast h0 = b at ha
  generalize ws.getLast h1 = x at hw
  generalize as.dropLast = as' at ha
  generalize ws.dropLast = ws' at hw
  subst ha hw
  rw [List.length_append, List.length_append] at hl
  have hl2 : as'.length = ws'.length := by have h3 : as'.length + 1 = ws'.length + 1 := hl; omega
  obtain ⟨e, k⟩ := x
  obtain ⟨v, g1, g2⟩ := h.2 ws'.length (e, k) b (by simp) (by rw [← hl2]; simp)
  refine ⟨as', ws', b, e, k, v, rfl, rfl, ⟨hl2, fun i x c h1 h2 => ?_⟩, g1, g2⟩
  have hi := (List.getElem?_eq_some_iff.mp h1).1
  exact h.2 i x c (by rw [List.getElem?_append_left hi]; exact h1) (by rw [List.getElem?_append_left (by omega)]; exact h2)
theorem row_sh {n : Nat} {r : List Int} : ShN (n + 1) (rowV r) := ShN.tup fun e he => by
  obtain ⟨z, _, rfl⟩ := List.mem_map.mp he
  exact .int
theorem tb_sh {n : Nat} {tb : List (List Int)} : ShN (n + 2) (tbV tb) := ShN.tup fun e he => by
  obtain ⟨r, _, rfl⟩ := List.mem_map.mp he
  exact row_sh
theorem tn_sh : ∀ t : Tn, ShN (t.dep + 2) (tnD t)
  | .leaf v => ShN.tup fun e he => by
    simp only [List.mem_cons, List.not_mem_nil, or_false] at he
    rcases he with rfl | rfl
    · exact .str (by decide +kernel)
    · exact .int
  | .node tb l r => ShN.tup (n := max l.dep r.dep + 2) fun e he => by
    simp only [List.mem_cons, List.not_mem_nil, or_false] at he
    rcases he with rfl | rfl | rfl | rfl
    · exact .str (by decide +kernel)
    · exact tb_sh
    · exact (tn_sh l).mono (by omega)
    · exact (tn_sh r).mono (by omega)
end Br











namespace Br
open PySem PySem.Spec PyProof.Rows L2
def topS (i : Nat) : Stmt := PySem.Challenge.pw_brimful_k37_trees_are_checked.main.body.getD i (.Pass ⟨0, 0, 0, 0⟩)
abbrev s_is_below : Stmt := topS 11
abbrev N_is_below : List Str := ["value", "bound"]
theorem sc_is_below : FnScope N_is_below ["value", "bound"] (defScope s_is_below) := ⟨rfl, rfl, rfl, by decide +kernel, rfl, by decide +kernel, by decide +kernel⟩
abbrev s_is_prime : Stmt := topS 13
abbrev N_is_prime : List Str := ["n", "divisor"]
theorem sc_is_prime : FnScope N_is_prime ["n"] (defScope s_is_prime) := ⟨rfl, rfl, rfl, by decide +kernel, rfl, by decide +kernel, by decide +kernel⟩
abbrev s_is_table : Stmt := topS 22
abbrev N_is_table : List Str := ["table", "modulus", "row"]
theorem sc_is_table : FnScope N_is_table ["table", "modulus"] (defScope s_is_table) := ⟨rfl, rfl, rfl, by decide +kernel, rfl, by decide +kernel, by decide +kernel⟩
abbrev s_is_row : Stmt := topS 23
abbrev N_is_row : List Str := ["row", "size", "modulus", "value"]
theorem sc_is_row : FnScope N_is_row ["row", "size", "modulus"] (defScope s_is_row) := ⟨rfl, rfl, rfl, by decide +kernel, rfl, by decide +kernel, by decide +kernel⟩
abbrev s_check_tree : Stmt := topS 38
abbrev N_check_tree : List Str := ["tree", "values"]
theorem sc_check_tree : FnScope N_check_tree ["tree", "values"] (defScope s_check_tree) := ⟨rfl, rfl, rfl, by decide +kernel, rfl, by decide +kernel, by decide +kernel⟩
abbrev s_check_values : Stmt := topS 39
abbrev N_check_values : List Str := ["values"]
theorem sc_check_values : FnScope N_check_values ["values"] (defScope s_check_values) := ⟨rfl, rfl, rfl, by decide +kernel, rfl, by decide +kernel, by decide +kernel⟩
abbrev s_is_tree : Stmt := topS 40
abbrev N_is_tree : List Str := ["tree", "values", "met", "waiting", "part", "depth"]
theorem sc_is_tree : FnScope N_is_tree ["tree", "values"] (defScope s_is_tree) := ⟨rfl, rfl, rfl, by decide +kernel, rfl, by decide +kernel, by decide +kernel⟩
abbrev s_is_part : Stmt := topS 41
abbrev N_is_part : List Str := ["part", "values", "v", "table"]
theorem sc_is_part : FnScope N_is_part ["part", "values"] (defScope s_is_part) := ⟨rfl, rfl, rfl, by decide +kernel, rfl, by decide +kernel, by decide +kernel⟩
abbrev s_tree_value : Stmt := topS 42
abbrev N_tree_value : List Str := ["tree", "values"]
theorem sc_tree_value : FnScope N_tree_value ["tree", "values"] (defScope s_tree_value) := ⟨rfl, rfl, rfl, by decide +kernel, rfl, by decide +kernel, by decide +kernel⟩
abbrev s_prime_of : Stmt := topS 44
abbrev N_prime_of : List Str := ["values", "prime"]
theorem sc_prime_of : FnScope N_prime_of ["values"] (defScope s_prime_of) := ⟨rfl, rfl, rfl, by decide +kernel, rfl, by decide +kernel, by decide +kernel⟩
abbrev s_tree_cost : Stmt := topS 45
abbrev N_tree_cost : List Str := ["tree", "values"]
theorem sc_tree_cost : FnScope N_tree_cost ["tree", "values"] (defScope s_tree_cost) := ⟨rfl, rfl, rfl, by decide +kernel, rfl, by decide +kernel, by decide +kernel⟩
abbrev s_compile_tree : Stmt := topS 47
abbrev N_compile_tree : List Str := ["tree", "values", "prime"]
theorem sc_compile_tree : FnScope N_compile_tree ["tree", "values"] (defScope s_compile_tree) := ⟨rfl, rfl, rfl, by decide +kernel, rfl, by decide +kernel, by decide +kernel⟩
abbrev s_law_mixed : Stmt := topS 51
abbrev N_law_mixed : List Str := ["number", "k", "step"]
theorem sc_law_mixed : FnScope N_law_mixed ["number", "k"] (defScope s_law_mixed) := ⟨rfl, rfl, rfl, by decide +kernel, rfl, by decide +kernel, by decide +kernel⟩
abbrev s_law_numbers : Stmt := topS 52
abbrev N_law_numbers : List Str := ["script", "numbers", "cell", "rest", "k"]
theorem sc_law_numbers : FnScope N_law_numbers ["script"] (defScope s_law_numbers) := ⟨rfl, rfl, rfl, by decide +kernel, rfl, by decide +kernel, by decide +kernel⟩
abbrev s_law_draw : Stmt := topS 53
abbrev N_law_draw : List Str := ["draws", "at", "first"]
theorem sc_law_draw : FnScope N_law_draw ["draws"] (defScope s_law_draw) := ⟨rfl, rfl, rfl, by decide +kernel, rfl, by decide +kernel, by decide +kernel⟩
abbrev s_law_table : Stmt := topS 54
abbrev N_law_table : List Str := ["draws", "values", "kind", "rows", "i", "row", "j"]
theorem sc_law_table : FnScope N_law_table ["draws", "values"] (defScope s_law_table) := ⟨rfl, rfl, rfl, by decide +kernel, rfl, by decide +kernel, by decide +kernel⟩
abbrev s_law_tree : Stmt := topS 55
abbrev N_law_tree : List Str := ["draws", "values", "deep", "left", "first"]
theorem sc_law_tree : FnScope N_law_tree ["draws", "values", "deep", "left"] (defScope s_law_tree) := ⟨rfl, rfl, rfl, by decide +kernel, rfl, by decide +kernel, by decide +kernel⟩
abbrev s_law_bad_number : Stmt := topS 56
abbrev N_law_bad_number : List Str := ["draws", "values"]
theorem sc_law_bad_number : FnScope N_law_bad_number ["draws", "values"] (defScope s_law_bad_number) := ⟨rfl, rfl, rfl, by decide +kernel, rfl, by decide +kernel, by decide +kernel⟩
abbrev s_law_bad_table : Stmt := topS 57
abbrev N_law_bad_table : List Str := ["draws", "table", "values", "rows", "pick", "at", "row", "x"]
theorem sc_law_bad_table : FnScope N_law_bad_table ["draws", "table", "values"] (defScope s_law_bad_table) := ⟨rfl, rfl, rfl, by decide +kernel, rfl, by decide +kernel, by decide +kernel⟩
abbrev s_law_spoilt : Stmt := topS 58
abbrev N_law_spoilt : List Str := ["draws", "tree", "values", "pick", "part", "spoilt"]
theorem sc_law_spoilt : FnScope N_law_spoilt ["draws", "tree", "values"] (defScope s_law_spoilt) := ⟨rfl, rfl, rfl, by decide +kernel, rfl, by decide +kernel, by decide +kernel⟩
abbrev s_law_comb : Stmt := topS 59
abbrev N_law_comb : List Str := ["levels", "tree", "k"]
theorem sc_law_comb : FnScope N_law_comb ["levels"] (defScope s_law_comb) := ⟨rfl, rfl, rfl, by decide +kernel, rfl, by decide +kernel, by decide +kernel⟩
abbrev s_law_broad : Stmt := topS 60
abbrev N_law_broad : List Str := ["leaves", "k", "row", "turn", "pairs"]
theorem sc_law_broad : FnScope N_law_broad ["leaves"] (defScope s_law_broad) := ⟨rfl, rfl, rfl, by decide +kernel, rfl, by decide +kernel, by decide +kernel⟩
abbrev s_law_refused : Stmt := topS 61
abbrev N_law_refused : List Str := ["tree", "values", "which", "e"]
theorem sc_law_refused : FnScope N_law_refused ["tree", "values", "which"] (defScope s_law_refused) := ⟨rfl, rfl, rfl, by decide +kernel, rfl, by decide +kernel, by decide +kernel⟩
abbrev s_law_given : Stmt := topS 62
abbrev N_law_given : List Str := ["draws", "values", "tree", "pick", "levels", "leaves"]
theorem sc_law_given : FnScope N_law_given ["draws"] (defScope s_law_given) := ⟨rfl, rfl, rfl, by decide +kernel, rfl, by decide +kernel, by decide +kernel⟩
abbrev s_law : Stmt := topS 63
abbrev N_law : List Str := ["script", "draws", "given", "which"]
theorem sc_law : FnScope N_law ["script"] (defScope s_law) := ⟨rfl, rfl, rfl, by decide +kernel, rfl, by decide +kernel, by decide +kernel⟩
structure Txt (K : PySem.W.Frag) (mg : Str → Option Value) where
  a_is_below : Addr
  fd_is_below : FuncData
  F_is_below : Fun K "is_below" "is_below" s_is_below a_is_below fd_is_below
  b_is_below : Binds K fd_is_below ["value", "bound"] []
  g_is_below : mg "is_below" = some (.ref a_is_below)
  a_is_prime : Addr
  fd_is_prime : FuncData
  F_is_prime : Fun K "is_prime" "is_prime" s_is_prime a_is_prime fd_is_prime
  b_is_prime : Binds K fd_is_prime ["n"] []
  g_is_prime : mg "is_prime" = some (.ref a_is_prime)
  a_is_table : Addr
  fd_is_table : FuncData
  F_is_table : Fun K "is_table" "is_table" s_is_table a_is_table fd_is_table
  b_is_table : Binds K fd_is_table ["table", "modulus"] []
  g_is_table : mg "is_table" = some (.ref a_is_table)
  a_is_row : Addr
  fd_is_row : FuncData
  F_is_row : Fun K "_is_row" "_is_row" s_is_row a_is_row fd_is_row
  b_is_row : Binds K fd_is_row ["row", "size", "modulus"] []
  g_is_row : mg "_is_row" = some (.ref a_is_row)
  a_check_tree : Addr
  fd_check_tree : FuncData
  F_check_tree : Fun K "check_tree" "check_tree" s_check_tree a_check_tree fd_check_tree
  b_check_tree : Binds K fd_check_tree ["tree", "values"] []
  g_check_tree : mg "check_tree" = some (.ref a_check_tree)
  a_check_values : Addr
  fd_check_values : FuncData
  F_check_values : Fun K "_check_values" "_check_values" s_check_values a_check_values fd_check_values
  b_check_values : Binds K fd_check_values ["values"] []
  g_check_values : mg "_check_values" = some (.ref a_check_values)
  a_is_tree : Addr
  fd_is_tree : FuncData
  F_is_tree : Fun K "_is_tree" "_is_tree" s_is_tree a_is_tree fd_is_tree
  b_is_tree : Binds K fd_is_tree ["tree", "values"] []
  g_is_tree : mg "_is_tree" = some (.ref a_is_tree)
  a_is_part : Addr
  fd_is_part : FuncData
  F_is_part : Fun K "_is_part" "_is_part" s_is_part a_is_part fd_is_part
  b_is_part : Binds K fd_is_part ["part", "values"] []
  g_is_part : mg "_is_part" = some (.ref a_is_part)
  a_tree_value : Addr
  fd_tree_value : FuncData
  F_tree_value : Fun K "tree_value" "tree_value" s_tree_value a_tree_value fd_tree_value
  b_tree_value : Binds K fd_tree_value ["tree", "values"] []
  g_tree_value : mg "tree_value" = some (.ref a_tree_value)
  a_prime_of : Addr
  fd_prime_of : FuncData
  F_prime_of : Fun K "prime_of" "prime_of" s_prime_of a_prime_of fd_prime_of
  b_prime_of : Binds K fd_prime_of ["values"] []
  g_prime_of : mg "prime_of" = some (.ref a_prime_of)
  a_tree_cost : Addr
  fd_tree_cost : FuncData
  F_tree_cost : Fun K "tree_cost" "tree_cost" s_tree_cost a_tree_cost fd_tree_cost
  b_tree_cost : Binds K fd_tree_cost ["tree", "values"] []
  g_tree_cost : mg "tree_cost" = some (.ref a_tree_cost)
  a_compile_tree : Addr
  fd_compile_tree : FuncData
  F_compile_tree : Fun K "compile_tree" "compile_tree" s_compile_tree a_compile_tree fd_compile_tree
  b_compile_tree : Binds K fd_compile_tree ["tree", "values"] []
  g_compile_tree : mg "compile_tree" = some (.ref a_compile_tree)
  a_law_mixed : Addr
  fd_law_mixed : FuncData
  F_law_mixed : Fun K "_law_mixed" "_law_mixed" s_law_mixed a_law_mixed fd_law_mixed
  b_law_mixed : Binds K fd_law_mixed ["number", "k"] []
  g_law_mixed : mg "_law_mixed" = some (.ref a_law_mixed)
  a_law_numbers : Addr
  fd_law_numbers : FuncData
  F_law_numbers : Fun K "_law_numbers" "_law_numbers" s_law_numbers a_law_numbers fd_law_numbers
  b_law_numbers : Binds K fd_law_numbers ["script"] []
  g_law_numbers : mg "_law_numbers" = some (.ref a_law_numbers)
  a_law_draw : Addr
  fd_law_draw : FuncData
  F_law_draw : Fun K "_law_draw" "_law_draw" s_law_draw a_law_draw fd_law_draw
  b_law_draw : Binds K fd_law_draw ["draws"] []
  g_law_draw : mg "_law_draw" = some (.ref a_law_draw)
  a_law_table : Addr
  fd_law_table : FuncData
  F_law_table : Fun K "_law_table" "_law_table" s_law_table a_law_table fd_law_table
  b_law_table : Binds K fd_law_table ["draws", "values"] []
  g_law_table : mg "_law_table" = some (.ref a_law_table)
  a_law_tree : Addr
  fd_law_tree : FuncData
  F_law_tree : Fun K "_law_tree" "_law_tree" s_law_tree a_law_tree fd_law_tree
  b_law_tree : Binds K fd_law_tree ["draws", "values", "deep", "left"] []
  g_law_tree : mg "_law_tree" = some (.ref a_law_tree)
  a_law_bad_number : Addr
  fd_law_bad_number : FuncData
  F_law_bad_number : Fun K "_law_bad_number" "_law_bad_number" s_law_bad_number a_law_bad_number fd_law_bad_number
  b_law_bad_number : Binds K fd_law_bad_number ["draws", "values"] []
  g_law_bad_number : mg "_law_bad_number" = some (.ref a_law_bad_number)
  a_law_bad_table : Addr
  fd_law_bad_table : FuncData
  F_law_bad_table : Fun K "_law_bad_table" "_law_bad_table" s_law_bad_table a_law_bad_table fd_law_bad_table
  b_law_bad_table : Binds K fd_law_bad_table ["draws", "table", "values"] []
  g_law_bad_table : mg "_law_bad_table" = some (.ref a_law_bad_table)
  a_law_spoilt : Addr
  fd_law_spoilt : FuncData
  F_law_spoilt : Fun K "_law_spoilt" "_law_spoilt" s_law_spoilt a_law_spoilt fd_law_spoilt
  b_law_spoilt : Binds K fd_law_spoilt ["draws", "tree", "values"] []
  g_law_spoilt : mg "_law_spoilt" = some (.ref a_law_spoilt)
  a_law_comb : Addr
  fd_law_comb : FuncData
  F_law_comb : Fun K "_law_comb" "_law_comb" s_law_comb a_law_comb fd_law_comb
  b_law_comb : Binds K fd_law_comb ["levels"] []
  g_law_comb : mg "_law_comb" = some (.ref a_law_comb)
  a_law_broad : Addr
  fd_law_broad : FuncData
  F_law_broad : Fun K "_law_broad" "_law_broad" s_law_broad a_law_broad fd_law_broad
  b_law_broad : Binds K fd_law_broad ["leaves"] []
  g_law_broad : mg "_law_broad" = some (.ref a_law_broad)
  a_law_refused : Addr
  fd_law_refused : FuncData
  F_law_refused : Fun K "_law_refused" "_law_refused" s_law_refused a_law_refused fd_law_refused
  b_law_refused : Binds K fd_law_refused ["tree", "values", "which"] []
  g_law_refused : mg "_law_refused" = some (.ref a_law_refused)
  a_law_given : Addr
  fd_law_given : FuncData
  F_law_given : Fun K "_law_given" "_law_given" s_law_given a_law_given fd_law_given
  b_law_given : Binds K fd_law_given ["draws"] []
  g_law_given : mg "_law_given" = some (.ref a_law_given)
  a_law : Addr
  fd_law : FuncData
  F_law : Fun K "law" "law" s_law a_law fd_law
  b_law : Binds K fd_law ["script"] []
  g_law : mg "law" = some (.ref a_law)
  E_BrimfulError : Addr
  gE_BrimfulError : mg "BrimfulError" = some (.ref E_BrimfulError)
  xE_BrimfulError : PySem.W.excIn K E_BrimfulError [.type "ValueError", .type "Exception", .type "BaseException", .type "object"] "ValueError.__new__" = true
  kE_BrimfulError : PySem.W.keepIn K (.ref E_BrimfulError) = true
  bE_BrimfulError : PySem.W.subIn K (.ref E_BrimfulError) (.type "BaseException") = some true
  tE_BrimfulError : PySem.W.typeIn K (.ref E_BrimfulError) = some (.type "type")
  dE_BrimfulError : PySem.W.hasDictIn K E_BrimfulError = true
  cE_BrimfulError : L2.ExcC K E_BrimfulError
  E_BadMemory : Addr
  gE_BadMemory : mg "BadMemory" = some (.ref E_BadMemory)
  xE_BadMemory : PySem.W.excIn K E_BadMemory [.type "ValueError", .type "Exception", .type "BaseException", .type "object"] "ValueError.__new__" = true
  kE_BadMemory : PySem.W.keepIn K (.ref E_BadMemory) = true
  bE_BadMemory : PySem.W.subIn K (.ref E_BadMemory) (.type "BaseException") = some true
  tE_BadMemory : PySem.W.typeIn K (.ref E_BadMemory) = some (.type "type")
  dE_BadMemory : PySem.W.hasDictIn K E_BadMemory = true
  cE_BadMemory : L2.ExcC K E_BadMemory
  E_BadSource : Addr
  gE_BadSource : mg "BadSource" = some (.ref E_BadSource)
  xE_BadSource : PySem.W.excIn K E_BadSource [.type "ValueError", .type "Exception", .type "BaseException", .type "object"] "ValueError.__new__" = true
  kE_BadSource : PySem.W.keepIn K (.ref E_BadSource) = true
  bE_BadSource : PySem.W.subIn K (.ref E_BadSource) (.type "BaseException") = some true
  tE_BadSource : PySem.W.typeIn K (.ref E_BadSource) = some (.type "type")
  dE_BadSource : PySem.W.hasDictIn K E_BadSource = true
  cE_BadSource : L2.ExcC K E_BadSource
  E_BadStep : Addr
  gE_BadStep : mg "BadStep" = some (.ref E_BadStep)
  xE_BadStep : PySem.W.excIn K E_BadStep [.type "ValueError", .type "Exception", .type "BaseException", .type "object"] "ValueError.__new__" = true
  kE_BadStep : PySem.W.keepIn K (.ref E_BadStep) = true
  bE_BadStep : PySem.W.subIn K (.ref E_BadStep) (.type "BaseException") = some true
  tE_BadStep : PySem.W.typeIn K (.ref E_BadStep) = some (.type "type")
  dE_BadStep : PySem.W.hasDictIn K E_BadStep = true
  cE_BadStep : L2.ExcC K E_BadStep
  E_BadTree : Addr
  gE_BadTree : mg "BadTree" = some (.ref E_BadTree)
  xE_BadTree : PySem.W.excIn K E_BadTree [.type "ValueError", .type "Exception", .type "BaseException", .type "object"] "ValueError.__new__" = true
  kE_BadTree : PySem.W.keepIn K (.ref E_BadTree) = true
  bE_BadTree : PySem.W.subIn K (.ref E_BadTree) (.type "BaseException") = some true
  tE_BadTree : PySem.W.typeIn K (.ref E_BadTree) = some (.type "type")
  dE_BadTree : PySem.W.hasDictIn K E_BadTree = true
  cE_BadTree : L2.ExcC K E_BadTree
  E_TooLong : Addr
  gE_TooLong : mg "TooLong" = some (.ref E_TooLong)
  xE_TooLong : PySem.W.excIn K E_TooLong [.type "ValueError", .type "Exception", .type "BaseException", .type "object"] "ValueError.__new__" = true
  kE_TooLong : PySem.W.keepIn K (.ref E_TooLong) = true
  bE_TooLong : PySem.W.subIn K (.ref E_TooLong) (.type "BaseException") = some true
  tE_TooLong : PySem.W.typeIn K (.ref E_TooLong) = some (.type "type")
  dE_TooLong : PySem.W.hasDictIn K E_TooLong = true
  cE_TooLong : L2.ExcC K E_TooLong
  sE_BrimfulError_BrimfulError : PySem.W.subIn K (.ref E_BrimfulError) (.ref E_BrimfulError) = some true
  sE_BrimfulError_BadMemory : PySem.W.subIn K (.ref E_BrimfulError) (.ref E_BadMemory) = some false
  sE_BrimfulError_BadSource : PySem.W.subIn K (.ref E_BrimfulError) (.ref E_BadSource) = some false
  sE_BrimfulError_BadStep : PySem.W.subIn K (.ref E_BrimfulError) (.ref E_BadStep) = some false
  sE_BrimfulError_BadTree : PySem.W.subIn K (.ref E_BrimfulError) (.ref E_BadTree) = some false
  sE_BrimfulError_TooLong : PySem.W.subIn K (.ref E_BrimfulError) (.ref E_TooLong) = some false
  sE_BadMemory_BrimfulError : PySem.W.subIn K (.ref E_BadMemory) (.ref E_BrimfulError) = some true
  sE_BadMemory_BadMemory : PySem.W.subIn K (.ref E_BadMemory) (.ref E_BadMemory) = some true
  sE_BadMemory_BadSource : PySem.W.subIn K (.ref E_BadMemory) (.ref E_BadSource) = some false
  sE_BadMemory_BadStep : PySem.W.subIn K (.ref E_BadMemory) (.ref E_BadStep) = some false
  sE_BadMemory_BadTree : PySem.W.subIn K (.ref E_BadMemory) (.ref E_BadTree) = some false
  sE_BadMemory_TooLong : PySem.W.subIn K (.ref E_BadMemory) (.ref E_TooLong) = some false
  sE_BadSource_BrimfulError : PySem.W.subIn K (.ref E_BadSource) (.ref E_BrimfulError) = some true
  sE_BadSource_BadMemory : PySem.W.subIn K (.ref E_BadSource) (.ref E_BadMemory) = some false
  sE_BadSource_BadSource : PySem.W.subIn K (.ref E_BadSource) (.ref E_BadSource) = some true
  sE_BadSource_BadStep : PySem.W.subIn K (.ref E_BadSource) (.ref E_BadStep) = some false
  sE_BadSource_BadTree : PySem.W.subIn K (.ref E_BadSource) (.ref E_BadTree) = some false
  sE_BadSource_TooLong : PySem.W.subIn K (.ref E_BadSource) (.ref E_TooLong) = some false
  sE_BadStep_BrimfulError : PySem.W.subIn K (.ref E_BadStep) (.ref E_BrimfulError) = some true
  sE_BadStep_BadMemory : PySem.W.subIn K (.ref E_BadStep) (.ref E_BadMemory) = some false
  sE_BadStep_BadSource : PySem.W.subIn K (.ref E_BadStep) (.ref E_BadSource) = some false
  sE_BadStep_BadStep : PySem.W.subIn K (.ref E_BadStep) (.ref E_BadStep) = some true
  sE_BadStep_BadTree : PySem.W.subIn K (.ref E_BadStep) (.ref E_BadTree) = some false
  sE_BadStep_TooLong : PySem.W.subIn K (.ref E_BadStep) (.ref E_TooLong) = some false
  sE_BadTree_BrimfulError : PySem.W.subIn K (.ref E_BadTree) (.ref E_BrimfulError) = some true
  sE_BadTree_BadMemory : PySem.W.subIn K (.ref E_BadTree) (.ref E_BadMemory) = some false
  sE_BadTree_BadSource : PySem.W.subIn K (.ref E_BadTree) (.ref E_BadSource) = some false
  sE_BadTree_BadStep : PySem.W.subIn K (.ref E_BadTree) (.ref E_BadStep) = some false
  sE_BadTree_BadTree : PySem.W.subIn K (.ref E_BadTree) (.ref E_BadTree) = some true
  sE_BadTree_TooLong : PySem.W.subIn K (.ref E_BadTree) (.ref E_TooLong) = some false
  sE_TooLong_BrimfulError : PySem.W.subIn K (.ref E_TooLong) (.ref E_BrimfulError) = some true
  sE_TooLong_BadMemory : PySem.W.subIn K (.ref E_TooLong) (.ref E_BadMemory) = some false
  sE_TooLong_BadSource : PySem.W.subIn K (.ref E_TooLong) (.ref E_BadSource) = some false
  sE_TooLong_BadStep : PySem.W.subIn K (.ref E_TooLong) (.ref E_BadStep) = some false
  sE_TooLong_BadTree : PySem.W.subIn K (.ref E_TooLong) (.ref E_BadTree) = some false
  sE_TooLong_TooLong : PySem.W.subIn K (.ref E_TooLong) (.ref E_TooLong) = some true
  m_all : mg "all" = none
  m_bool : mg "bool" = none
  m_int : mg "int" = none
  m_isinstance : mg "isinstance" = none
  m_len : mg "len" = none
  m_list : mg "list" = none
  m_max : mg "max" = none
  m_min : mg "min" = none
  m_range : mg "range" = none
  m_tuple : mg "tuple" = none
  m_isqrt : mg "isqrt" = some (.builtin "math.isqrt")
  t_CELLS : Tok
  c_CELLS : mg "CELLS" = some (.int 3 t_CELLS)
  t_LEAST_PRIME : Tok
  c_LEAST_PRIME : mg "LEAST_PRIME" = some (.int 3 t_LEAST_PRIME)
  t_MOST_DEPTH : Tok
  c_MOST_DEPTH : mg "MOST_DEPTH" = some (.int 40 t_MOST_DEPTH)
  t_MOST_NODES : Tok
  c_MOST_NODES : mg "MOST_NODES" = some (.int 200 t_MOST_NODES)
  t_MOST_STEPS : Tok
  c_MOST_STEPS : mg "MOST_STEPS" = some (.int 20000 t_MOST_STEPS)
  t_MOST_VALUES : Tok
  c_MOST_VALUES : mg "MOST_VALUES" = some (.int 40 t_MOST_VALUES)
end Br
namespace Br
open PySem PySem.Spec PyProof.Rows L2
local macro_rules | `(tactic| walk_at "x1") => `(tactic| (with_reducible first
  | refine Br.x_seq ?_ | refine Br.x_set ?_ | refine Br.x_asg ?_ | refine Br.x_next ?_ | refine Br.x_ret ?_ | refine Br.x_retN ?_ | refine Br.x_drop ?_ | refine Br.x_if ?_ | refine Br.x_brk ?_ | refine Br.x_cont ?_
  | refine Br.x_c ?_ | refine Br.x_op ?_ | refine Br.x_un ?_ | refine Br.x_I0 ?_ | refine Br.x_U ?_ | refine Br.x_EqI ?_ | refine Br.x_NeI ?_ | refine Br.x_EqB ?_ | refine Br.x_iN ?_ | refine Br.x_int1 ?_ | refine Br.x_min2 ?_ | refine Br.x_max2 ?_ | refine Br.x_nN ?_ | refine Br.x_ifE ?_
  | refine Br.x_test (b := ()) ?_ | refine Br.x_tB ?_ | refine Br.x_bl ?_ | refine Br.x_and ?_ | refine Br.x_or ?_ | refine Br.x_not ?_ | refine Br.x_andV ?_ | refine Br.x_orV ?_ | refine Br.x_notV ?_ | refine Br.x_blP ?_
  | refine Br.x_nil ?_ | refine Br.x_cons ?_ | refine Br.x_call ?_ | refine Br.x_CB ?_ | refine Br.x_BM ?_ | refine Br.x_tup ?_ | refine Br.x_lst ?_ | refine Br.x_chain ?_ | refine Br.x_par ?_ | refine Br.x_gSub ?_ | refine Br.x_gName ?_ | refine Br.x_fld ?_ | refine Br.x_fldS ?_ | refine Br.x_match ?_ | refine Br.x_else ?_ | refine Br.x_noCase ?_))
local macro_rules | `(tactic| walk_at "xv") => `(tactic| ((with_reducible refine' Br.x_var ?hvar ?_); (case hvar => rfl)))
local macro_rules | `(tactic| walk_at "xd") => `(tactic| (dsimp only [List.set_cons_zero, List.set_cons_succ, List.cons_append, List.nil_append, List.append_nil]))
local macro_rules | `(tactic| walk_at "xi") => `(tactic| ((with_reducible refine Br.x_I ?hside ?_); (case hside => first | exact Br.mul_r (by decide) (by decide) | exact Br.mul_l (by decide) (by decide) | exact Br.mul_l (by omega) (by omega) | exact Br.mul_r (by omega) (by omega) | (show (0 : Int) < _; first | decide | omega) | exact ⟨by decide, by decide⟩ | exact ⟨by omega, by omega⟩ | exact ⟨by decide, by decide, by decide⟩)))
local macro_rules | `(tactic| walk_at "x") => `(tactic| (repeat (first | walk_at "x1" | walk_at "xv" | walk_at "xi" | walk_at "xd")))
local macro_rules | `(tactic| walk_at "start") => `(tactic| (simp only [L2.start, List.map_cons, List.map_nil, List.length_cons, List.length_nil, Nat.reduceAdd, Nat.reduceSub, List.replicate, List.cons_append, List.nil_append, List.append_nil]))
local macro_rules | `(tactic| walk_at "isi") => `(tactic| first
  | refine Br.x_isi (b := true) (.base (.int _)) (by decide +kernel) ?_ | refine Br.x_isi (b := false) (.base (.int _)) (by decide +kernel) ?_
  | refine Br.x_isi (b := true) (.base (.bl _)) (by decide +kernel) ?_ | refine Br.x_isi (b := false) (.base (.bl _)) (by decide +kernel) ?_
  | refine Br.x_isi (b := false) (.base .non) (by decide +kernel) ?_
  | refine Br.x_isi (b := true) (.base (.str _)) (by decide +kernel) ?_ | refine Br.x_isi (b := false) (.base (.str _)) (by decide +kernel) ?_
  | refine Br.x_isi (b := true) (.base (.tup (by assumption))) (by decide +kernel) ?_ | refine Br.x_isi (b := false) (.base (.tup (by assumption))) (by decide +kernel) ?_
  | refine Br.x_isi (b := true) (.base (.lst (by assumption))) (by decide +kernel) ?_ | refine Br.x_isi (b := false) (.base (.lst (by assumption))) (by decide +kernel) ?_)
local macro_rules | `(tactic| walk_at "f") => `(tactic| (refine L2.iteF ?_; walk_at "x"))
local macro_rules | `(tactic| walk_at "t") => `(tactic| (refine L2.iteT ?_; walk_at "x"))
local macro_rules | `(tactic| walk_at "is") => `(tactic| (walk_at "isi"; walk_at "x"))
local macro_rules | `(tactic| walk_at "xb") => `(tactic| (simp only [Br.bindS, List.set_cons_zero, List.set_cons_succ]; walk_at "x"))

section
variable {P : Program} {w : World} {K : PySem.W.Frag} {mg : Str → Option Value} {base : Heap}

/-! ### the draws -/
/-- the draws at d: a list of a list of numbers (at n) and a place -/
def Dr (H : Hp) (d n : Addr) : Prop := ∃ (ns : List Int) (k : Int), H d = some (.lst [.ref n, .int k]) ∧ H n = some (.lst (ns.map V.int)) ∧ Rg 0 1000000 ns ∧ 0 ≤ k ∧ ns.length ≤ 3780
theorem Dr.ne {H : Hp} {d n : Addr} (h : Dr H d n) : H d ≠ none := by
  obtain ⟨_, _, h, _⟩ := h
  rw [h]
  exact fun z => nomatch z
theorem Dr.new {H : Hp} {d n p : Addr} (h : Dr H d n) (hp : H p = none) : p ≠ d := fun e => h.ne (e ▸ hp)
theorem Dr.newN {H : Hp} {d n p : Addr} (h : Dr H d n) (hp : H p = none) : p ≠ n := fun e => by
  obtain ⟨_, _, _, h2, _⟩ := h
  rw [← e, hp] at h2
  cases h2
theorem Dr.dn {H : Hp} {d n : Addr} (h : Dr H d n) : d ≠ n := by
  obtain ⟨ns, k, h1, h2, _⟩ := h
  exact ne_of h1 h2 (by
    intro e
    have e1 : [V.ref n, V.int k] = ns.map V.int := HO.lst.inj e
    cases ns with
    | nil => cases e1
    | cons x r => cases (List.cons.inj e1).1)
/-- changes elsewhere -/
theorem Dr.upd {H : Hp} {d n p : Addr} {o : HO} (h : Dr H d n) (hd : p ≠ d) (hn : p ≠ n) : Dr (upd H p o) d n := by
  obtain ⟨ns, k, h1, h2, h3⟩ := h
  exact ⟨ns, k, by rw [upd_ne hd.symm]; exact h1, by rw [upd_ne hn.symm]; exact h2, h3⟩
theorem Dr.upd0 {H : Hp} {d n p : Addr} {o : HO} (h : Dr H d n) (hp : H p = none) : Dr (L2.upd H p o) d n := h.upd (h.new hp) (h.newN hp)
theorem Dr.same {H H' : Hp} {d n : Addr} (h : Dr H d n) (s : Same H H') : Dr H' d n := by
  obtain ⟨ns, k, h1, h2, h3⟩ := h
  exact ⟨ns, k, s _ _ h1, s _ _ h2, h3⟩
/-- what is fresh behind was fresh ahead -/
theorem Keep.free {H H' : Hp} {d n p : Addr} (s : Keep d H H') (h : Dr H' d n) (hp : H' p = none) : H p = none := by
  cases e : H p with
  | none => rfl
  | some o =>
    by_cases hd : p = d
    · rw [hd] at hp
      exact absurd hp h.ne
    · rw [s p o e hd] at hp
      cases hp
theorem Dr.mk {H : Hp} {d n : Addr} {ns : List Int} (hn : H n = some (.lst (ns.map V.int))) (hr : Rg 0 1000000 ns) (hl : ns.length ≤ 3780) (hd : H d = none) : Dr (L2.upd H d (.lst [.ref n, .int 0])) d n :=
  ⟨ns, 0, upd_same, by rw [upd_ne (ne_of_none hn hd)]; exact hn, hr, Int.le_refl _, hl⟩
/-- what a def that draws gives: a value of which P, the draws moved on -/
abbrev RetD (d n : Addr) (P : V → Prop) (H : Hp) (Q : VK) : Prop := ∀ v H', P v → Dr H' d n → Keep d H H' → Q v H'
abbrev RetG (d n : Addr) (P : V → Hp → Prop) (H : Hp) (Q : VK) : Prop := ∀ v H', P v H' → Dr H' d n → Keep d H H' → Q v H'
abbrev IsI (lo hi : Int) : V → Prop := fun v => ∃ z : Int, v = .int z ∧ lo ≤ z ∧ z < hi

def sp_law_mixed (K : PySem.W.Frag) : Sp := fun vs H Q _ => ∃ i k : Int, vs = [.int i, .int k] ∧ ∀ r : Int, 0 ≤ r → r < 2147483647 → Q (.int r) H
theorem ok_law_mixed (T : Txt K mg) : FnOk P w K mg base CX0 1 T.a_law_mixed T.fd_law_mixed ["number", "k"] (sp_law_mixed K) := by
  refine T.F_law_mixed.ok sc_law_mixed (fun vs H Q E h => ?_) (fun cdv A outer s H vs Q E hr h => ?_)
  · obtain ⟨i, k, rfl, _⟩ := h
    rfl
  · obtain ⟨i, k, rfl, q⟩ := h
    refine ⟨_, (pss_cons (ps_set (i := 2) sc_law_mixed.nd rfl (.inl rfl) (pe_op op_mod (pe_op op_add (pe_op op_add (pe_op op_mul (pv 0) pe_int) (pe_op op_mul (pv 1) pe_int)) pe_int) pe_int))
      (pss_one (ps_ret (pe_op op_mod (pe_op op_add (pe_op op_mul (pv 2) (pe_op op_add (pe_op op_fdiv (pv 2) pe_int) pe_int)) (pv 1)) pe_int)))), ?_⟩
    walk_at "start"
    walk_at "x"
    exact q _ (Int.emod_nonneg _ (by decide)) (Int.emod_lt_of_pos _ (by decide))


def sp_law_numbers (K : PySem.W.Frag) : Sp := fun vs H Q _ => ∃ (a : Addr) (ns : List Int), vs = [.ref a] ∧ SqL K H a (ns.map V.int) ∧ ns.length ≤ 63 ∧
  ∀ (p : Addr) (ms : List Int) (H' : Hp), H p = none → Same H H' → H' p = some (.lst (ms.map V.int)) → Rg 0 1000000 ms → ms.length ≤ 3780 → Q (.ref p) H'
/-- the numbers so far -/
def NumI (H : Hp) (p : Addr) (n : Nat) (H' : Hp) : Prop := ∃ ms : List Int, Same H H' ∧ H' p = some (.lst (ms.map V.int)) ∧ Rg 0 1000000 ms ∧ ms.length ≤ n
theorem NumI.app {H H' : Hp} {p : Addr} {n : Nat} (h : NumI H p n H') (hp : H p = none) (hn : n ≤ 100000) {R : VK} {z : Int} (h1 : 0 ≤ z) (h2 : z < 1000000) (q : ∀ H2, NumI H p (n + 1) H2 → R .non H2) : rAppend (.ref p) [.int z] H' R := by
  obtain ⟨ms, s, e, r, l⟩ := h
  refine x_app e (by rw [List.length_map]; omega) (q _ ⟨ms ++ [z], sput s hp, ?_, r.snoc h1 h2, ?_⟩)
  · rw [upd_same, List.map_append]; rfl
  · rw [List.length_append]; exact Nat.add_le_add_right l 1
theorem NumI.ty {K : PySem.W.Frag} {H H' : Hp} {p : Addr} {n : Nat} (h : NumI H p n H') {R : Prop} (q : R) : tyV K "list" (.ref p) H' ∧ R := by
  obtain ⟨ms, s, e, r, l⟩ := h
  exact x_tyL e q
theorem NumI.mono {H H' : Hp} {p : Addr} {n m : Nat} (h : NumI H p n H') (l : n ≤ m) : NumI H p m H' := by
  obtain ⟨ms, s, e, r, k⟩ := h
  exact ⟨ms, s, e, r, Nat.le_trans k l⟩
theorem ok_law_numbers (T : Txt K mg) : FnOk P w K mg base CX0 2 T.a_law_numbers T.fd_law_numbers ["script"] (sp_law_numbers K) := by
  refine T.F_law_numbers.ok sc_law_numbers (fun vs H Q E h => ?_) (fun cdv A outer s H vs Q E hr h => ?_)
  · obtain ⟨a, ns, rfl, _⟩ := h
    rfl
  · obtain ⟨a, ns, rfl, hS, hl, q⟩ := h
    refine ⟨_, (pss_cons (ps_set (i := 1) sc_law_numbers.nd rfl (.inl rfl) (pe_lst pa_nil))
      (pss_cons (ps_for PassesOwn.never rfl (pi_list (pv 0)) (pg_name (i := 2) sc_law_numbers.nd rfl (Or.inl rfl))
      (pss_one (ps_if (pt_cmpR op_ge (pv 2) (pe_op op_pow pe_int pe_int) (nomark _))
      (pss_cons (ps_set (i := 3) sc_law_numbers.nd rfl (.inl rfl) (pv 2))
      (pss_one (ps_for PassesOwn.never rfl (pi_range1 (by rfl) T.m_range (pa_cons pe_int pa_nil)) (pg_name (i := 4) sc_law_numbers.nd rfl (Or.inl rfl))
      (pss_one (ps_if (pt_cmpR op_gt (pv 3) pe_int (nomark _))
      (pss_cons (ps_expr (pe_bm PySem.F.plainAttrs_list PySem.F.slot_list_append PySem.F.type_list_append mt_append (pv 1) (pa_cons (pe_op op_mod (pv 3) pe_int) pa_nil)))
      (pss_one (ps_set (i := 3) sc_law_numbers.nd rfl (.inl rfl) (pe_op op_fdiv (pv 3) pe_int))))
      pss_nil)))))
      (pss_cons (ps_expr (pe_bm PySem.F.plainAttrs_list PySem.F.slot_list_append PySem.F.type_list_append mt_append (pv 1) (pa_cons (pe_op op_mod (pv 2) pe_int) pa_nil)))
      (pss_one (ps_for PassesOwn.never rfl (pi_range1 (by rfl) T.m_range (pa_cons pe_int pa_nil)) (pg_name (i := 4) sc_law_numbers.nd rfl (Or.inl rfl))
      (pss_one (ps_expr (pe_bm PySem.F.plainAttrs_list PySem.F.slot_list_append PySem.F.type_list_append mt_append (pv 1) (pa_cons (pe_op op_mod (pe_call (ok_law_mixed T) hr (by rfl) T.g_law_mixed T.F_law_mixed.kp T.b_law_mixed .nil pass0 (pa_cons (pe_call (ok_law_mixed T) hr (by rfl) T.g_law_mixed T.F_law_mixed.kp T.b_law_mixed .nil pass0 (pa_cons (pe_op op_mod (pv 2) pe_int) (pa_cons (pv 4) pa_nil))) (pa_cons (pe_op op_add (pv 4) pe_int) pa_nil))) pe_int) pa_nil))))))))))
      (pss_one (ps_ret (pv 1))))), ?_⟩
    walk_at "start"
    walk_at "x"
    refine ⟨Nat.zero_le _, fun p hp => ?_⟩
    walk_at "x"
    refine x_forL (p := a) (ns.map V.int) (fun i σ' H' => ∃ v2 v3 v4, σ' = [some (.ref a), some (.ref p), v2, v3, v4] ∧ NumI H p (60 * i) H') (fun R r => ⟨_, rfl, r⟩) ((same_upd hp).seq hS) ?_ ?_ ?_ ?_
    · exact ⟨none, none, none, rfl, [], same_upd hp, upd_same, .nil, Nat.le_refl _⟩
    · rintro i σ' H' hi ⟨v2, v3, v4, rfl, ms, s, _⟩
      exact s.seq hS
    · rintro i x σ' H' hx ⟨v2, v3, v4, rfl, hN⟩
      obtain ⟨z, hz, rfl⟩ := map_get hx
      have hi : i < 63 := by
        have := (List.getElem?_eq_some_iff.mp hz).1
        omega
      walk_at "x"
      refine x_ite (fun hc => ?_) (fun hc => ?_)
      · walk_at "x"
        refine x_forR1 60 (fun j σ' H' => ∃ r v4, σ' = [some (.ref a), some (.ref p), some (.int z), some (.int r), v4] ∧ NumI H p (60 * i + j) H') (fun R r => r) (by decide) (by decide) ⟨z, v4, rfl, hN⟩ ?_ ?_
        · rintro j σ' H2 hj ⟨r, v4, rfl, hN⟩
          walk_at "x"
          refine x_ite (fun hc => ?_) (fun hc => ?_)
          · walk_at "x"
            refine hN.ty ?_
            walk_at "x"
            refine hN.app hp (by omega) (Int.emod_nonneg _ (by decide)) (Int.emod_lt_of_pos _ (by decide)) fun H3 hN3 => ?_
            walk_at "x"
            exact ⟨_, _, rfl, hN3⟩
          · walk_at "x"
            exact ⟨r, _, rfl, hN.mono (by omega)⟩
        · rintro σ' H2 ⟨r, v4, rfl, hN⟩
          exact ⟨_, _, _, rfl, hN.mono (by show 60 * i + (60 : Int).toNat ≤ 60 * (i + 1); omega)⟩
      · walk_at "x"
        refine hN.ty ?_
        walk_at "x"
        refine hN.app hp (by omega) (Int.emod_nonneg _ (by decide)) (Int.emod_lt_of_pos _ (by decide)) fun H3 hN3 => ?_
        walk_at "x"
        refine x_forR1 5 (fun j σ' H' => ∃ v4, σ' = [some (.ref a), some (.ref p), some (.int z), v3, v4] ∧ NumI H p (60 * i + 1 + j) H') (fun R r => r) (by decide) (by decide) ⟨v4, rfl, hN3⟩ ?_ ?_
        · rintro j σ' H2 hj ⟨v4, rfl, hN⟩
          walk_at "x"
          refine hN.ty ?_
          walk_at "x"
          refine ⟨_, _, rfl, fun r h0 h1 => ?_⟩
          walk_at "x"
          refine ⟨_, _, rfl, fun r h0 h1 => ?_⟩
          walk_at "x"
          refine hN.app hp (by omega) (Int.emod_nonneg _ (by decide)) (Int.emod_lt_of_pos _ (by decide)) fun H3 hN3 => ?_
          walk_at "x"
          exact ⟨_, rfl, hN3⟩
        · rintro σ' H2 ⟨v4, rfl, hN⟩
          exact ⟨_, _, _, rfl, hN.mono (by show 60 * i + 1 + (5 : Int).toNat ≤ 60 * (i + 1); omega)⟩
    · rintro σ' H' ⟨v2, v3, v4, rfl, ms, s, e, r, l⟩
      walk_at "x"
      exact q p ms H' hp s e r (by rw [List.length_map] at l; omega)


def sp_law_draw (K : PySem.W.Frag) : Sp := fun vs H Q _ => ∃ (d n : Addr), vs = [.ref d] ∧ Dr H d n ∧ RetD d n (IsI 0 1000000) H Q
theorem ok_law_draw (T : Txt K mg) : FnOk P w K mg base CX0 2 T.a_law_draw T.fd_law_draw ["draws"] (sp_law_draw K) := by
  refine T.F_law_draw.ok sc_law_draw (fun vs H Q E h => ?_) (fun cdv A outer s H vs Q E hr h => ?_)
  · obtain ⟨d, n, rfl, _⟩ := h
    rfl
  · obtain ⟨d, n, rfl, hD, q⟩ := h
    have hn := hD.dn
    obtain ⟨ns, k, h1, h2, h3, h4, h5⟩ := hD
    have hD : Dr (upd H d (.lst [.ref n, .int (k + 1)])) d n := ⟨ns, k + 1, upd_same, by rw [upd_ne hn.symm]; exact h2, h3, by omega, h5⟩
    refine ⟨_, (pss_cons (ps_set (i := 1) sc_law_draw.nd rfl (.inl rfl) (pe_ix (r := rIxL K) ix_list (pv 0) pe_int (fun _ _ => rfl)))
      (pss_cons (ps_asg (pe_op op_add (pv 1) pe_int) (pg_sub (pv 0) pe_int set_list))
      (pss_cons (ps_if (pt_cmpR op_lt (pv 1) (pe_callB (id := "len") (r := rLen K) cr_len (by rfl) T.m_len PySem.boot_len (pa_cons (pe_ix (r := rIxL K) ix_list (pv 0) pe_int (fun _ _ => rfl)) pa_nil)) (nomark _))
      (pss_one (ps_ret (pe_ix (r := rIxL K) ix_list (pe_ix (r := rIxL K) ix_list (pv 0) pe_int (fun _ _ => rfl)) (pv 1) (fun _ _ => rfl))))
      pss_nil)
      (pss_cons (ps_set (i := 2) sc_law_draw.nd rfl (.inl rfl) (pe_op op_add pe_int (pv 1)))
      (pss_cons (ps_if (pt_cmpR op_gt (pe_callB (id := "len") (r := rLen K) cr_len (by rfl) T.m_len PySem.boot_len (pa_cons (pe_ix (r := rIxL K) ix_list (pv 0) pe_int (fun _ _ => rfl)) pa_nil)) pe_int (nomark _))
      (pss_one (ps_set (i := 2) sc_law_draw.nd rfl (.inl rfl) (pe_op op_add (pv 2) (pe_op op_mul pe_int (pe_ix (r := rIxL K) ix_list (pe_ix (r := rIxL K) ix_list (pv 0) pe_int (fun _ _ => rfl)) pe_int (fun _ _ => rfl))))))
      pss_nil)
      (pss_one (ps_ret (pe_op op_mod (pe_call (ok_law_mixed T) hr (by rfl) T.g_law_mixed T.F_law_mixed.kp T.b_law_mixed .nil pass0 (pa_cons (pe_call (ok_law_mixed T) hr (by rfl) T.g_law_mixed T.F_law_mixed.kp T.b_law_mixed .nil pass0 (pa_cons (pv 2) (pa_cons (pv 1) pa_nil))) (pa_cons pe_int pa_nil))) pe_int)))))))), ?_⟩
    walk_at "start"
    walk_at "x"
    refine x_ixL (sq_of h1) (show _ = some (V.int k) from rfl) ?_
    walk_at "x"
    refine x_subL (k := 1) h1 rfl ?_
    walk_at "x"
    have hd : (upd H d (HO.lst [.ref n, .int (k + 1)])) d = some (.lst [.ref n, .int (k + 1)]) := upd_same
    have hnn : (upd H d (HO.lst [.ref n, .int (k + 1)])) n = some (.lst (ns.map V.int)) := by rw [upd_ne hn.symm]; exact h2
    refine x_ixL (sq_of hd) (show _ = some (V.ref n) from rfl) ?_
    walk_at "x"
    refine x_len (sq_of hnn) ?_
    walk_at "x"
    rw [List.length_map]
    refine x_ite (fun hc => ?_) (fun hc => ?_)
    · walk_at "x"
      refine x_ixL (sq_of hd) (show _ = some (V.ref n) from rfl) ?_
      walk_at "x"
      obtain ⟨j, rfl⟩ : ∃ j : Nat, k = (j : Int) := ⟨k.toNat, by omega⟩
      have hj : j < ns.length := by omega
      refine x_ixL (v := .int ns[j]) (sq_of hnn) (atI_nat (by rw [List.getElem?_map, List.getElem?_eq_getElem hj]; rfl)) ?_
      exact q _ _ ⟨_, rfl, h3 _ (List.getElem_mem hj)⟩ hD keep_upd
    · walk_at "x"
      refine x_ixL (sq_of hd) (show _ = some (V.ref n) from rfl) ?_
      walk_at "x"
      refine x_len (sq_of hnn) ?_
      walk_at "x"
      rw [List.length_map]
      refine x_ite (fun hc => ?_) (fun hc => ?_)
      · walk_at "x"
        refine x_ixL (sq_of hd) (show _ = some (V.ref n) from rfl) ?_
        walk_at "x"
        have hj : 0 < ns.length := by omega
        refine x_ixL (v := .int ns[0]) (sq_of hnn) (atI_nat (j := 0) (by rw [List.getElem?_map, List.getElem?_eq_getElem hj]; rfl)) ?_
        walk_at "x"
        refine ⟨_, _, rfl, fun r h0 h1 => ?_⟩
        walk_at "x"
        refine ⟨_, _, rfl, fun r h0 h1 => ?_⟩
        walk_at "x"
        exact q _ _ ⟨_, rfl, Int.emod_nonneg _ (by decide), Int.emod_lt_of_pos _ (by decide)⟩ hD keep_upd
      · walk_at "x"
        refine ⟨_, _, rfl, fun r h0 h1 => ?_⟩
        walk_at "x"
        refine ⟨_, _, rfl, fun r h0 h1 => ?_⟩
        walk_at "x"
        exact q _ _ ⟨_, rfl, Int.emod_nonneg _ (by decide), Int.emod_lt_of_pos _ (by decide)⟩ hD keep_upd


/-- a value of any kind that the laws put in -/
inductive Odd (H : Hp) : V → Prop
  | int (i : Int) : Odd H (.int i)
  | bl (b : Bool) : Odd H (.bl b)
  | non : Odd H .non
  | str (x : Str) : Odd H (.str x)
  | tup (a : Addr) (xs : List V) (h : H a = some (.tup xs)) : Odd H (.ref a)
  | lst (a : Addr) (xs : List V) (h : H a = some (.lst xs)) : Odd H (.ref a)
theorem Odd.same {H H' : Hp} {v : V} (h : Odd H v) (s : Same H H') : Odd H' v := by
  cases h with
  | int i => exact .int i
  | bl b => exact .bl b
  | non => exact .non
  | str x => exact .str x
  | tup a xs h => exact .tup a xs (s _ _ h)
  | lst a xs h => exact .lst a xs (s _ _ h)
def isB (v : V) (b : Int) : Bool := match v with
  | .int i => decide (0 ≤ i) && decide (i < b)
  | _ => false
theorem isB_int {i b : Int} (h0 : 0 ≤ i) (h1 : i < b) : isB (.int i) b = true := by
  show (decide (0 ≤ i) && decide (i < b)) = true
  rw [decide_eq_true h0, decide_eq_true h1]; rfl

def sp_is_below (K : PySem.W.Frag) : Sp := fun vs H Q _ => ∃ (v : V) (b : Int), vs = [v, .int b] ∧ Odd H v ∧ Q (.bl (isB v b)) H
theorem ok_is_below (T : Txt K mg) : FnOk P w K mg base CX0 1 T.a_is_below T.fd_is_below ["value", "bound"] (sp_is_below K) := by
  refine T.F_is_below.ok sc_is_below (fun vs H Q E h => ?_) (fun cdv A outer s H vs Q E hr h => ?_)
  · obtain ⟨v, b, rfl, _⟩ := h
    rfl
  · obtain ⟨v, b, rfl, hv, q⟩ := h
    refine ⟨_, (pss_one (ps_ret (pe_and (pe_callB (id := "isinstance") (r := rIsi K) call_isi (by rfl) T.m_isinstance (by decide +kernel) (pa_cons (pv 0) (pa_cons (pe_bltn (v := .ty "int") (by rfl) T.m_int (by decide +kernel) rfl) pa_nil))) (pe_and (pe_not (pe_callB (id := "isinstance") (r := rIsi K) call_isi (by rfl) T.m_isinstance (by decide +kernel) (pa_cons (pv 0) (pa_cons (pe_bltn (v := .ty "bool") (by rfl) T.m_bool (by decide +kernel) rfl) pa_nil)))) (pe_one (pe_chain op_le op_lt pe_int (pv 0) (pv 1))))))), ?_⟩
    walk_at "start"
    cases hv with
    | int i =>
      walk_at "x"
      walk_at "is"
      walk_at "t"
      walk_at "is"
      walk_at "t"
      refine x_ite (fun h0 => ?_) (fun h0 => ?_)
      · walk_at "x"
        have e : isB (.int i) b = decide (i < b) := by show (decide (0 ≤ i) && decide (i < b)) = _; rw [decide_eq_true h0]; rfl
        rw [← e]; exact q
      · have e : isB (.int i) b = false := by show (decide (0 ≤ i) && decide (i < b)) = _; rw [decide_eq_false h0]; rfl
        rw [← e]; exact q
    | bl x =>
      walk_at "x"
      walk_at "is"
      walk_at "t"
      walk_at "is"
      walk_at "f"
      exact q
    | non =>
      walk_at "x"
      walk_at "is"
      walk_at "f"
      exact q
    | str x =>
      walk_at "x"
      walk_at "is"
      walk_at "f"
      exact q
    | tup a xs h =>
      walk_at "x"
      walk_at "is"
      walk_at "f"
      exact q
    | lst a xs h =>
      walk_at "x"
      walk_at "is"
      walk_at "f"
      exact q


/-! ### primes -/
def PrimeI (n : Int) : Prop := 2 ≤ n ∧ ∀ d : Int, 2 ≤ d → d * d ≤ n → n % d ≠ 0
theorem sq_lt {a b : Int} (ha : 0 ≤ a) (h : a < b) : a * a < b * b := by
  have h1 : a * a ≤ a * b := Int.mul_le_mul_of_nonneg_left (Int.le_of_lt h) ha
  have h2 : a * b < b * b := Int.mul_lt_mul_of_pos_right h (by omega)
  omega
theorem le_of_sq {a b : Int} (hb : 0 ≤ b) (h : a * a ≤ b * b) : a ≤ b := by
  by_cases h1 : a ≤ b
  · exact h1
  · have := sq_lt hb (show b < a by omega)
    omega
theorem even_dvd {n d : Int} (hd : d % 2 = 0) (h : n % d = 0) : n % 2 = 0 := by
  obtain ⟨q, hq⟩ := Int.dvd_of_emod_eq_zero h
  obtain ⟨r, hr⟩ := Int.dvd_of_emod_eq_zero hd
  rw [hq, hr, Int.mul_assoc]
  exact Int.mul_emod_right 2 _

def sp_is_prime (K : PySem.W.Frag) : Sp := fun vs H Q _ => ∃ n : Int, vs = [.int n] ∧ 0 ≤ n ∧ n < 2000000000 ∧ ∀ b : Bool, (b = true ↔ PrimeI n) → Q (.bl b) H
theorem ok_is_prime (T : Txt K mg) : FnOk P w K mg base CX0 1 T.a_is_prime T.fd_is_prime ["n"] (sp_is_prime K) := by
  refine T.F_is_prime.ok sc_is_prime (fun vs H Q E h => ?_) (fun cdv A outer s H vs Q E hr h => ?_)
  · obtain ⟨n, rfl, _⟩ := h
    rfl
  · obtain ⟨n, rfl, h0, h1, q⟩ := h
    refine ⟨_, (pss_cons (ps_if (pt_cmpR op_lt (pv 0) pe_int (nomark _))
      (pss_one (ps_ret (pe_cmpR op_gt (pv 0) pe_int (nomark _))))
      pss_nil)
      (pss_cons (ps_if (pt_cmpR op_eq (pe_op op_mod (pv 0) pe_int) pe_int (nomark _))
      (pss_one (ps_ret pe_bl))
      pss_nil)
      (pss_cons (ps_for PassesOwn.never rfl (pi_range3 (by rfl) T.m_range (pa_cons pe_int (pa_cons (pe_op op_add (pe_callBfun cr_isqrt (by rfl) T.m_isqrt (pa_cons (pv 0) pa_nil)) pe_int) (pa_cons pe_int pa_nil)))) (pg_name (i := 1) sc_is_prime.nd rfl (Or.inl rfl))
      (pss_one (ps_if (pt_cmpR op_eq (pe_op op_mod (pv 0) (pv 1)) pe_int (nomark _))
      (pss_one (ps_ret pe_bl))
      pss_nil)))
      (pss_one (ps_ret pe_bl))))), ?_⟩
    walk_at "start"
    walk_at "x"
    refine x_ite (fun hc => ?_) (fun hc => ?_)
    · walk_at "x"
      refine q _ ⟨fun e => ⟨by have := of_decide_eq_true e; omega, fun d h2 hd => ?_⟩, fun e => decide_eq_true (by have := e.1; omega)⟩
      have : 2 * 2 ≤ d * d := Int.mul_le_mul h2 h2 (by decide) (by omega)
      omega
    · walk_at "x"
      refine x_ite (fun hc2 => ?_) (fun hc2 => ?_)
      · walk_at "x"
        exact q _ ⟨fun e => (by cases e), fun e => absurd hc2 (e.2 2 (by decide) (by omega))⟩
      · walk_at "x"
        have hn2 : ∀ d : Int, d % 2 = 0 → n % d ≠ 0 := fun d hd e => hc2 (even_dvd hd e)
        obtain ⟨r, er, hr0, hr1, hr2⟩ := isq_spec h0
        have hr3 : r < 44722 := by
          by_cases hh : r < 44722
          · exact hh
          · have : (44722 : Int) * 44722 ≤ r * r := Int.mul_le_mul (by omega) (by omega) (by decide) (by omega)
            omega
        refine x_forR3 3 (r + 1) 2 (fun i σ' H' => ∃ v, σ' = [some (.int n), v] ∧ H' = H ∧ ∀ d : Int, 2 ≤ d → d < 3 + (i : Int) * 2 → n % d ≠ 0) (fun R k => k) (fun R k => by walk_at "x"; exact x_isqrt0 h0 (by omega) er (by walk_at "x"; exact k)) (fun R k => k) (by decide) (by decide) (by decide) (by decide) (by omega) (by omega) ?_ ?_ ?_
        · exact ⟨none, rfl, rfl, fun d h2 h3 => by
            have e : d = 2 := by omega
            rw [e]; exact hc2⟩
        · rintro i σ' H' hi ⟨v, rfl, rfl, hI⟩
          walk_at "x"
          refine x_ite (fun hd => ?_) (fun hd => ?_)
          · walk_at "x"
            refine q _ ⟨fun e => (by cases e), fun e => absurd hd (e.2 _ (by omega) ?_)⟩
            have : (3 + (i : Int) * 2) * (3 + (i : Int) * 2) ≤ r * r := Int.mul_le_mul (by omega) (by omega) (by omega) (by omega)
            omega
          · walk_at "x"
            refine ⟨_, rfl, rfl, fun d h2 h3 => ?_⟩
            by_cases h4 : d < 3 + (i : Int) * 2
            · exact hI d h2 h4
            · by_cases h5 : d = 3 + (i : Int) * 2
              · rw [h5]; exact hd
              · exact hn2 d (by omega)
        · rintro i σ' H' hi ⟨v, rfl, rfl, hI⟩
          walk_at "x"
          refine q _ ⟨fun _ => ⟨by omega, fun d h2 h3 => hI d h2 ?_⟩, fun _ => rfl⟩
          have : d < r + 1 := by
            by_cases hh : d < r + 1
            · exact hh
            · have : (r + 1) * (r + 1) ≤ d * d := Int.mul_le_mul (by omega) (by omega) (by omega) (by omega)
              omega
          omega




end
end Br
namespace Br
open PySem PySem.Spec PyProof.Rows L2
local macro_rules | `(tactic| walk_at "x1") => `(tactic| (with_reducible first
  | refine Br.x_seq ?_ | refine Br.x_set ?_ | refine Br.x_asg ?_ | refine Br.x_next ?_ | refine Br.x_ret ?_ | refine Br.x_retN ?_ | refine Br.x_drop ?_ | refine Br.x_if ?_ | refine Br.x_brk ?_ | refine Br.x_cont ?_
  | refine Br.x_c ?_ | refine Br.x_op ?_ | refine Br.x_un ?_ | refine Br.x_I0 ?_ | refine Br.x_U ?_ | refine Br.x_EqI ?_ | refine Br.x_NeI ?_ | refine Br.x_EqB ?_ | refine Br.x_iN ?_ | refine Br.x_int1 ?_ | refine Br.x_min2 ?_ | refine Br.x_max2 ?_ | refine Br.x_nN ?_ | refine Br.x_ifE ?_
  | refine Br.x_test (b := ()) ?_ | refine Br.x_tB ?_ | refine Br.x_bl ?_ | refine Br.x_and ?_ | refine Br.x_or ?_ | refine Br.x_not ?_ | refine Br.x_andV ?_ | refine Br.x_orV ?_ | refine Br.x_notV ?_ | refine Br.x_blP ?_
  | refine Br.x_nil ?_ | refine Br.x_cons ?_ | refine Br.x_call ?_ | refine Br.x_CB ?_ | refine Br.x_BM ?_ | refine Br.x_tup ?_ | refine Br.x_lst ?_ | refine Br.x_chain ?_ | refine Br.x_par ?_ | refine Br.x_gSub ?_ | refine Br.x_gName ?_ | refine Br.x_fld ?_ | refine Br.x_fldS ?_ | refine Br.x_match ?_ | refine Br.x_else ?_ | refine Br.x_noCase ?_))
local macro_rules | `(tactic| walk_at "xv") => `(tactic| ((with_reducible refine' Br.x_var ?hvar ?_); (case hvar => rfl)))
local macro_rules | `(tactic| walk_at "xd") => `(tactic| (dsimp only [List.set_cons_zero, List.set_cons_succ, List.cons_append, List.nil_append, List.append_nil]))
local macro_rules | `(tactic| walk_at "xi") => `(tactic| ((with_reducible refine Br.x_I ?hside ?_); (case hside => first | exact Br.mul_r (by decide) (by decide) | exact Br.mul_l (by decide) (by decide) | exact Br.mul_l (by omega) (by omega) | exact Br.mul_r (by omega) (by omega) | (show (0 : Int) < _; first | decide | omega) | exact ⟨by decide, by decide⟩ | exact ⟨by omega, by omega⟩ | exact ⟨by decide, by decide, by decide⟩)))
local macro_rules | `(tactic| walk_at "x") => `(tactic| (repeat (first | walk_at "x1" | walk_at "xv" | walk_at "xi" | walk_at "xd")))
local macro_rules | `(tactic| walk_at "start") => `(tactic| (simp only [L2.start, List.map_cons, List.map_nil, List.length_cons, List.length_nil, Nat.reduceAdd, Nat.reduceSub, List.replicate, List.cons_append, List.nil_append, List.append_nil]))
local macro_rules | `(tactic| walk_at "isi") => `(tactic| first
  | refine Br.x_isi (b := true) (.base (.int _)) (by decide +kernel) ?_ | refine Br.x_isi (b := false) (.base (.int _)) (by decide +kernel) ?_
  | refine Br.x_isi (b := true) (.base (.bl _)) (by decide +kernel) ?_ | refine Br.x_isi (b := false) (.base (.bl _)) (by decide +kernel) ?_
  | refine Br.x_isi (b := false) (.base .non) (by decide +kernel) ?_
  | refine Br.x_isi (b := true) (.base (.str _)) (by decide +kernel) ?_ | refine Br.x_isi (b := false) (.base (.str _)) (by decide +kernel) ?_
  | refine Br.x_isi (b := true) (.base (.tup (by assumption))) (by decide +kernel) ?_ | refine Br.x_isi (b := false) (.base (.tup (by assumption))) (by decide +kernel) ?_
  | refine Br.x_isi (b := true) (.base (.lst (by assumption))) (by decide +kernel) ?_ | refine Br.x_isi (b := false) (.base (.lst (by assumption))) (by decide +kernel) ?_)
local macro_rules | `(tactic| walk_at "f") => `(tactic| (refine L2.iteF ?_; walk_at "x"))
local macro_rules | `(tactic| walk_at "t") => `(tactic| (refine L2.iteT ?_; walk_at "x"))
local macro_rules | `(tactic| walk_at "is") => `(tactic| (walk_at "isi"; walk_at "x"))
local macro_rules | `(tactic| walk_at "xb") => `(tactic| (simp only [Br.bindS, List.set_cons_zero, List.set_cons_succ]; walk_at "x"))

section
variable {P : Program} {w : World} {K : PySem.W.Frag} {mg : Str → Option Value} {base : Heap}

open Br
theorem DAt.odd {d : Addr} {H : Hp} {v : V} {e : PyData} (h : DAt d H v e) : Odd H v := by
  cases h with
  | non => exact .non
  | bl b => exact .bl b
  | int i => exact .int i
  | str x => exact .str x
  | lst hd h hs => exact .lst _ _ h
  | tup h hs => exact .tup _ _ h
theorem DAt.isB {d : Addr} {H : Hp} {v : V} {e : PyData} (h : DAt d H v e) {b : Int} : isB v b = isBD b e := by
  cases h <;> rfl
theorem range_allD {ds : List PyData} {f : PyData → Bool} : ((List.range ds.length).map fun i => f (ds.getD i .none)).all id = ds.all f := by
  have e : (List.range ds.length).map (fun i => f (ds.getD i .none)) = ds.map f := by
    apply List.ext_getElem?
    intro i
    rw [List.getElem?_map, List.getElem?_map]
    by_cases h : i < ds.length
    · rw [List.getElem?_range h, List.getElem?_eq_getElem h]
      show some (f (ds.getD i .none)) = some (f ds[i])
      rw [List.getD_eq_getElem?_getD, List.getElem?_eq_getElem h]; rfl
    · rw [List.getElem?_eq_none (by simpa using h), List.getElem?_eq_none (by simpa using h)]
      rfl
  rw [e, List.all_map]
  rfl
theorem getDD {ds : List PyData} {i : Nat} {e : PyData} (h : ds[i]? = some e) : ds.getD i .none = e := by rw [List.getD_eq_getElem?_getD, h]; rfl






end
end Br
namespace Br
open PySem PySem.Spec PyProof.Rows L2
local macro_rules | `(tactic| walk_at "x1") => `(tactic| (with_reducible first
  | refine Br.x_seq ?_ | refine Br.x_set ?_ | refine Br.x_asg ?_ | refine Br.x_next ?_ | refine Br.x_ret ?_ | refine Br.x_retN ?_ | refine Br.x_drop ?_ | refine Br.x_if ?_ | refine Br.x_brk ?_ | refine Br.x_cont ?_
  | refine Br.x_c ?_ | refine Br.x_op ?_ | refine Br.x_un ?_ | refine Br.x_I0 ?_ | refine Br.x_U ?_ | refine Br.x_EqI ?_ | refine Br.x_NeI ?_ | refine Br.x_EqB ?_ | refine Br.x_iN ?_ | refine Br.x_int1 ?_ | refine Br.x_min2 ?_ | refine Br.x_max2 ?_ | refine Br.x_nN ?_ | refine Br.x_ifE ?_
  | refine Br.x_test (b := ()) ?_ | refine Br.x_tB ?_ | refine Br.x_bl ?_ | refine Br.x_and ?_ | refine Br.x_or ?_ | refine Br.x_not ?_ | refine Br.x_andV ?_ | refine Br.x_orV ?_ | refine Br.x_notV ?_ | refine Br.x_blP ?_
  | refine Br.x_nil ?_ | refine Br.x_cons ?_ | refine Br.x_call ?_ | refine Br.x_CB ?_ | refine Br.x_BM ?_ | refine Br.x_tup ?_ | refine Br.x_lst ?_ | refine Br.x_chain ?_ | refine Br.x_par ?_ | refine Br.x_gSub ?_ | refine Br.x_gName ?_ | refine Br.x_fld ?_ | refine Br.x_fldS ?_ | refine Br.x_match ?_ | refine Br.x_else ?_ | refine Br.x_noCase ?_))
local macro_rules | `(tactic| walk_at "xv") => `(tactic| ((with_reducible refine' Br.x_var ?hvar ?_); (case hvar => rfl)))
local macro_rules | `(tactic| walk_at "xd") => `(tactic| (dsimp only [List.set_cons_zero, List.set_cons_succ, List.cons_append, List.nil_append, List.append_nil]))
local macro_rules | `(tactic| walk_at "xi") => `(tactic| ((with_reducible refine Br.x_I ?hside ?_); (case hside => first | exact Br.mul_r (by decide) (by decide) | exact Br.mul_l (by decide) (by decide) | exact Br.mul_l (by omega) (by omega) | exact Br.mul_r (by omega) (by omega) | (show (0 : Int) < _; first | decide | omega) | exact ⟨by decide, by decide⟩ | exact ⟨by omega, by omega⟩ | exact ⟨by decide, by decide, by decide⟩)))
local macro_rules | `(tactic| walk_at "x") => `(tactic| (repeat (first | walk_at "x1" | walk_at "xv" | walk_at "xi" | walk_at "xd")))
local macro_rules | `(tactic| walk_at "start") => `(tactic| (simp only [L2.start, List.map_cons, List.map_nil, List.length_cons, List.length_nil, Nat.reduceAdd, Nat.reduceSub, List.replicate, List.cons_append, List.nil_append, List.append_nil]))
local macro_rules | `(tactic| walk_at "isi") => `(tactic| first
  | refine Br.x_isi (b := true) (.base (.int _)) (by decide +kernel) ?_ | refine Br.x_isi (b := false) (.base (.int _)) (by decide +kernel) ?_
  | refine Br.x_isi (b := true) (.base (.bl _)) (by decide +kernel) ?_ | refine Br.x_isi (b := false) (.base (.bl _)) (by decide +kernel) ?_
  | refine Br.x_isi (b := false) (.base .non) (by decide +kernel) ?_
  | refine Br.x_isi (b := true) (.base (.str _)) (by decide +kernel) ?_ | refine Br.x_isi (b := false) (.base (.str _)) (by decide +kernel) ?_
  | refine Br.x_isi (b := true) (.base (.tup (by assumption))) (by decide +kernel) ?_ | refine Br.x_isi (b := false) (.base (.tup (by assumption))) (by decide +kernel) ?_
  | refine Br.x_isi (b := true) (.base (.lst (by assumption))) (by decide +kernel) ?_ | refine Br.x_isi (b := false) (.base (.lst (by assumption))) (by decide +kernel) ?_)
local macro_rules | `(tactic| walk_at "f") => `(tactic| (refine L2.iteF ?_; walk_at "x"))
local macro_rules | `(tactic| walk_at "t") => `(tactic| (refine L2.iteT ?_; walk_at "x"))
local macro_rules | `(tactic| walk_at "is") => `(tactic| (walk_at "isi"; walk_at "x"))
local macro_rules | `(tactic| walk_at "xb") => `(tactic| (simp only [Br.bindS, List.set_cons_zero, List.set_cons_succ]; walk_at "x"))

section
variable {P : Program} {w : World} {K : PySem.W.Frag} {mg : Str → Option Value} {base : Heap}

open Br
def valsV : V → Bool
  | .int i => decide (1 ≤ i) && decide (i ≤ 40)
  | _ => false
theorem valsV_iff {u : V} : valsV u = true ↔ ∃ n : Nat, u = .int (n : Int) ∧ 1 ≤ n ∧ n ≤ 40 := by
  constructor
  · intro h
    cases u with
    | int i =>
      have h : (decide (1 ≤ i) && decide (i ≤ 40)) = true := h
      rw [Bool.and_eq_true, decide_eq_true_iff, decide_eq_true_iff] at h
      exact ⟨i.toNat, by congr 1; omega, by omega, by omega⟩
    | _ => cases h
  · rintro ⟨n, rfl, h1, h2⟩
    show (decide (1 ≤ (n : Int)) && decide ((n : Int) ≤ 40)) = true
    rw [decide_eq_true (by omega), decide_eq_true (by omega)]
    rfl

def sp_check_values (CB : Addr) (K : PySem.W.Frag) : Sp := fun vs H Q E => ∃ u : V, vs = [u] ∧ Odd H u ∧ (valsV u = false → E (.ref CB) none H) ∧ (valsV u = true → Q .non H)
theorem ok_check_values (T : Txt K mg) : FnOk P w K mg base (L2.CX P w) 2 T.a_check_values T.fd_check_values ["values"] (sp_check_values T.E_BadTree K) := by
  refine T.F_check_values.okX sc_check_values (fun vs H Q E h => ?_) (fun cdv A outer s H vs Q E hr h => ?_)
  · obtain ⟨u, rfl, _⟩ := h
    rfl
  · obtain ⟨u, rfl, hu, hE, hQ⟩ := h
    refine ⟨_, (pss_one (ps_if (PW.pt (pw_or (pt_not (pt_val (pe_call (ok_is_below T) hr (by rfl) T.g_is_below T.F_is_below.kp T.b_is_below .nil pass0 (pa_cons (pv 0) (pa_cons (pe_op op_add (pe_glob (v := .int 40) (by rfl) T.c_MOST_VALUES ⟨_, rfl⟩) pe_int) pa_nil))))) (pw_or1 (pt_cmpR op_eq (pv 0) pe_int (nomark _)))))
      (pss_one (ps_raise rfl (takes_of rfl rfl rfl rfl) (pmk_own PySem.F.excBase_ValueError T.xE_BadTree T.gE_BadTree T.kE_BadTree (raises_own T.bE_BadTree T.tE_BadTree) (by exact rfl))))
      pss_nil)), ?_⟩
    walk_at "start"
    walk_at "x"
    refine ⟨u, _, rfl, hu, ?_⟩
    walk_at "x"
    refine x_iteBN (fun h0 => ?_) (fun h0 => ?_)
    · walk_at "t"
      refine hE ?_
      cases u with
      | int i =>
        have h0 : (decide (0 ≤ i) && decide (i < 40 + 1)) = false := h0
        show (decide (1 ≤ i) && decide (i ≤ 40)) = false
        rw [Bool.and_eq_false_iff, decide_eq_false_iff_not, decide_eq_false_iff_not] at h0 ⊢
        omega
      | _ => rfl
    · cases u with
      | int i =>
        have h0 : (decide (0 ≤ i) && decide (i < 40 + 1)) = true := h0
        rw [Bool.and_eq_true, decide_eq_true_iff, decide_eq_true_iff] at h0
        walk_at "x"
        by_cases hz : i = 0
        · rw [decide_eq_true hz]
          walk_at "t"
          exact hE (by subst hz; rfl)
        · rw [decide_eq_false hz]
          walk_at "f"
          exact hQ (by show (decide (1 ≤ i) && decide (i ≤ 40)) = true; rw [decide_eq_true (by omega), decide_eq_true (by omega)]; rfl)
      | _ => cases h0


def sp_is_row (K : PySem.W.Frag) : Sp := fun vs H Q _ => ∃ (d : Addr) (v : V) (e : PyData) (k n : Nat), vs = [v, .int (k : Int), .int (n : Int)] ∧ DAt d H v e ∧ k ≤ 1000 ∧ ∀ H', Same H H' → Q (.bl (rowTD k (n : Int) e)) H'
theorem ok_is_row (T : Txt K mg) : FnOk P w K mg base CX0 2 T.a_is_row T.fd_is_row ["row", "size", "modulus"] (sp_is_row K) := by
  refine T.F_is_row.ok sc_is_row (fun vs H Q E h => ?_) (fun cdv A outer s H vs Q E hr h => ?_)
  · obtain ⟨d, v, e, k, n, rfl, _⟩ := h
    rfl
  · obtain ⟨d, v, e, k, n, rfl, hv, hk, q⟩ := h
    refine ⟨_, (pss_cons (ps_if (PW.pt (pw_or (pt_not (pt_val (pe_callB (id := "isinstance") (r := rIsi K) call_isi (by rfl) T.m_isinstance (by decide +kernel) (pa_cons (pv 0) (pa_cons (pe_bltn (v := .ty "tuple") (by rfl) T.m_tuple (by decide +kernel) rfl) pa_nil))))) (pw_or1 (pt_cmpR op_ne (pe_callB (id := "len") (r := rLen K) cr_len (by rfl) T.m_len PySem.boot_len (pa_cons (pv 0) pa_nil)) (pv 1) (nomark _)))))
      (pss_one (ps_ret pe_bl))
      pss_nil)
      (pss_one (ps_ret (pe_callB (id := "all") (r := rAll K) (cr_all rfl) (by rfl) T.m_all (by decide +kernel) (pa_cons (pe_lc (own := [("value", 3)]) (g := gName 3) (tt := tYes) rfl sc_is_row.nd (pi_tup (pv 0)) (blkOk_by (N := N_is_row) (sc := defScope s_is_row) (by decide +kernel)) (fun _ _ _ _ _ => (pg_name (i := 3) sc_is_row.nd rfl (Or.inl rfl))) (fun _ _ _ _ _ => pts_nil) (fun _ _ _ _ _ => (pe_call (ok_is_below T) hr (by rfl) T.g_is_below T.F_is_below.kp T.b_is_below .nil pass0 (pa_cons (pv 3) (pa_cons (pv 2) pa_nil))))) pa_nil))))), ?_⟩
    walk_at "start"
    cases hv with
    | tup h hs =>
      rename_i a xs es
      have hlen := hs.len
      have ep : rowTD k (n : Int) (.tuple es) = (decide (es.length = k) && es.all (isBD (n : Int))) := rfl
      walk_at "x"
      walk_at "is"
      walk_at "f"
      refine x_lenT (st_of h) ?_
      walk_at "x"
      refine x_iteN (fun hc => ?_) (fun hc => ?_)
      · walk_at "x"
        have e : rowTD k (n : Int) (.tuple es) = false := by rw [ep, decide_eq_false (by omega)]; rfl
        rw [← e]
        exact q H (Same.refl _)
      · walk_at "x"
        refine x_lcB (xs := xs) (fun i => isBD (n : Int) (es.getD i .none)) (J := Itt K a) (G := fun H => SqT K H a xs) (fun R r => ⟨_, rfl, a, rfl, ⟨xs, st_of h⟩, r⟩) walk_tup (by omega) (fun H' s => st_of (s _ _ h)) (fun x => rfl) ?_ ?_
        · intro i x H' s hx R hR
          obtain ⟨f, hf, hxf⟩ := hs.get hx
          rw [getDD hf] at hR
          have hxf := DAt.same s f hxf
          walk_at "x"
          refine ⟨x, (n : Int), rfl, hxf.odd, ?_⟩
          rw [hxf.isB]
          exact hR H' (Same.refl _)
        · intro p H' hp s hP
          walk_at "x"
          refine x_all hP ?_
          rw [hlen, range_allD (f := isBD (n : Int))]
          have e : rowTD k (n : Int) (.tuple es) = es.all (isBD (n : Int)) := by rw [ep, decide_eq_true (by omega), Bool.true_and]
          rw [← e]
          exact q H' s
    | lst hd h hs =>
      walk_at "x"
      walk_at "is"
      walk_at "t"
      exact q H (Same.refl _)
    | int i =>
      walk_at "x"
      walk_at "is"
      walk_at "t"
      exact q H (Same.refl _)
    | bl b =>
      walk_at "x"
      walk_at "is"
      walk_at "t"
      exact q H (Same.refl _)
    | non =>
      walk_at "x"
      walk_at "is"
      walk_at "t"
      exact q H (Same.refl _)
    | str z =>
      walk_at "x"
      walk_at "is"
      walk_at "t"
      exact q H (Same.refl _)


def sp_is_table (K : PySem.W.Frag) : Sp := fun vs H Q _ => ∃ (d : Addr) (v : V) (e : PyData) (n : Nat), vs = [v, .int (n : Int)] ∧ DAt d H v e ∧ n ≤ 1000 ∧ ∀ H', Same H H' → Q (.bl (tableD (n : Int) e)) H'
theorem ok_is_table (T : Txt K mg) : FnOk P w K mg base CX0 3 T.a_is_table T.fd_is_table ["table", "modulus"] (sp_is_table K) := by
  refine T.F_is_table.ok sc_is_table (fun vs H Q E h => ?_) (fun cdv A outer s H vs Q E hr h => ?_)
  · obtain ⟨d, v, e, n, rfl, _⟩ := h
    rfl
  · obtain ⟨d, v, e, n, rfl, hv, hn, q⟩ := h
    refine ⟨_, (pss_cons (ps_if (PW.pt (pw_or (pt_not (pt_val (pe_callB (id := "isinstance") (r := rIsi K) call_isi (by rfl) T.m_isinstance (by decide +kernel) (pa_cons (pv 0) (pa_cons (pe_bltn (v := .ty "tuple") (by rfl) T.m_tuple (by decide +kernel) rfl) pa_nil))))) (pw_or1 (pt_not (pt_chain op_le op_le pe_int (pe_callB (id := "len") (r := rLen K) cr_len (by rfl) T.m_len PySem.boot_len (pa_cons (pv 0) pa_nil)) (pv 1))))))
      (pss_one (ps_ret pe_bl))
      pss_nil)
      (pss_one (ps_ret (pe_callB (id := "all") (r := rAll K) (cr_all rfl) (by rfl) T.m_all (by decide +kernel) (pa_cons (pe_lc (own := [("row", 2)]) (g := gName 2) (tt := tYes) rfl sc_is_table.nd (pi_tup (pv 0)) (blkOk_by (N := N_is_table) (sc := defScope s_is_table) (by decide +kernel)) (fun _ _ _ _ _ => (pg_name (i := 2) sc_is_table.nd rfl (Or.inl rfl))) (fun _ _ _ _ _ => pts_nil) (fun _ _ _ _ _ => (pe_call (ok_is_row T) hr (by rfl) T.g_is_row T.F_is_row.kp T.b_is_row .nil pass0 (pa_cons (pv 2) (pa_cons (pe_callB (id := "len") (r := rLen K) cr_len (by rfl) T.m_len PySem.boot_len (pa_cons (pv 0) pa_nil)) (pa_cons (pv 1) pa_nil)))))) pa_nil))))), ?_⟩
    walk_at "start"
    cases hv with
    | tup h hs =>
      rename_i a xs es
      have hlen := hs.len
      have ep : tableD (n : Int) (.tuple es) = ((decide (1 ≤ es.length) && decide ((es.length : Int) ≤ (n : Int))) && es.all (rowTD es.length (n : Int))) := rfl
      walk_at "x"
      walk_at "is"
      walk_at "f"
      refine x_lenT (st_of h) ?_
      walk_at "x"
      have no : tableD (n : Int) (.tuple es) = false → Q (.bl false) H := fun h => by rw [← h]; exact q H (Same.refl _)
      by_cases c1 : 1 ≤ es.length
      · rw [decide_eq_true (show (1 : Int) ≤ (xs.length : Int) by omega)]
        walk_at "t"
        by_cases c2 : es.length ≤ n
        · rw [decide_eq_true (show (xs.length : Int) ≤ (n : Int) by omega)]
          walk_at "f"
          refine x_lcB (xs := xs) (fun i => rowTD es.length (n : Int) (es.getD i .none)) (J := Itt K a) (G := fun H => SqT K H a xs) (fun R r => ⟨_, rfl, a, rfl, ⟨xs, st_of h⟩, r⟩) walk_tup (by omega) (fun H' s => st_of (s _ _ h)) (fun x => rfl) ?_ ?_
          · intro i x H' s hx R hR
            obtain ⟨f, hf, hxf⟩ := hs.get hx
            rw [getDD hf] at hR
            have hxf := DAt.same s f hxf
            walk_at "x"
            refine x_lenT (st_of (s _ _ h)) ?_
            walk_at "x"
            rw [hlen]
            exact ⟨d, x, f, es.length, n, rfl, hxf, by omega, fun H2 s2 => hR H2 s2⟩
          · intro p H' hp s hP
            walk_at "x"
            refine x_all hP ?_
            rw [hlen, range_allD (f := rowTD es.length (n : Int))]
            have e : tableD (n : Int) (.tuple es) = es.all (rowTD es.length (n : Int)) := by rw [ep, decide_eq_true c1, decide_eq_true (show (es.length : Int) ≤ (n : Int) by omega), Bool.true_and, Bool.true_and]
            rw [← e]
            exact q H' s
        · rw [decide_eq_false (show ¬ (xs.length : Int) ≤ (n : Int) by omega)]
          walk_at "t"
          exact no (by rw [ep, decide_eq_false (show ¬ (es.length : Int) ≤ (n : Int) by omega), Bool.and_false, Bool.false_and])
      · rw [decide_eq_false (show ¬ (1 : Int) ≤ (xs.length : Int) by omega)]
        walk_at "f"
        exact no (by rw [ep, decide_eq_false c1, Bool.false_and, Bool.false_and])
    | lst hd h hs =>
      walk_at "x"
      walk_at "is"
      walk_at "t"
      exact q H (Same.refl _)
    | int i =>
      walk_at "x"
      walk_at "is"
      walk_at "t"
      exact q H (Same.refl _)
    | bl b =>
      walk_at "x"
      walk_at "is"
      walk_at "t"
      exact q H (Same.refl _)
    | non =>
      walk_at "x"
      walk_at "is"
      walk_at "t"
      exact q H (Same.refl _)
    | str z =>
      walk_at "x"
      walk_at "is"
      walk_at "t"
      exact q H (Same.refl _)


def sp_is_part (K : PySem.W.Frag) : Sp := fun vs H Q _ => ∃ (d : Addr) (v : V) (e : PyData) (n : Nat), vs = [v, .int (n : Int)] ∧ DAt d H v e ∧ Sh e ∧ n ≤ 40 ∧ ∀ H', Same H H' → Q (.bl (partD (n : Int) e)) H'
theorem ok_is_part (T : Txt K mg) : FnOk P w K mg base CX0 4 T.a_is_part T.fd_is_part ["part", "values"] (sp_is_part K) := by
  refine T.F_is_part.ok sc_is_part (fun vs H Q E h => ?_) (fun cdv A outer s H vs Q E hr h => ?_)
  · obtain ⟨d, v, e, n, rfl, _⟩ := h
    rfl
  · obtain ⟨d, v, e, n, rfl, hv, hsh, hn, q⟩ := h
    refine ⟨_, (pss_cons (ps_if (pt_not (pt_val (pe_callB (id := "isinstance") (r := rIsi K) call_isi (by rfl) T.m_isinstance (by decide +kernel) (pa_cons (pv 0) (pa_cons (pe_bltn (v := .ty "tuple") (by rfl) T.m_tuple (by decide +kernel) rfl) pa_nil)))))
      (pss_one (ps_ret pe_bl))
      pss_nil)
      (pss_one (ps_match (pv 0) (pcs_seq rfl (op_eqD hr.units) (pcap_name 2 sc_is_part.nd rfl (.inl rfl) pcap_nil)
      (pss_one (ps_ret (pe_call (ok_is_below T) (hr.mono (by decide)) (by rfl) T.g_is_below T.F_is_below.kp T.b_is_below .nil pass0 (pa_cons (pv 2) (pa_cons (pv 1) pa_nil)))))
      (pcs_seq rfl (op_eqD hr.units) (pcap_name 3 sc_is_part.nd rfl (.inl rfl) (pcap_wild (pcap_wild pcap_nil)))
      (pss_one (ps_ret (pe_and (pe_call (ok_is_table T) hr (by rfl) T.g_is_table T.F_is_table.kp T.b_is_table .nil pass0 (pa_cons (pv 3) (pa_cons (pv 1) pa_nil))) (pe_one (pe_cmpR op_eq (pe_callB (id := "len") (r := rLen K) cr_len (by rfl) T.m_len PySem.boot_len (pa_cons (pv 3) pa_nil)) (pv 1) (nomark _))))))
      (pcs_else (rest := _) (pss_one (ps_ret pe_bl)))))))), ?_⟩
    walk_at "start"
    cases hv with
    | tup ha hs =>
      rename_i a xs es
      have hsh := hsh.of_tup
      walk_at "x"
      walk_at "is"
      walk_at "f"
      refine x_caseD (st_of ha) hs hsh (by decide +kernel) (by decide) (fun y ys er h1 h2 h3 h4 => ?_) (fun n1 => ?_)
      · subst h2
        obtain ⟨k, rfl⟩ : ∃ k, er = [k] := by
          match er, h3 with
          | [k], _ => exact ⟨k, rfl⟩
        cases h4 with
        | cons h4 h5 =>
          cases h5
          walk_at "xb"
          rw [partD_leaf, if_pos rfl] at q
          refine ⟨_, (n : Int), rfl, h4.odd, ?_⟩
          rw [h4.isB]
          exact q H (Same.refl _)
      refine x_caseD (st_of ha) hs hsh (by decide +kernel) (by decide) (fun y ys er h1 h2 h3 h4 => ?_) (fun n2 => ?_)
      · subst h2
        obtain ⟨t, l, r, rfl⟩ : ∃ t l r, er = [t, l, r] := by
          match er, h3 with
          | [t, l, r], _ => exact ⟨t, l, r, rfl⟩
        cases h4 with
        | cons h4 h5 =>
          cases h5 with
          | cons h5 h6 =>
            cases h6 with
            | cons h6 h7 =>
              cases h7
              walk_at "xb"
              rw [partD_node, if_pos rfl] at q
              refine ⟨d, _, t, n, rfl, h4, by omega, fun H1 s1 => ?_⟩
              walk_at "x"
              cases hT : tableD (n : Int) t with
              | false =>
                rw [hT] at q
                walk_at "f"
                exact q H1 s1
              | true =>
                rw [hT] at q
                walk_at "t"
                obtain ⟨tb, rfl, hI⟩ := tableD_iff.mp hT
                have h4 := DAt.same s1 _ h4
                cases h4 with
                | tup g gs =>
                  have gl := gs.len
                  refine x_lenT (st_of g) ?_
                  walk_at "x"
                  have e : lenTD (tbV tb) = ((tb.map rowV).length : Int) := rfl
                  rw [Bool.true_and, e, ← gl] at q
                  exact q H1 s1
      walk_at "x"
      rw [partD_no n1 n2] at q
      exact q H (Same.refl _)
    | lst hd h hs =>
      walk_at "x"
      walk_at "is"
      walk_at "t"
      exact q H (Same.refl _)
    | int i =>
      walk_at "x"
      walk_at "is"
      walk_at "t"
      exact q H (Same.refl _)
    | bl b =>
      walk_at "x"
      walk_at "is"
      walk_at "t"
      exact q H (Same.refl _)
    | non =>
      walk_at "x"
      walk_at "is"
      walk_at "t"
      exact q H (Same.refl _)
    | str z =>
      walk_at "x"
      walk_at "is"
      walk_at "t"
      exact q H (Same.refl _)


def sp_is_tree (K : PySem.W.Frag) : Sp := fun vs H Q _ => ∃ (d : Addr) (v : V) (e : PyData) (n : Nat), vs = [v, .int (n : Int)] ∧ DAt d H v e ∧ Sh e ∧ n ≤ 40 ∧ ∀ H', Same H H' → Q (.bl (treeD (n : Int) e)) H'
theorem ok_is_tree (T : Txt K mg) : FnOk P w K mg base CX0 5 T.a_is_tree T.fd_is_tree ["tree", "values"] (sp_is_tree K) := by
  refine T.F_is_tree.ok sc_is_tree (fun vs H Q E h => ?_) (fun cdv A outer s H vs Q E hr h => ?_)
  · obtain ⟨d, v, e, n, rfl, _⟩ := h
    rfl
  · obtain ⟨d, v, e, n, rfl, hv, hsh, hn, q⟩ := h
    refine ⟨_, (pss_cons (ps_set (i := 2) sc_is_tree.nd rfl (.inl rfl) pe_int)
      (pss_cons (ps_set (i := 3) sc_is_tree.nd rfl (.inl rfl) (pe_lst (pa_cons (pe_tup (pa_cons (pv 0) (pa_cons pe_int pa_nil))) pa_nil)))
      (pss_cons (ps_while PassesOwn.never (pt_truth (pv 3) (by intro _; rfl))
      (pss_cons (ps_asg (pe_bm0 PySem.F.plainAttrs_list PySem.F.slot_list_pop PySem.F.type_list_pop mt_pop (pv 3)) (pg_tup rfl (pgs_cons (pg_name (i := 4) sc_is_tree.nd rfl (Or.inl rfl)) (pgs_cons (pg_name (i := 5) sc_is_tree.nd rfl (Or.inl rfl)) pgs_nil))))
      (pss_cons (ps_aug (i := 2) sc_is_tree.nd rfl (.inl rfl) pe_int ip_add)
      (pss_cons (ps_if (PW.pt (pw_or (pt_cmpR op_gt (pv 2) (pe_glob (v := .int 200) (by rfl) T.c_MOST_NODES ⟨_, rfl⟩) (nomark _)) (pw_or (pt_cmpR op_gt (pv 5) (pe_glob (v := .int 40) (by rfl) T.c_MOST_DEPTH ⟨_, rfl⟩) (nomark _)) (pw_or1 (pt_not (pt_val (pe_call (ok_is_part T) hr (by rfl) T.g_is_part T.F_is_part.kp T.b_is_part .nil pass0 (pa_cons (pv 4) (pa_cons (pv 1) pa_nil)))))))))
      (pss_one (ps_ret pe_bl))
      pss_nil)
      (pss_one (ps_if (pt_cmpR op_eq (pe_ix (r := rIxT K) ix_tup (pv 4) pe_int (fun _ _ => rfl)) pe_str (nomark _))
      (pss_one (ps_expr (pe_bm PySem.F.plainAttrs_list PySem.F.slot_list_extend PySem.F.type_list_extend mt_extend (pv 3) (pa_cons (pe_lst (pa_cons (pe_tup (pa_cons (pe_ix (r := rIxT K) ix_tup (pv 4) pe_int (fun _ _ => rfl)) (pa_cons (pe_op op_add (pv 5) pe_int) pa_nil))) (pa_cons (pe_tup (pa_cons (pe_ix (r := rIxT K) ix_tup (pv 4) pe_int (fun _ _ => rfl)) (pa_cons (pe_op op_add (pv 5) pe_int) pa_nil))) pa_nil))) pa_nil))))
      pss_nil))))))
      (pss_one (ps_ret pe_bl))))), ?_⟩
    walk_at "start"
    walk_at "x"
    refine ⟨by show 2 ≤ sizeLine; decide, fun b hb => ?_⟩
    have u1 := same_upd (o := .tup [v, V.int 1]) hb
    have w1 : WtE d H (upd H b (.tup [v, V.int 1])) [b] [(e, 1)] := WtE.snoc (as := []) (ws := []) ⟨rfl, fun i x c h _ => by simp at h⟩ upd_same hv
    generalize upd H b (.tup [v, V.int 1]) = H1 at u1 w1
    walk_at "x"
    refine ⟨by show 1 ≤ sizeLine; decide, fun w hw => ?_⟩
    have hw0 := u1.free hw
    have u2 := same_upd (o := .lst [V.ref b]) hw
    have w2 := w1.tups (Tups.same u2)
    have s2 := u1.trans u2
    have e2 : (upd H1 w (.lst [V.ref b])) w = some (.lst ([b].map V.ref)) := upd_same
    generalize upd H1 w (.lst [V.ref b]) = H2 at s2 e2 w2
    walk_at "x"
    refine x_while (fun k σ' H' => ∃ v4 v5 as ws met, σ' = [some v, some (.int (n : Int)), some (.int ((met : Nat) : Int)), some (.ref w), v4, v5] ∧ Same H H' ∧ H' w = some (.lst (as.map V.ref)) ∧ WtE d H H' as ws ∧ (∀ x, x ∈ ws → Sh x.1) ∧ ws.length ≤ met + 1 ∧ met ≤ 200 ∧ k + met = 201 ∧ treeD (n : Int) e = walkD (n : Int) k ws.reverse met) 201
      ⟨_, _, [b], [(e, 1)], 0, rfl, s2, e2, w2, fun x hx => by rw [List.mem_singleton.mp hx]; exact hsh, Nat.le_refl 1, by omega, rfl, rfl⟩ ?_
    clear u1 u2 w1 w2 s2 e2 hw hb
    rintro k σ' H1 ⟨v4, v5, as, ws, met, rfl, s1, e1, w1, hshw, hwm, m2, hk, hT⟩
    obtain ⟨g, rfl⟩ : ∃ g, k = g + 1 := ⟨k - 1, by omega⟩
    by_cases h0 : as = []
    · refine ⟨false, fun R r => ?_, (fun h => by cases h), fun _ => ?_⟩
      · walk_at "x"
        exact ⟨false, .inl ⟨_, sq_of e1, by rw [h0]; rfl⟩, r⟩
      · walk_at "x"
        have hws : ws = [] := List.length_eq_zero_iff.mp (by rw [← w1.1, h0]; rfl)
        have e3 : treeD (n : Int) e = true := by rw [hT, hws]; rfl
        rw [e3] at q
        exact q H1 s1
    refine ⟨true, fun R r => ?_, fun _ => ?_, (fun h => by cases h)⟩
    · walk_at "x"
      refine ⟨true, .inl ⟨_, sq_of e1, ?_⟩, r⟩
      cases as with
      | nil => exact absurd rfl h0
      | cons a l => rfl
    obtain ⟨as, ws, b, f, dp, u, rfl, rfl, w2, hb, hu⟩ := w1.last h0
    walk_at "x"
    refine ⟨_, rfl, x_tyL e1 ⟨w, _, .ref b, rfl, rfl, e1, by rw [List.map_append, List.length_append, List.getElem?_append_right (by simp)]; simp, ?_⟩⟩
    have t2 : Tups H1 (upd H1 w (.lst ((as ++ [b]).map V.ref).dropLast)) := (Tups.refl H1).put (no_tupL e1)
    have s2 : Same H (upd H1 w (.lst ((as ++ [b]).map V.ref).dropLast)) := sput s1 hw0
    have e2 : (upd H1 w (.lst ((as ++ [b]).map V.ref).dropLast)) w = some (.lst (as.map V.ref)) := by rw [upd_same]; simp
    have w2 := w2.tups t2
    have hb2 := t2 _ _ hb
    generalize upd H1 w (.lst ((as ++ [b]).map V.ref).dropLast) = H2 at t2 s2 e2 w2 hb2
    refine x_gTup2 (st_of hb2) ?_
    have hwm : ws.length + 1 ≤ met + 1 := by rw [List.length_append] at hwm; exact hwm
    have hshf := hshw (f, dp) (List.mem_append_right _ List.mem_cons_self)
    have hshv : ∀ x, x ∈ ws → Sh x.1 := fun x hx => hshw x (List.mem_append_left _ hx)
    have hT : treeD (n : Int) e = if 200 < met + 1 ∨ 40 < dp ∨ partD (n : Int) f = false then false else walkD (n : Int) g ((kidsD f).map (fun x => (x, dp + 1)) ++ ws.reverse) (met + 1) := by
      rw [hT, List.reverse_append]
      rfl
    have no : (200 < met + 1 ∨ 40 < dp ∨ partD (n : Int) f = false) → ∀ H', Same H H' → Q (.bl false) H' := fun h => by
      rw [if_pos h] at hT
      rw [hT] at q
      exact q
    walk_at "x"
    refine ⟨_, rfl, ?_⟩
    walk_at "x"
    refine ⟨_, _, rfl, rfl, ?_⟩
    walk_at "x"
    by_cases c1 : 200 < met + 1
    · rw [decide_eq_true (show (200 : Int) < (met : Int) + 1 by omega)]
      walk_at "t"
      exact no (.inl c1) _ s2
    rw [decide_eq_false (show ¬ (200 : Int) < (met : Int) + 1 by omega)]
    walk_at "f"
    by_cases c2 : 40 < dp
    · rw [decide_eq_true (show (40 : Int) < (dp : Int) by omega)]
      walk_at "t"
      exact no (.inr (.inl c2)) _ s2
    rw [decide_eq_false (show ¬ (40 : Int) < (dp : Int) by omega)]
    walk_at "f"
    refine ⟨d, u, f, n, rfl, DAt.same s2 _ hu, hshf, hn, fun H3 s3 => ?_⟩
    have t3 := Tups.same s3
    have s3' := s2.trans s3
    have e3 := s3 _ _ e2
    have w3 := w2.tups t3
    walk_at "x"
    cases hP : partD (n : Int) f with
    | false =>
      walk_at "t"
      exact no (.inr (.inr hP)) _ s3'
    | true =>
      walk_at "f"
      rw [if_neg (by rw [hP]; rintro (h | h | h) <;> first | exact c1 h | exact c2 h | cases h)] at hT
      rcases partD_iff.mp hP with ⟨z, rfl, z0, z1⟩ | ⟨tb, l, r, rfl, ht, hl⟩
      · cases hu with
        | tup h1 hs =>
          rename_i a xs
          cases hs with
          | cons a1 hs =>
            cases a1
            cases hs with
            | cons a2 hs =>
              cases hs
              have h1 := s3' _ _ h1
              refine x_ixT (st_of h1) (show _ = some (V.str "leaf") from rfl) ?_
              walk_at "x"
              refine x_Eq rfl ?_
              rw [decide_eq_false (by decide)]
              walk_at "x"
              walk_at "f"
              exact ⟨g, by omega, _, _, as, ws, met + 1, rfl, s3', e3, w3, hshv, by omega, by omega, by omega, hT⟩
      · have hshc := hshf.of_tup
        cases hu with
        | tup h1 hs =>
          rename_i a xs
          cases hs with
          | cons a1 hs =>
            cases a1
            cases hs with
            | cons a2 hs =>
              cases hs with
              | cons a3 hs =>
                cases hs with
                | cons a4 hs =>
                  cases hs
                  rename_i vt vl vr
                  have h1 := s3' _ _ h1
                  refine x_ixT (st_of h1) (show _ = some (V.str "node") from rfl) ?_
                  walk_at "x"
                  refine x_Eq rfl ?_
                  rw [decide_eq_true rfl]
                  walk_at "x"
                  walk_at "t"
                  refine x_tyL e3 ?_
                  walk_at "x"
                  refine x_ixT (st_of h1) (show _ = some vl from rfl) ?_
                  walk_at "x"
                  refine ⟨by show 2 ≤ sizeLine; decide, fun b1 hb1 => ?_⟩
                  have u4 := same_upd (o := .tup [vl, V.int ((dp : Int) + 1)]) hb1
                  have e4 := u4 _ _ e3
                  have w4 := w3.tups (Tups.same u4)
                  have g1 := u4 _ _ h1
                  have p4 : (upd H3 b1 (.tup [vl, V.int ((dp : Int) + 1)])) b1 = some (.tup [vl, V.int ((dp : Int) + 1)]) := upd_same
                  have s4 := s3'.trans u4
                  generalize upd H3 b1 (.tup [vl, V.int ((dp : Int) + 1)]) = H4 at s4 e4 w4 g1 p4
                  walk_at "x"
                  refine x_ixT (st_of g1) (show _ = some vr from rfl) ?_
                  walk_at "x"
                  refine ⟨by show 2 ≤ sizeLine; decide, fun b2 hb2 => ?_⟩
                  have u5 := same_upd (o := .tup [vr, V.int ((dp : Int) + 1)]) hb2
                  have e5 := u5 _ _ e4
                  have w5 := w4.tups (Tups.same u5)
                  have p5 := u5 _ _ p4
                  have q5 : (upd H4 b2 (.tup [vr, V.int ((dp : Int) + 1)])) b2 = some (.tup [vr, V.int ((dp : Int) + 1)]) := upd_same
                  have s5 := s4.trans u5
                  generalize upd H4 b2 (.tup [vr, V.int ((dp : Int) + 1)]) = H5 at s5 e5 w5 p5 q5
                  walk_at "x"
                  refine ⟨by show 2 ≤ sizeLine; decide, fun z hz => ?_⟩
                  have u6 := same_upd (o := .lst [V.ref b1, V.ref b2]) hz
                  have e6 := u6 _ _ e5
                  have w6 := w5.tups (Tups.same u6)
                  have p6 := u6 _ _ p5
                  have q6 := u6 _ _ q5
                  have z6 : (upd H5 z (.lst [V.ref b1, V.ref b2])) z = some (.lst [V.ref b1, V.ref b2]) := upd_same
                  have s6 := s5.trans u6
                  generalize upd H5 z (.lst [V.ref b1, V.ref b2]) = H6 at s6 e6 w6 p6 q6 z6
                  have hwl := w6.1
                  walk_at "x"
                  refine ⟨w, z, _, _, rfl, rfl, e6, z6, by rw [List.length_map]; show _ + 2 ≤ sizeLine; exact Nat.le_of_lt (lt_line (by omega)), ?_⟩
                  have t7 : Tups H6 (upd H6 w (.lst (as.map V.ref ++ [V.ref b1, V.ref b2]))) := (Tups.refl H6).put (no_tupL e6)
                  have w7 : WtE d H H6 (as ++ [b1] ++ [b2]) (ws ++ [(l, dp + 1)] ++ [(r, dp + 1)]) := (w6.snoc p6 a3).snoc q6 a4
                  refine ⟨g, by omega, _, _, as ++ [b1] ++ [b2], ws ++ [(l, dp + 1)] ++ [(r, dp + 1)], met + 1, rfl, sput s6 hw0, by rw [upd_same, List.map_append, List.map_append, List.append_assoc]; rfl, w7.tups t7, fun x hx => ?_, by rw [List.length_append, List.length_append]; show ws.length + 1 + 1 ≤ _; omega, by omega, by omega, ?_⟩
                  · rcases List.mem_append.mp hx with hx | hx
                    · rcases List.mem_append.mp hx with hx | hx
                      · exact hshv x hx
                      · rw [List.mem_singleton.mp hx]
                        exact hshc l (by simp)
                    · rw [List.mem_singleton.mp hx]
                      exact hshc r (by simp)
                  · rw [hT, List.reverse_append, List.reverse_append]
                    rfl


/-- what check_tree lets pass -/
def sp_check_tree (CB : Addr) (K : PySem.W.Frag) : Sp := fun vs H Q E => ∃ (d : Addr) (v u : V) (e : PyData), vs = [v, u] ∧ DAt d H v e ∧ Sh e ∧ Odd H u ∧ (valsV u = false → E (.ref CB) none H) ∧ (∀ n : Nat, u = .int (n : Int) → 1 ≤ n → n ≤ 40 → (treeD (n : Int) e = false → ∀ H', Same H H' → E (.ref CB) none H') ∧ (treeD (n : Int) e = true → ∀ H', Same H H' → Q .non H'))
theorem ok_check_tree (T : Txt K mg) : FnOk P w K mg base (L2.CX P w) 6 T.a_check_tree T.fd_check_tree ["tree", "values"] (sp_check_tree T.E_BadTree K) := by
  refine T.F_check_tree.okX sc_check_tree (fun vs H Q E h => ?_) (fun cdv A outer s H vs Q E hr h => ?_)
  · obtain ⟨d, v, u, e, rfl, _⟩ := h
    rfl
  · obtain ⟨d, v, u, e, rfl, hv, hsh, hu, hE, hQ⟩ := h
    refine ⟨_, (pss_cons (ps_expr (pe_call (ok_check_values T) (hr.mono (by decide)) (by rfl) T.g_check_values T.F_check_values.kp T.b_check_values .nil (passes_call (takes_of rfl rfl rfl rfl) (fun _ _ _ _ h => h)) (pa_cons (pv 1) pa_nil)))
      (pss_one (ps_if (pt_not (pt_val (pe_call (ok_is_tree T) hr (by rfl) T.g_is_tree T.F_is_tree.kp T.b_is_tree .nil pass0 (pa_cons (pv 0) (pa_cons (pv 1) pa_nil)))))
      (pss_one (ps_raise rfl (takes_of rfl rfl rfl rfl) (pmk_own PySem.F.excBase_ValueError T.xE_BadTree T.gE_BadTree T.kE_BadTree (raises_own T.bE_BadTree T.tE_BadTree) (by exact rfl))))
      pss_nil))), ?_⟩
    walk_at "start"
    walk_at "x"
    refine ⟨u, rfl, hu, hE, fun hok => ?_⟩
    obtain ⟨n, rfl, n1, n4⟩ := valsV_iff.mp hok
    obtain ⟨q0, q1⟩ := hQ n rfl n1 n4
    walk_at "x"
    refine ⟨d, v, e, n, rfl, hv, hsh, n4, fun H1 s1 => ?_⟩
    walk_at "x"
    refine x_iteBN (fun h0 => ?_) (fun h0 => ?_)
    · exact q0 h0 H1 s1
    · exact q1 h0 H1 s1


/-- a tree that is none over so many values -/
def NoTree (H : Hp) (d : Addr) (v u : V) : Prop := ∃ e, DAt d H v e ∧ Sh e ∧ Odd H u ∧ ∀ n : Nat, u = .int (n : Int) → 1 ≤ n → n ≤ 40 → treeD (n : Int) e = false
def sp_tree_value (CB : Addr) (K : PySem.W.Frag) : Sp := fun vs H Q E => ∃ (d : Addr) (v u : V), vs = [v, u] ∧ NoTree H d v u ∧ ∀ H', Same H H' → E (.ref CB) none H'
theorem ok_tree_value (T : Txt K mg) : FnOk P w K mg base (L2.CX P w) 7 T.a_tree_value T.fd_tree_value ["tree", "values"] (sp_tree_value T.E_BadTree K) := by
  refine T.F_tree_value.okX sc_tree_value (fun vs H Q E h => ?_) (fun cdv A outer s H vs Q E hr h => ?_)
  · obtain ⟨d, v, u, rfl, _⟩ := h
    rfl
  · obtain ⟨d, v, u, rfl, ⟨e, hv, hsh, hu, hno⟩, hE⟩ := h
    refine ⟨_, (pss_cons (ps_expr (pe_call (ok_check_tree T) hr (by rfl) T.g_check_tree T.F_check_tree.kp T.b_check_tree .nil (passes_call (takes_of rfl rfl rfl rfl) (fun _ _ _ _ h => h)) (pa_cons (pv 0) (pa_cons (pv 1) pa_nil))))
      (PSs.nox (pss_one ps_never))), ?_⟩
    walk_at "start"
    walk_at "x"
    exact ⟨d, v, u, e, rfl, hv, hsh, hu, fun _ => hE H (Same.refl _), fun n hn n1 n4 => ⟨fun _ => hE, fun h => by rw [hno n hn n1 n4] at h; cases h⟩⟩


def sp_tree_cost (CB : Addr) (K : PySem.W.Frag) : Sp := fun vs H Q E => ∃ (d : Addr) (v u : V), vs = [v, u] ∧ NoTree H d v u ∧ ∀ H', Same H H' → E (.ref CB) none H'
theorem ok_tree_cost (T : Txt K mg) : FnOk P w K mg base (L2.CX P w) 7 T.a_tree_cost T.fd_tree_cost ["tree", "values"] (sp_tree_cost T.E_BadTree K) := by
  refine T.F_tree_cost.okX sc_tree_cost (fun vs H Q E h => ?_) (fun cdv A outer s H vs Q E hr h => ?_)
  · obtain ⟨d, v, u, rfl, _⟩ := h
    rfl
  · obtain ⟨d, v, u, rfl, ⟨e, hv, hsh, hu, hno⟩, hE⟩ := h
    refine ⟨_, (pss_cons (ps_expr (pe_call (ok_check_tree T) hr (by rfl) T.g_check_tree T.F_check_tree.kp T.b_check_tree .nil (passes_call (takes_of rfl rfl rfl rfl) (fun _ _ _ _ h => h)) (pa_cons (pv 0) (pa_cons (pv 1) pa_nil))))
      (pss_one ps_never)), ?_⟩
    walk_at "start"
    walk_at "x"
    exact ⟨d, v, u, e, rfl, hv, hsh, hu, fun _ => hE H (Same.refl _), fun n hn n1 n4 => ⟨fun _ => hE, fun h => by rw [hno n hn n1 n4] at h; cases h⟩⟩


def sp_compile_tree (CB : Addr) (K : PySem.W.Frag) : Sp := fun vs H Q E => ∃ (d : Addr) (v u : V), vs = [v, u] ∧ NoTree H d v u ∧ ∀ H', Same H H' → E (.ref CB) none H'
theorem ok_compile_tree (T : Txt K mg) : FnOk P w K mg base (L2.CX P w) 8 T.a_compile_tree T.fd_compile_tree ["tree", "values"] (sp_compile_tree T.E_BadTree K) := by
  refine T.F_compile_tree.okX sc_compile_tree (fun vs H Q E h => ?_) (fun cdv A outer s H vs Q E hr h => ?_)
  · obtain ⟨d, v, u, rfl, _⟩ := h
    rfl
  · obtain ⟨d, v, u, rfl, hno, hE⟩ := h
    refine ⟨_, (pss_cons (ps_if (pt_cmpR op_gt (pe_call (ok_tree_cost T) hr (by rfl) T.g_tree_cost T.F_tree_cost.kp T.b_tree_cost .nil (passes_call (takes_of rfl rfl rfl rfl) (fun _ _ _ _ h => h)) (pa_cons (pv 0) (pa_cons (pv 1) pa_nil))) (pe_glob (v := .int 20000) (by rfl) T.c_MOST_STEPS ⟨_, rfl⟩) (nomark _))
      (pss_one ps_never)
      pss_nil)
      (pss_cons ps_never
      (PSs.nox (pss_one ps_never)))), ?_⟩
    walk_at "start"
    walk_at "x"
    exact ⟨d, v, u, rfl, hno, hE⟩

/-- the least prime that is at least twice the number, and at least 3 -/
structure LPr (v : Nat) (p : Int) : Prop where
  pr : PrimeI p
  lo : 3 ≤ p
  lo2 : 2 * (v : Int) ≤ p
  hi : p ≤ 83
  least : ∀ q : Int, 3 ≤ q → 2 * (v : Int) ≤ q → q < p → ¬ PrimeI q
theorem prime83 : PrimeI 83 := ⟨by decide, fun d h2 hd => by
  have h10 : d < 10 := by
    by_cases h : d < 10
    · exact h
    · have : (10 : Int) * 10 ≤ d * d := Int.mul_le_mul (by omega) (by omega) (by decide) (by omega)
      omega
  have e : d = 2 ∨ d = 3 ∨ d = 4 ∨ d = 5 ∨ d = 6 ∨ d = 7 ∨ d = 8 ∨ d = 9 := by omega
  rcases e with rfl | rfl | rfl | rfl | rfl | rfl | rfl | rfl <;> decide⟩
theorem LPr.uniq {v : Nat} {p q : Int} (h : LPr v p) (g : LPr v q) : p = q := by
  by_cases h1 : p < q
  · exact absurd h.pr (g.least p h.lo h.lo2 h1)
  · by_cases h2 : q < p
    · exact absurd g.pr (h.least q g.lo g.lo2 h2)
    · omega

def sp_prime_of (CB : Addr) (K : PySem.W.Frag) : Sp := fun vs H Q E => ∃ u : V, vs = [u] ∧ Odd H u ∧ (valsV u = false → E (.ref CB) none H) ∧ (valsV u = true → ∀ p : Int, Q (.int p) H)
theorem ok_prime_of (T : Txt K mg) : FnOk P w K mg base (L2.CX P w) 3 T.a_prime_of T.fd_prime_of ["values"] (sp_prime_of T.E_BadTree K) := by
  refine T.F_prime_of.okX sc_prime_of (fun vs H Q E h => ?_) (fun cdv A outer s H vs Q E hr h => ?_)
  · obtain ⟨u, rfl, _⟩ := h
    rfl
  · obtain ⟨u, rfl, hu, hE, hQ⟩ := h
    refine ⟨_, (pss_cons (ps_expr (pe_call (ok_check_values T) hr (by rfl) T.g_check_values T.F_check_values.kp T.b_check_values .nil (passes_call (takes_of rfl rfl rfl rfl) (fun _ _ _ _ h => h)) (pa_cons (pv 0) pa_nil)))
      (PSs.nox (pss_cons (ps_set (i := 1) sc_prime_of.nd rfl (.inl rfl) (pe_callB (id := "max") (r := rMax2) (cr_max2 rfl) (by rfl) T.m_max (by decide +kernel) (pa_cons (pe_glob (v := .int 3) (by rfl) T.c_LEAST_PRIME ⟨_, rfl⟩) (pa_cons (pe_op op_mul pe_int (pv 0)) pa_nil))))
      (pss_cons (ps_while PassesOwn.never (pt_not (pt_val (pe_call (ok_is_prime T) (hr.mono (by decide)) (by rfl) T.g_is_prime T.F_is_prime.kp T.b_is_prime .nil pass0 (pa_cons (pv 1) pa_nil))))
      (pss_one (ps_aug (i := 1) sc_prime_of.nd rfl (.inl rfl) pe_int ip_add)))
      (pss_one (ps_ret (pv 1))))))), ?_⟩
    walk_at "start"
    walk_at "x"
    refine ⟨u, rfl, hu, hE, fun hok => ?_⟩
    have q := hQ hok
    obtain ⟨n, rfl, h1, h2⟩ := valsV_iff.mp hok
    clear hE hQ hok hu
    walk_at "x"
    have hm : ∃ m : Int, (if 2 * (n : Int) > 3 then 2 * (n : Int) else 3) = m ∧ 3 ≤ m ∧ 2 * (n : Int) ≤ m ∧ m ≤ 83 ∧ ∀ q : Int, 3 ≤ q → 2 * (n : Int) ≤ q → q < m → ¬ PrimeI q := by
      split
      · exact ⟨_, rfl, by omega, by omega, by omega, fun q a b c => by omega⟩
      · exact ⟨_, rfl, by omega, by omega, by omega, fun q a b c => by omega⟩
    obtain ⟨m, em, m1, m2, m3, m4⟩ := hm
    rw [em]
    walk_at "x"
    refine x_while (fun k σ' H' => ∃ m : Int, σ' = [some (.int (n : Int)), some (.int m)] ∧ H' = H ∧ k = (83 - m).toNat ∧ 3 ≤ m ∧ 2 * (n : Int) ≤ m ∧ m ≤ 83 ∧ ∀ q : Int, 3 ≤ q → 2 * (n : Int) ≤ q → q < m → ¬ PrimeI q) _ ⟨m, rfl, rfl, rfl, m1, m2, m3, m4⟩ ?_
    clear m1 m2 m3 m4 em m
    rintro k σ' H' ⟨m, rfl, rfl, rfl, m1, m2, m3, m4⟩
    by_cases hp : PrimeI m
    · refine ⟨false, fun R r => ?_, (fun h => by cases h), fun _ => ?_⟩
      · walk_at "x"
        refine ⟨m, rfl, by omega, by omega, fun b hb => ?_⟩
        rw [hb.mpr hp]
        walk_at "x"
        exact r
      · walk_at "x"
        exact q m
    · refine ⟨true, fun R r => ?_, fun _ => ?_, (fun h => by cases h)⟩
      · walk_at "x"
        refine ⟨m, rfl, by omega, by omega, fun b hb => ?_⟩
        have e : b = false := by
          cases b with
          | false => rfl
          | true => exact absurd (hb.mp rfl) hp
        rw [e]
        walk_at "x"
        exact r
      · have hlt : m < 83 := by
          by_cases h : m < 83
          · exact h
          · exact absurd (show PrimeI m by rw [show m = 83 by omega]; exact prime83) hp
        walk_at "x"
        refine ⟨_, rfl, ?_⟩
        walk_at "x"
        refine ⟨_, _, rfl, rfl, ?_⟩
        refine ⟨_, ?_, m + 1, rfl, rfl, rfl, by omega, by omega, by omega, fun q a b c => ?_⟩
        · omega
        · by_cases e : q = m
          · rw [e]; exact hp
          · exact m4 q a b (by omega)


theorem kit4 {K : PySem.W.Frag} {t a b c e : Value} (h1 : PySem.W.kitOne K t a = some false) (h2 : PySem.W.kitOne K t b = some false) (h3 : PySem.W.kitOne K t c = some false) (h4 : PySem.W.kitOne K t e = some false) : PySem.W.kitAny K t [a, b, c, e] = some false :=
  kitAny_cons h1 (fun _ => kitAny_cons h2 (fun _ => kitAny_cons h3 (fun _ => kitAny_cons h4 (fun _ => kitAny_nil) (fun z => nomatch z)) (fun z => nomatch z)) (fun z => nomatch z)) (fun z => nomatch z)
def validT (u : V) (e : PyData) : Bool := match u with
  | .int i => valsV (.int i) && treeD i e
  | _ => false
theorem validT_no {u : V} {e : PyData} (h : valsV u = false) : validT u e = false := by
  cases u with
  | int i =>
    show (valsV (.int i) && treeD i e) = false
    rw [h, Bool.false_and]
  | _ => rfl
theorem validT_int {n : Nat} {e : PyData} (h1 : 1 ≤ n) (h2 : n ≤ 40) : validT (.int (n : Int)) e = treeD (n : Int) e := by
  show (valsV (.int (n : Int)) && treeD (n : Int) e) = _
  rw [valsV_iff.mpr ⟨n, rfl, h1, h2⟩, Bool.true_and]
def sp_law_refused (K : PySem.W.Frag) : Sp := fun vs H Q _ => ∃ (d : Addr) (v u : V) (e : PyData) (wh : Nat), vs = [v, u, .int (wh : Int)] ∧ DAt d H v e ∧ Sh e ∧ Odd H u ∧ wh ≤ 4 ∧ (1 ≤ wh → wh < 4 → validT u e = false) ∧ (wh < 4 → ∀ H', Same H H' → Q (.bl (!validT u e)) H') ∧ (wh = 4 → ∀ H', Same H H' → Q (.bl (!valsV u)) H')
theorem ok_law_refused (T : Txt K mg) : FnOk P w K mg base CX0 9 T.a_law_refused T.fd_law_refused ["tree", "values", "which"] (sp_law_refused K) := by
  refine T.F_law_refused.ok sc_law_refused (fun vs H Q E h => ?_) (fun cdv A outer s H vs Q E hr h => ?_)
  · obtain ⟨d, v, u, e, wh, rfl, _⟩ := h
    rfl
  · obtain ⟨d, v, u, e, wh, rfl, hv, hsh, hu, hw, hbad, q, q4⟩ := h
    refine ⟨_, (pss_cons (ps_try_as (i := 3) rfl rfl sc_law_refused.nd rfl rfl ⟨rfl, by decide, .inl T.gE_BadTree⟩ takes0 (fun W pn xe tk _ => (pss_cons (ps_if (pt_cmpR op_eq (pv 2) pe_int (nomark _))
      (pss_one (ps_ret (pe_cmpR op_notN1 (pe_callS (sp := sp_check_tree T.E_BadTree K) (E := WE W) (ok_check_tree T) (hr.mono (by decide)) (by rfl) T.g_check_tree T.F_check_tree.kp T.b_check_tree (fun σ => passAt tk σ) (pa_cons (pv 0) (pa_cons (pv 1) pa_nil))) pe_non (nomark _))))
      pss_nil)
      (pss_one (ps_if (pt_cmpR op_eq (pv 2) pe_int (nomark _))
      (pss_one (ps_expr (pe_callS (sp := sp_tree_value T.E_BadTree K) (E := WE W) (ok_tree_value T) (hr.mono (by decide)) (by rfl) T.g_tree_value T.F_tree_value.kp T.b_tree_value (fun σ => passAt tk σ) (pa_cons (pv 0) (pa_cons (pv 1) pa_nil)))))
      (pss_one (ps_if (pt_cmpR op_eq (pv 2) pe_int (nomark _))
      (pss_one (ps_expr (pe_callS (sp := sp_tree_cost T.E_BadTree K) (E := WE W) (ok_tree_cost T) (hr.mono (by decide)) (by rfl) T.g_tree_cost T.F_tree_cost.kp T.b_tree_cost (fun σ => passAt tk σ) (pa_cons (pv 0) (pa_cons (pv 1) pa_nil)))))
      (pss_one (ps_if (pt_cmpR op_eq (pv 2) pe_int (nomark _))
      (pss_one (ps_expr (pe_callS (sp := sp_compile_tree T.E_BadTree K) (E := WE W) (ok_compile_tree T) hr (by rfl) T.g_compile_tree T.F_compile_tree.kp T.b_compile_tree (fun σ => passAt tk σ) (pa_cons (pv 0) (pa_cons (pv 1) pa_nil)))))
      (pss_one (ps_expr (pe_callS (sp := sp_prime_of T.E_BadTree K) (E := WE W) (ok_prime_of T) (hr.mono (by decide)) (by rfl) T.g_prime_of T.F_prime_of.kp T.b_prime_of (fun σ => passAt tk σ) (pa_cons (pv 1) pa_nil))))))))))))
      (fun a oe cls d pn hz hf => (pss_one (ps_ret (pe_and (pe_callB (id := "isinstance") (r := rIsEQ K a cls d) (call_isEQ rfl hz hf) (by rfl) T.m_isinstance (by decide +kernel) (pa_cons (pv 3) (pa_cons (pe_glob (v := .ref T.E_BrimfulError) (by rfl) T.gE_BrimfulError rfl) pa_nil))) (pe_one (pe_not (pe_callB (id := "isinstance") (r := rIsEQT K a cls d) (call_isEQT rfl hz hf) (by rfl) T.m_isinstance (by decide +kernel) (pa_cons (pv 3) (pa_cons (pe_tup (pa_cons (pe_glob (v := .ref T.E_BadMemory) (by rfl) T.gE_BadMemory rfl) (pa_cons (pe_glob (v := .ref T.E_BadSource) (by rfl) T.gE_BadSource rfl) (pa_cons (pe_glob (v := .ref T.E_BadStep) (by rfl) T.gE_BadStep rfl) (pa_cons (pe_glob (v := .ref T.E_TooLong) (by rfl) T.gE_TooLong rfl) pa_nil))))) pa_nil))))))))))
      (pss_one (ps_ret pe_bl))), ?_⟩
    walk_at "start"
    have caught : wh < 4 → validT u e = false → ∀ H', Same H H' → Q (.bl true) H' := fun h4 hb H' s => by
      have := q h4 H' s
      rw [hb] at this
      exact this
    walk_at "x"
    refine x_ite (fun w0 => ?_) (fun w0 => ?_)
    · walk_at "x"
      refine x_callS ?_
      walk_at "x"
      refine ⟨d, v, u, e, rfl, hv, hsh, hu, fun hb => ?_, fun n hn n1 n4 => ⟨fun hb H' s => ?_, fun hb H' s => ?_⟩⟩
      · skip
        refine ⟨true, PySem.W.exm_ref T.bE_BadTree T.dE_BadTree T.tE_BadTree T.sE_BadTree_BadTree, (fun _ a ha => ?_), (fun z => nomatch z)⟩
        walk_at "x"
        refine ⟨_, _, true, rfl, rfl, T.cE_BadTree, rfl, kit_ref T.dE_BrimfulError T.tE_BrimfulError T.sE_BadTree_BrimfulError T.sE_BrimfulError_BrimfulError, ?_⟩
        walk_at "x"
        walk_at "t"
        refine ⟨by show 4 ≤ sizeLine; decide, fun r hr => ?_⟩
        walk_at "x"
        refine ⟨_, r, _, _, false, rfl, rfl, T.cE_BadTree, rfl, upd_same, .cons (.own _) (.cons (.own _) (.cons (.own _) (.cons (.own _) .nil))), kit4 (kit_ref T.dE_BadMemory T.tE_BadMemory T.sE_BadTree_BadMemory T.sE_BadMemory_BadMemory) (kit_ref T.dE_BadSource T.tE_BadSource T.sE_BadTree_BadSource T.sE_BadSource_BadSource) (kit_ref T.dE_BadStep T.tE_BadStep T.sE_BadTree_BadStep T.sE_BadStep_BadStep) (kit_ref T.dE_TooLong T.tE_TooLong T.sE_BadTree_TooLong T.sE_TooLong_TooLong), ?_⟩
        walk_at "x"
        exact caught (by omega) (validT_no hb) _ (same_upd hr)
      · subst hn
        refine ⟨true, PySem.W.exm_ref T.bE_BadTree T.dE_BadTree T.tE_BadTree T.sE_BadTree_BadTree, (fun _ a ha => ?_), (fun z => nomatch z)⟩
        walk_at "x"
        refine ⟨_, _, true, rfl, rfl, T.cE_BadTree, rfl, kit_ref T.dE_BrimfulError T.tE_BrimfulError T.sE_BadTree_BrimfulError T.sE_BrimfulError_BrimfulError, ?_⟩
        walk_at "x"
        walk_at "t"
        refine ⟨by show 4 ≤ sizeLine; decide, fun r hr => ?_⟩
        walk_at "x"
        refine ⟨_, r, _, _, false, rfl, rfl, T.cE_BadTree, rfl, upd_same, .cons (.own _) (.cons (.own _) (.cons (.own _) (.cons (.own _) .nil))), kit4 (kit_ref T.dE_BadMemory T.tE_BadMemory T.sE_BadTree_BadMemory T.sE_BadMemory_BadMemory) (kit_ref T.dE_BadSource T.tE_BadSource T.sE_BadTree_BadSource T.sE_BadSource_BadSource) (kit_ref T.dE_BadStep T.tE_BadStep T.sE_BadTree_BadStep T.sE_BadStep_BadStep) (kit_ref T.dE_TooLong T.tE_TooLong T.sE_BadTree_TooLong T.sE_TooLong_TooLong), ?_⟩
        walk_at "x"
        exact caught (by omega) (by rw [validT_int n1 n4]; exact hb) _ (s.trans (same_upd hr))
      · walk_at "x"
        subst hn
        have := q (by omega) H' s
        rw [validT_int n1 n4, hb] at this
        exact this
    have hno : wh < 4 → NoTree H d v u := fun h4 => ⟨e, hv, hsh, hu, fun n hn n1 n4 => by
      subst hn
      rw [← validT_int n1 n4]
      exact hbad (by omega) h4⟩
    walk_at "x"
    refine x_ite (fun w1 => ?_) (fun w1 => ?_)
    · walk_at "x"
      refine x_callS ?_
      walk_at "x"
      refine ⟨d, v, u, rfl, hno (by omega), fun H' s => ?_⟩
      refine ⟨true, PySem.W.exm_ref T.bE_BadTree T.dE_BadTree T.tE_BadTree T.sE_BadTree_BadTree, (fun _ a ha => ?_), (fun z => nomatch z)⟩
      walk_at "x"
      refine ⟨_, _, true, rfl, rfl, T.cE_BadTree, rfl, kit_ref T.dE_BrimfulError T.tE_BrimfulError T.sE_BadTree_BrimfulError T.sE_BrimfulError_BrimfulError, ?_⟩
      walk_at "x"
      walk_at "t"
      refine ⟨by show 4 ≤ sizeLine; decide, fun r hr => ?_⟩
      walk_at "x"
      refine ⟨_, r, _, _, false, rfl, rfl, T.cE_BadTree, rfl, upd_same, .cons (.own _) (.cons (.own _) (.cons (.own _) (.cons (.own _) .nil))), kit4 (kit_ref T.dE_BadMemory T.tE_BadMemory T.sE_BadTree_BadMemory T.sE_BadMemory_BadMemory) (kit_ref T.dE_BadSource T.tE_BadSource T.sE_BadTree_BadSource T.sE_BadSource_BadSource) (kit_ref T.dE_BadStep T.tE_BadStep T.sE_BadTree_BadStep T.sE_BadStep_BadStep) (kit_ref T.dE_TooLong T.tE_TooLong T.sE_BadTree_TooLong T.sE_TooLong_TooLong), ?_⟩
      walk_at "x"
      exact caught (by omega) (hbad (by omega) (by omega)) _ (s.trans (same_upd hr))
    walk_at "x"
    refine x_ite (fun w2 => ?_) (fun w2 => ?_)
    · walk_at "x"
      refine x_callS ?_
      walk_at "x"
      refine ⟨d, v, u, rfl, hno (by omega), fun H' s => ?_⟩
      refine ⟨true, PySem.W.exm_ref T.bE_BadTree T.dE_BadTree T.tE_BadTree T.sE_BadTree_BadTree, (fun _ a ha => ?_), (fun z => nomatch z)⟩
      walk_at "x"
      refine ⟨_, _, true, rfl, rfl, T.cE_BadTree, rfl, kit_ref T.dE_BrimfulError T.tE_BrimfulError T.sE_BadTree_BrimfulError T.sE_BrimfulError_BrimfulError, ?_⟩
      walk_at "x"
      walk_at "t"
      refine ⟨by show 4 ≤ sizeLine; decide, fun r hr => ?_⟩
      walk_at "x"
      refine ⟨_, r, _, _, false, rfl, rfl, T.cE_BadTree, rfl, upd_same, .cons (.own _) (.cons (.own _) (.cons (.own _) (.cons (.own _) .nil))), kit4 (kit_ref T.dE_BadMemory T.tE_BadMemory T.sE_BadTree_BadMemory T.sE_BadMemory_BadMemory) (kit_ref T.dE_BadSource T.tE_BadSource T.sE_BadTree_BadSource T.sE_BadSource_BadSource) (kit_ref T.dE_BadStep T.tE_BadStep T.sE_BadTree_BadStep T.sE_BadStep_BadStep) (kit_ref T.dE_TooLong T.tE_TooLong T.sE_BadTree_TooLong T.sE_TooLong_TooLong), ?_⟩
      walk_at "x"
      exact caught (by omega) (hbad (by omega) (by omega)) _ (s.trans (same_upd hr))
    walk_at "x"
    refine x_ite (fun w3 => ?_) (fun w3 => ?_)
    · walk_at "x"
      refine x_callS ?_
      walk_at "x"
      refine ⟨d, v, u, rfl, hno (by omega), fun H' s => ?_⟩
      refine ⟨true, PySem.W.exm_ref T.bE_BadTree T.dE_BadTree T.tE_BadTree T.sE_BadTree_BadTree, (fun _ a ha => ?_), (fun z => nomatch z)⟩
      walk_at "x"
      refine ⟨_, _, true, rfl, rfl, T.cE_BadTree, rfl, kit_ref T.dE_BrimfulError T.tE_BrimfulError T.sE_BadTree_BrimfulError T.sE_BrimfulError_BrimfulError, ?_⟩
      walk_at "x"
      walk_at "t"
      refine ⟨by show 4 ≤ sizeLine; decide, fun r hr => ?_⟩
      walk_at "x"
      refine ⟨_, r, _, _, false, rfl, rfl, T.cE_BadTree, rfl, upd_same, .cons (.own _) (.cons (.own _) (.cons (.own _) (.cons (.own _) .nil))), kit4 (kit_ref T.dE_BadMemory T.tE_BadMemory T.sE_BadTree_BadMemory T.sE_BadMemory_BadMemory) (kit_ref T.dE_BadSource T.tE_BadSource T.sE_BadTree_BadSource T.sE_BadSource_BadSource) (kit_ref T.dE_BadStep T.tE_BadStep T.sE_BadTree_BadStep T.sE_BadStep_BadStep) (kit_ref T.dE_TooLong T.tE_TooLong T.sE_BadTree_TooLong T.sE_TooLong_TooLong), ?_⟩
      walk_at "x"
      exact caught (by omega) (hbad (by omega) (by omega)) _ (s.trans (same_upd hr))
    walk_at "x"
    refine x_callS ?_
    walk_at "x"
    refine ⟨u, rfl, hu, fun hb => ?_, fun hb p => ?_⟩
    · have q5 : ∀ H', Same H H' → Q (.bl true) H' := fun H' s => by
        have := q4 (by omega) H' s
        rw [hb] at this
        exact this
      refine ⟨true, PySem.W.exm_ref T.bE_BadTree T.dE_BadTree T.tE_BadTree T.sE_BadTree_BadTree, (fun _ a ha => ?_), (fun z => nomatch z)⟩
      walk_at "x"
      refine ⟨_, _, true, rfl, rfl, T.cE_BadTree, rfl, kit_ref T.dE_BrimfulError T.tE_BrimfulError T.sE_BadTree_BrimfulError T.sE_BrimfulError_BrimfulError, ?_⟩
      walk_at "x"
      walk_at "t"
      refine ⟨by show 4 ≤ sizeLine; decide, fun r hr => ?_⟩
      walk_at "x"
      refine ⟨_, r, _, _, false, rfl, rfl, T.cE_BadTree, rfl, upd_same, .cons (.own _) (.cons (.own _) (.cons (.own _) (.cons (.own _) .nil))), kit4 (kit_ref T.dE_BadMemory T.tE_BadMemory T.sE_BadTree_BadMemory T.sE_BadMemory_BadMemory) (kit_ref T.dE_BadSource T.tE_BadSource T.sE_BadTree_BadSource T.sE_BadSource_BadSource) (kit_ref T.dE_BadStep T.tE_BadStep T.sE_BadTree_BadStep T.sE_BadStep_BadStep) (kit_ref T.dE_TooLong T.tE_TooLong T.sE_BadTree_TooLong T.sE_TooLong_TooLong), ?_⟩
      walk_at "x"
      exact q5 _ (same_upd hr)
    · walk_at "x"
      have := q4 (by omega) _ (Same.refl _)
      rw [hb] at this
      exact this


end
end Br
namespace Br
open PySem PySem.Spec PyProof.Rows L2
local macro_rules | `(tactic| walk_at "x1") => `(tactic| (with_reducible first
  | refine Br.x_seq ?_ | refine Br.x_set ?_ | refine Br.x_asg ?_ | refine Br.x_next ?_ | refine Br.x_ret ?_ | refine Br.x_retN ?_ | refine Br.x_drop ?_ | refine Br.x_if ?_ | refine Br.x_brk ?_ | refine Br.x_cont ?_
  | refine Br.x_c ?_ | refine Br.x_op ?_ | refine Br.x_un ?_ | refine Br.x_I0 ?_ | refine Br.x_U ?_ | refine Br.x_EqI ?_ | refine Br.x_NeI ?_ | refine Br.x_EqB ?_ | refine Br.x_iN ?_ | refine Br.x_int1 ?_ | refine Br.x_min2 ?_ | refine Br.x_max2 ?_ | refine Br.x_nN ?_ | refine Br.x_ifE ?_
  | refine Br.x_test (b := ()) ?_ | refine Br.x_tB ?_ | refine Br.x_bl ?_ | refine Br.x_and ?_ | refine Br.x_or ?_ | refine Br.x_not ?_ | refine Br.x_andV ?_ | refine Br.x_orV ?_ | refine Br.x_notV ?_ | refine Br.x_blP ?_
  | refine Br.x_nil ?_ | refine Br.x_cons ?_ | refine Br.x_call ?_ | refine Br.x_CB ?_ | refine Br.x_BM ?_ | refine Br.x_tup ?_ | refine Br.x_lst ?_ | refine Br.x_chain ?_ | refine Br.x_par ?_ | refine Br.x_gSub ?_ | refine Br.x_gName ?_ | refine Br.x_fld ?_ | refine Br.x_fldS ?_ | refine Br.x_match ?_ | refine Br.x_else ?_ | refine Br.x_noCase ?_))
local macro_rules | `(tactic| walk_at "xv") => `(tactic| ((with_reducible refine' Br.x_var ?hvar ?_); (case hvar => rfl)))
local macro_rules | `(tactic| walk_at "xd") => `(tactic| (dsimp only [List.set_cons_zero, List.set_cons_succ, List.cons_append, List.nil_append, List.append_nil]))
local macro_rules | `(tactic| walk_at "xi") => `(tactic| ((with_reducible refine Br.x_I ?hside ?_); (case hside => first | exact Br.mul_r (by decide) (by decide) | exact Br.mul_l (by decide) (by decide) | exact Br.mul_l (by omega) (by omega) | exact Br.mul_r (by omega) (by omega) | (show (0 : Int) < _; first | decide | omega) | exact ⟨by decide, by decide⟩ | exact ⟨by omega, by omega⟩ | exact ⟨by decide, by decide, by decide⟩)))
local macro_rules | `(tactic| walk_at "x") => `(tactic| (repeat (first | walk_at "x1" | walk_at "xv" | walk_at "xi" | walk_at "xd")))
local macro_rules | `(tactic| walk_at "start") => `(tactic| (simp only [L2.start, List.map_cons, List.map_nil, List.length_cons, List.length_nil, Nat.reduceAdd, Nat.reduceSub, List.replicate, List.cons_append, List.nil_append, List.append_nil]))
local macro_rules | `(tactic| walk_at "isi") => `(tactic| first
  | refine Br.x_isi (b := true) (.base (.int _)) (by decide +kernel) ?_ | refine Br.x_isi (b := false) (.base (.int _)) (by decide +kernel) ?_
  | refine Br.x_isi (b := true) (.base (.bl _)) (by decide +kernel) ?_ | refine Br.x_isi (b := false) (.base (.bl _)) (by decide +kernel) ?_
  | refine Br.x_isi (b := false) (.base .non) (by decide +kernel) ?_
  | refine Br.x_isi (b := true) (.base (.str _)) (by decide +kernel) ?_ | refine Br.x_isi (b := false) (.base (.str _)) (by decide +kernel) ?_
  | refine Br.x_isi (b := true) (.base (.tup (by assumption))) (by decide +kernel) ?_ | refine Br.x_isi (b := false) (.base (.tup (by assumption))) (by decide +kernel) ?_
  | refine Br.x_isi (b := true) (.base (.lst (by assumption))) (by decide +kernel) ?_ | refine Br.x_isi (b := false) (.base (.lst (by assumption))) (by decide +kernel) ?_)
local macro_rules | `(tactic| walk_at "f") => `(tactic| (refine L2.iteF ?_; walk_at "x"))
local macro_rules | `(tactic| walk_at "t") => `(tactic| (refine L2.iteT ?_; walk_at "x"))
local macro_rules | `(tactic| walk_at "is") => `(tactic| (walk_at "isi"; walk_at "x"))
local macro_rules | `(tactic| walk_at "xb") => `(tactic| (simp only [Br.bindS, List.set_cons_zero, List.set_cons_succ]; walk_at "x"))

section
variable {P : Program} {w : World} {K : PySem.W.Frag} {mg : Str → Option Value} {base : Heap}

/-! ### the law of trees: drawn trees -/
theorem x_lcRT2 {σ : L2.St} {H : Hp} {Q : VK} {ta tc : TE} {tt : TT} {j : Nat} {te : TE} {vs : List Nat} (lo n : Int) (P : Addr → Nat → Hp → Prop) (hn : ∀ R : V → Hp → Prop, R (.int lo) H → ta σ H R) (hn2 : ∀ R : V → Hp → Prop, R (.int n) H → tc σ H R) (h1 : -(2 ^ 62) ≤ lo) (h2 : lo < 2 ^ 62) (h3 : -(2 ^ 62) ≤ n) (h4 : n < 2 ^ 62) (h0 : ∀ p, H p = none → P p 0 (L2.upd H p (.lst [])))
    (hw : ∀ x, wipe ((wipe σ vs).set j (some x)) vs = wipe σ vs)
    (hs : ∀ p (i : Nat) H', H p = none → lo + (i : Int) < n → P p i H' → tt ((wipe σ vs).set j (some (.int (lo + (i : Int))))) H' fun b H3 => if b = true then te ((wipe σ vs).set j (some (.int (lo + (i : Int))))) H3 fun y H4 => ∃ acc, H4 p = some (.lst acc) ∧ acc.length < sizeLine ∧ P p (i + 1) (L2.upd H4 p (.lst (acc ++ [y]))) else P p (i + 1) H3)
    (hd : ∀ p H', H p = none → P p (n - lo).toNat H' → Q (.ref p) H') : tLc (iRng2 (tCons ta (tCons tc tNil))) (gName j) tt te vs σ H Q := by
  refine hn _ (hn2 _ ⟨lo, n, rfl, ⟨h1, h2, h3, h4⟩, fun p hp => ?_⟩)
  refine lc_range (lo := lo) (Qd := fun H' => Q (.ref p) H') (P p) (h0 p hp) (fun i H' hi q => ?_) fun H' q => hd p H' hp q
  exact ⟨hw _, hs p i H' hp (by omega) q⟩

theorem keep_tups {d n : Addr} {H H' : Hp} (k : Keep d H H') (h : Dr H d n) : Tups H H' := by
  obtain ⟨ns, z, h1, _⟩ := h
  exact Tups.keep k h1
/-- rows so far of a table -/
def RowsJ (H0 : Hp) (n : Nat) (d nn o : Addr) (i : Nat) (H : Hp) : Prop := Dr H d nn ∧ Keep d H0 H ∧ o ≠ d ∧ o ≠ nn ∧ ∃ (as : List Addr) (t : List (List Int)), H o = some (.lst (as.map V.ref)) ∧ as.length = i ∧ t.length = i ∧
  (∀ (k : Nat) r b, t[k]? = some r → as[k]? = some b → H b = some (.tup (r.map V.int))) ∧ ∀ (k : Nat) r, t[k]? = some r → r.length = n ∧ Rg 0 n r
theorem RowsJ.add {H5 H6 H7 : Hp} {n k : Nat} {d nn o : Addr} {as : List Addr} {t : List (List Int)} {row : List Int} (ho : H5 o = none) (hk6 : Keep d H5 H6) (hD6 : Dr H6 d nn) (hod : o ≠ d) (hon : o ≠ nn) (hO : H6 o = some (.lst (as.map V.ref))) (hal : as.length = k) (htl : t.length = k)
    (hrow : ∀ (k : Nat) r b, t[k]? = some r → as[k]? = some b → H6 b = some (.tup (r.map V.int))) (hrz : ∀ (k : Nat) r, t[k]? = some r → r.length = n ∧ Rg 0 n r)
    (hD7 : Dr H7 d nn) (hk7 : Keep d H6 H7) (hrl : row.length = n) (hrg : Rg 0 n row) {l : Addr} (hll : H7 l = none) :
    (upd H7 l (.tup (row.map V.int))) o = some (.lst (as.map V.ref)) ∧ RowsJ H5 n d nn o (k + 1) (upd (upd H7 l (.tup (row.map V.int))) o (.lst (as.map V.ref ++ [V.ref l]))) := by
  have hO7 := hk7 _ _ hO hod
  have hlo : o ≠ l := ne_of_none hO7 hll
  have hl5 : H5 l = none := hk6.free hD6 (hk7.free hD7 hll)
  refine ⟨by rw [upd_ne hlo]; exact hO7, (hD7.upd0 hll).upd hod hon, kput (kput (hk6.trans hk7) hl5) ho, hod, hon, as ++ [l], t ++ [row], by rw [upd_same, List.map_append]; rfl, by rw [List.length_append, hal]; rfl, by rw [List.length_append, htl]; rfl, fun k2 r b e1 e2 => ?_, fun k2 r e1 => ?_⟩
  · rcases snoc_at htl e1 with ⟨h1, e1⟩ | ⟨rfl, rfl⟩
    · rcases snoc_at hal e2 with ⟨h2, e2⟩ | ⟨rfl, rfl⟩
      · have hb7 := keep_tups hk7 hD6 _ _ (hrow k2 r b e1 e2)
        rw [upd_ne (ne_of hb7 hO7 (by intro z; cases z)), upd_ne (ne_of_none hb7 hll)]
        exact hb7
      · omega
    · rcases snoc_at hal e2 with ⟨h2, e2⟩ | ⟨_, rfl⟩
      · omega
      · rw [upd_ne hlo.symm, upd_same]
  · rcases snoc_at htl e1 with ⟨h1, e1⟩ | ⟨rfl, rfl⟩
    · exact hrz k2 r e1
    · exact ⟨hrl, hrg⟩

def sp_law_table (K : PySem.W.Frag) : Sp := fun vs H Q _ => ∃ (d n : Addr) (m : Nat), vs = [.ref d, .int (m : Int)] ∧ 1 ≤ m ∧ m ≤ 40 ∧ Dr H d n ∧ RetG d n (fun v H' => ∃ (l : Addr) (t : List (List Int)), v = .ref l ∧ TbAt H' l t ∧ IsTab m t ∧ t.length = m) H Q
theorem ok_law_table (T : Txt K mg) : FnOk P w K mg base CX0 3 T.a_law_table T.fd_law_table ["draws", "values"] (sp_law_table K) := by
  refine T.F_law_table.ok sc_law_table (fun vs H Q E h => ?_) (fun cdv A outer s H vs Q E hr h => ?_)
  · obtain ⟨d, n, m, rfl, _⟩ := h
    rfl
  · obtain ⟨d, nn, n, rfl, hn1, hn2, hD, q⟩ := h
    refine ⟨_, (pss_cons (ps_set (i := 2) sc_law_table.nd rfl (.inl rfl) (pe_op op_mod (pe_call (ok_law_draw T) hr (by rfl) T.g_law_draw T.F_law_draw.kp T.b_law_draw .nil pass0 (pa_cons (pv 0) pa_nil)) pe_int))
      (pss_cons (ps_set (i := 3) sc_law_table.nd rfl (.inl rfl) (pe_lst pa_nil))
      (pss_cons (ps_for PassesOwn.never rfl (pi_range1 (by rfl) T.m_range (pa_cons (pv 1) pa_nil)) (pg_name (i := 4) sc_law_table.nd rfl (Or.inl rfl))
      (pss_cons (ps_set (i := 5) sc_law_table.nd rfl (.inl rfl) (pe_lst pa_nil))
      (pss_cons (ps_for PassesOwn.never rfl (pi_range1 (by rfl) T.m_range (pa_cons (pv 1) pa_nil)) (pg_name (i := 6) sc_law_table.nd rfl (Or.inl rfl))
      (pss_one (ps_if (pt_cmpR op_eq (pv 2) pe_int (nomark _))
      (pss_one (ps_expr (pe_bm PySem.F.plainAttrs_list PySem.F.slot_list_append PySem.F.type_list_append mt_append (pv 5) (pa_cons (pe_op op_mod (pe_op op_add (pv 4) (pv 6)) (pv 1)) pa_nil))))
      (pss_one (ps_if (pt_cmpR op_eq (pv 2) pe_int (nomark _))
      (pss_one (ps_expr (pe_bm PySem.F.plainAttrs_list PySem.F.slot_list_append PySem.F.type_list_append mt_append (pv 5) (pa_cons (pe_op op_mod (pe_op op_mul (pv 4) (pv 6)) (pv 1)) pa_nil))))
      (pss_one (ps_expr (pe_bm PySem.F.plainAttrs_list PySem.F.slot_list_append PySem.F.type_list_append mt_append (pv 5) (pa_cons (pe_op op_mod (pe_call (ok_law_draw T) hr (by rfl) T.g_law_draw T.F_law_draw.kp T.b_law_draw .nil pass0 (pa_cons (pv 0) pa_nil)) (pv 1)) pa_nil)))))))))
      (pss_one (ps_expr (pe_bm PySem.F.plainAttrs_list PySem.F.slot_list_append PySem.F.type_list_append mt_append (pv 3) (pa_cons (pe_callTy (T := "tuple") (r := rTupOf K) cr_tup_of (by rfl) T.m_tuple (by decide +kernel) (pa_cons (pv 5) pa_nil)) pa_nil)))))))
      (pss_one (ps_ret (pe_callTy (T := "tuple") (r := rTupOf K) cr_tup_of (by rfl) T.m_tuple (by decide +kernel) (pa_cons (pv 3) pa_nil))))))), ?_⟩
    walk_at "start"
    walk_at "x"
    refine ⟨d, nn, rfl, hD, ?_⟩
    rintro _ H5 ⟨y, rfl, hy0, hy1⟩ hD5 hk5
    walk_at "x"
    refine ⟨by show 0 ≤ sizeLine; decide, fun o ho => ?_⟩
    walk_at "x"
    refine x_forR1 (n : Int) (fun k σ' H' => ∃ v4 v5 v6, σ' = [some (.ref d), some (.int (n : Int)), some (.int (y % 4)), some (.ref o), v4, v5, v6] ∧ RowsJ H5 n d nn o k H') (fun R r => ⟨_, rfl, r⟩) (by omega) (by omega) ⟨_, _, _, rfl, hD5.upd0 ho, Same.keep (same_upd ho), hD5.new ho, hD5.newN ho, [], [], upd_same, rfl, rfl, fun k r b h _ => by simp at h, fun k r h => by simp at h⟩ ?_ ?_
    · rintro k σ' H6 hk ⟨v4, v5, v6, rfl, hD6, hk6, hod, hon, as, t, hO, hal, htl, hrow, hrz⟩
      walk_at "x"
      refine ⟨by show 0 ≤ sizeLine; decide, fun c hc => ?_⟩
      walk_at "x"
      refine x_forR1 (n : Int) (fun j σ' H' => ∃ v6, σ' = [some (.ref d), some (.int (n : Int)), some (.int (y % 4)), some (.ref o), some (.int (k : Int)), some (.ref c), v6] ∧ Dr H' d nn ∧ c ≠ d ∧ c ≠ nn ∧ Keep d H6 H' ∧ ∃ row : List Int, H' c = some (.lst (row.map V.int)) ∧ row.length = j ∧ Rg 0 n row) (fun R r => ⟨_, rfl, r⟩) (by omega) (by omega) ⟨_, rfl, hD6.upd0 hc, hD6.new hc, hD6.newN hc, Same.keep (same_upd hc), [], upd_same, rfl, .nil⟩ ?_ ?_
      · rintro j σ' H7 hj ⟨v6, rfl, hD7, hcd, hcn, hk7, row, hR, hrl, hrg⟩
        walk_at "x"
        have put : ∀ {H8 : Hp} {z : Int} {R : VK}, Dr H8 d nn → Keep d H7 H8 → 0 ≤ z → z < (n : Int) → (∀ H9 : Hp, (∃ v6, [some (.ref d), some (.int (n : Int)), some (.int (y % 4)), some (.ref o), some (.int (k : Int)), some (.ref c), some (V.int (j : Int))] = [some (V.ref d), some (.int (n : Int)), some (.int (y % 4)), some (.ref o), some (.int (k : Int)), some (.ref c), v6] ∧ Dr H9 d nn ∧ c ≠ d ∧ c ≠ nn ∧ Keep d H6 H9 ∧ ∃ row : List Int, H9 c = some (.lst (row.map V.int)) ∧ row.length = j + 1 ∧ Rg 0 n row) → R .non H9) → rAppend (.ref c) [.int z] H8 R := fun {H8 z R} hD8 hk8 z0 z1 r => by
          refine x_app (hk8 _ _ hR hcd) (by rw [List.length_map]; omega) (r _ ⟨_, rfl, hD8.upd hcd hcn, hcd, hcn, kput (hk7.trans hk8) hc, row ++ [z], map_app, by rw [List.length_append, hrl]; rfl, hrg.snoc z0 z1⟩)
        have p0 : ∀ z : Int, 0 ≤ z % (n : Int) := fun z => Int.emod_nonneg _ (by omega)
        have p1 : ∀ z : Int, z % (n : Int) < n := fun z => Int.emod_lt_of_pos _ (by omega)
        refine x_ite (fun h => ?_) (fun h => ?_)
        · walk_at "x"
          refine x_tyL hR ?_
          walk_at "x"
          refine put hD7 (Keep.refl _ _) (p0 _) (p1 _) fun H9 h9 => ?_
          walk_at "x"
          exact h9
        · walk_at "x"
          refine x_ite (fun h => ?_) (fun h => ?_)
          · walk_at "x"
            refine x_tyL hR ?_
            walk_at "x"
            refine put hD7 (Keep.refl _ _) (p0 _) (p1 _) fun H9 h9 => ?_
            walk_at "x"
            exact h9
          · walk_at "x"
            refine x_tyL hR ?_
            walk_at "x"
            refine ⟨d, nn, rfl, hD7, ?_⟩
            rintro _ H8 ⟨z, rfl, hz0, hz1⟩ hD8 hk8
            walk_at "x"
            refine put hD8 hk8 (p0 _) (p1 _) fun H9 h9 => ?_
            walk_at "x"
            exact h9
      · rintro σ' H7 ⟨v6, rfl, hD7, hcd, hcn, hk7, row, hR, hrl, hrg⟩
        walk_at "x"
        refine x_tyL (hk7 _ _ hO hod) ?_
        walk_at "x"
        refine x_tupL (sq_of hR) fun l hll => ?_
        obtain ⟨g1, g2⟩ := RowsJ.add ho hk6 hD6 hod hon hO hal htl hrow hrz hD7 hk7 (by omega) hrg hll
        walk_at "x"
        refine x_app g1 (by rw [List.length_map]; omega) ?_
        walk_at "x"
        exact ⟨_, _, _, rfl, g2⟩
    · rintro σ' H6 ⟨v4, v5, v6, rfl, hD6, hk6, hod, hon, as, t, hO, hal, htl, hrow, hrz⟩
      walk_at "x"
      refine x_tupL (sq_of hO) fun l hll => ?_
      have htl : t.length = n := by omega
      have hI : IsTab n t := ⟨by omega, by omega, fun k r e => ⟨by rw [htl]; exact (hrz k r e).1, (hrz k r e).2⟩⟩
      refine q _ _ ⟨l, t, rfl, ⟨as, upd_same, by omega, fun k r b e1 e2 => by rw [upd_ne (ne_of_none (hrow k r b e1 e2) hll)]; exact hrow k r b e1 e2⟩, hI, htl⟩ (hD6.upd0 hll) (kput (hk5.trans hk6) (hk5.free hD5 (hk6.free hD6 hll)))



/-- all but what stands at d and l is as it was -/
def Kp2 (d l : Addr) (H H' : Hp) : Prop := ∀ b o, H b = some o → b ≠ d → b ≠ l → H' b = some o
theorem Kp2.trans {d l : Addr} {H H1 H2 : Hp} (a : Kp2 d l H H1) (b : Kp2 d l H1 H2) : Kp2 d l H H2 := fun c o h n m => b c o (a c o h n m) n m
theorem Keep.two {d l : Addr} {H H' : Hp} (a : Keep d H H') : Kp2 d l H H' := fun c o h n _ => a c o h n
theorem Kp2.tups {d l : Addr} {H H' : Hp} {xs ys : List V} (k : Kp2 d l H H') (h : H d = some (.lst xs)) (h2 : H l = some (.lst ys)) : Tups H H' := fun b zs e => k b _ e (ne_of e h (by intro z; cases z)) (ne_of e h2 (by intro z; cases z))
/-- the list of the nodes left -/
def LeftAt (d n l : Addr) (H : Hp) : Prop := l ≠ d ∧ l ≠ n ∧ ∃ z : Int, H l = some (.lst [.int z])
theorem LeftAt.keep {d n l : Addr} {H H' : Hp} (h : LeftAt d n l H) (k : Keep d H H') : LeftAt d n l H' := by
  obtain ⟨h1, h2, z, h3⟩ := h
  exact ⟨h1, h2, z, k _ _ h3 h1⟩
theorem Dr.lst {H : Hp} {d n : Addr} (h : Dr H d n) : ∃ xs, H d = some (.lst xs) := by
  obtain ⟨_, _, h, _⟩ := h
  exact ⟨_, h⟩

def sp_law_tree (n : Nat) (K : PySem.W.Frag) : Sp := fun vs H Q _ => ∃ (d nn l : Addr) (m k : Nat), vs = [.ref d, .int (m : Int), .int (k : Int), .ref l] ∧ 1 ≤ m ∧ m ≤ 40 ∧ 1 ≤ k ∧ k ≤ n ∧ Dr H d nn ∧ LeftAt d nn l H ∧
  ∀ (a : Addr) (t : Tn) (H' : Hp), TnAt H' t a → TnOk m t → t.dep ≤ k → Dr H' d nn → LeftAt d nn l H' → Kp2 d l H H' → Q (.ref a) H'
theorem ok_law_tree (T : Txt K mg) : ∀ n : Nat, FnOk P w K mg base CX0 (n + 5) T.a_law_tree T.fd_law_tree ["draws", "values", "deep", "left"] (sp_law_tree n K)
  | 0 => by
    refine T.F_law_tree.ok sc_law_tree (fun vs H Q E h => ?_) (fun cdv A outer s H vs Q E hr h => ?_)
    · obtain ⟨d, nn, l, m, k, rfl, _⟩ := h
      rfl
    · obtain ⟨d, nn, l, m, k, rfl, _, _, h1, h2, _⟩ := h
      omega
  | n + 1 => by
    have G_law_tree := ok_law_tree T n
    refine T.F_law_tree.ok (k := n + 5) sc_law_tree (fun vs H Q E h => ?_) (fun cdv A outer s H vs Q E hr h => ?_)
    · obtain ⟨d, nn, l, m, k, rfl, _⟩ := h
      rfl
    · obtain ⟨d, nn, l, m, k, rfl, m1, m9, k1, kn, hD, hL, q⟩ := h
      refine ⟨_, (pss_cons (ps_if (PW.pt (pw_or (pt_cmpR op_le (pv 2) pe_int (nomark _)) (pw_or (pt_cmpR op_lt (pe_ix (r := rIxL K) ix_list (pv 3) pe_int (fun _ _ => rfl)) pe_int (nomark _)) (pw_or1 (pt_cmpR op_eq (pe_op op_mod (pe_call (ok_law_draw T) (hr.mono (by omega)) (by rfl) T.g_law_draw T.F_law_draw.kp T.b_law_draw .nil pass0 (pa_cons (pv 0) pa_nil)) pe_int) pe_int (nomark _))))))
      (pss_one (ps_ret (pe_tup (pa_cons pe_str (pa_cons (pe_op op_mod (pe_call (ok_law_draw T) (hr.mono (by omega)) (by rfl) T.g_law_draw T.F_law_draw.kp T.b_law_draw .nil pass0 (pa_cons (pv 0) pa_nil)) (pv 1)) pa_nil)))))
      pss_nil)
      (pss_cons (ps_asg (pe_op op_sub (pe_ix (r := rIxL K) ix_list (pv 3) pe_int (fun _ _ => rfl)) pe_int) (pg_sub (pv 3) pe_int set_list))
      (pss_cons (ps_set (i := 4) sc_law_tree.nd rfl (.inl rfl) (pe_call G_law_tree (hr.mono (by omega)) (by rfl) T.g_law_tree T.F_law_tree.kp T.b_law_tree .nil pass0 (pa_cons (pv 0) (pa_cons (pv 1) (pa_cons (pe_op op_sub (pv 2) pe_int) (pa_cons (pv 3) pa_nil))))))
      (pss_one (ps_ret (pe_tup (pa_cons pe_str (pa_cons (pe_call (ok_law_table T) (hr.mono (by omega)) (by rfl) T.g_law_table T.F_law_table.kp T.b_law_table .nil pass0 (pa_cons (pv 0) (pa_cons (pv 1) pa_nil))) (pa_cons (pv 4) (pa_cons (pe_call G_law_tree (hr.mono (by omega)) (by rfl) T.g_law_tree T.F_law_tree.kp T.b_law_tree .nil pass0 (pa_cons (pv 0) (pa_cons (pv 1) (pa_cons (pe_op op_sub (pv 2) pe_int) (pa_cons (pv 3) pa_nil))))) pa_nil)))))))))), ?_⟩
      have leaf : ∀ {H1 : Hp}, Dr H1 d nn → LeftAt d nn l H1 → Kp2 d l H H1 → ∀ y : Int, ∀ p, H1 p = none → Q (.ref p) (upd H1 p (.tup [.str "leaf", .int (y % (m : Int))])) := fun {H1} hD1 hL1 hk1 y p hp => by
        obtain ⟨xs, hx⟩ := hD1.lst
        obtain ⟨z1, z2, z, hz⟩ := id hL1
        refine q p (.leaf (y % (m : Int))) _ upd_same ⟨Int.emod_nonneg _ (by omega), Int.emod_lt_of_pos _ (by omega)⟩ k1 (hD1.upd0 hp) (hL1.keep (Same.keep (same_upd hp))) (hk1.trans (Same.keep (d := d) (same_upd hp)).two)
      walk_at "start"
      walk_at "x"
      refine x_ite (fun hc => ?_) (fun hc => ?_)
      · walk_at "t"
        refine ⟨d, nn, rfl, hD, ?_⟩
        rintro _ H1 ⟨y, rfl, y0, y1⟩ hD1 hk1
        walk_at "x"
        exact ⟨by show 2 ≤ sizeLine; decide, leaf hD1 (hL.keep hk1) hk1.two y⟩
      · walk_at "x"
        obtain ⟨z1, z2, z, hz⟩ := id hL
        refine x_ixL (sq_of hz) (show _ = some (V.int z) from rfl) ?_
        walk_at "x"
        refine x_ite (fun hc2 => ?_) (fun hc2 => ?_)
        · walk_at "t"
          refine ⟨d, nn, rfl, hD, ?_⟩
          rintro _ H1 ⟨y, rfl, y0, y1⟩ hD1 hk1
          walk_at "x"
          exact ⟨by show 2 ≤ sizeLine; decide, leaf hD1 (hL.keep hk1) hk1.two y⟩
        · walk_at "x"
          refine ⟨d, nn, rfl, hD, ?_⟩
          rintro _ H1 ⟨y, rfl, y0, y1⟩ hD1 hk1
          have hL1 := hL.keep hk1
          walk_at "x"
          refine x_ite (fun hc3 => ?_) (fun hc3 => ?_)
          · walk_at "x"
            refine ⟨d, nn, rfl, hD1, ?_⟩
            rintro _ H2 ⟨y2, rfl, y3, y4⟩ hD2 hk2
            walk_at "x"
            exact ⟨by show 2 ≤ sizeLine; decide, leaf hD2 (hL1.keep hk2) (hk1.trans hk2).two y2⟩
          · walk_at "x"
            have hz1 := hk1 _ _ hz z1
            refine x_ixL (sq_of hz1) (show _ = some (V.int z) from rfl) ?_
            walk_at "x"
            refine x_subL (k := 0) hz1 rfl ?_
            have hl2 : LeftAt d nn l (upd H1 l (.lst [V.int (z - 2)])) := ⟨z1, z2, z - 2, upd_same⟩
            have hD2 : Dr (upd H1 l (.lst [V.int (z - 2)])) d nn := hD1.upd z1 z2
            have hk2 : Kp2 d l H (upd H1 l (.lst [V.int (z - 2)])) := fun b o e n1 n2 => by
              rw [upd_ne n2]
              exact hk1 _ _ e n1
            walk_at "x"
            have hk9 : (k : Int) - 1 = ((k - 1 : Nat) : Int) := by omega
            refine ⟨d, nn, l, m, k - 1, by rw [hk9], m1, m9, by omega, by omega, hD2, hl2, fun a1 t1 H3 ht1 ok1 dp1 hD3 hl3 hk3 => ?_⟩
            walk_at "x"
            refine ⟨d, nn, m, rfl, m1, m9, hD3, ?_⟩
            rintro _ H4 ⟨ta, tb, rfl, htb, hI, htl⟩ hD4 hk4
            walk_at "x"
            refine ⟨d, nn, l, m, k - 1, by rw [hk9], m1, m9, by omega, by omega, hD4, hl3.keep hk4, fun a2 t2 H5 ht2 ok2 dp2 hD5 hl5 hk5 => ?_⟩
            walk_at "x"
            refine ⟨by show 4 ≤ sizeLine; decide, fun p hp => ?_⟩
            obtain ⟨x3, hx3⟩ := hD3.lst
            obtain ⟨x4, hx4⟩ := hD4.lst
            obtain ⟨_, _, zz, hzz⟩ := hl3.keep hk4
            have tp4 : Tups H4 H5 := hk5.tups hx4 hzz
            have tp3 : Tups H3 H5 := (Tups.keep hk4 hx3).trans tp4
            have up := same_upd (o := .tup [.str "node", .ref ta, .ref a1, .ref a2]) hp
            refine q p (.node tb t1 t2) _ ⟨ta, a1, a2, upd_same, (htb.tups tp4).tups (Tups.same up), (ht1.tups tp3).tups (Tups.same up), ht2.tups (Tups.same up)⟩ ⟨hI, htl, ok1, ok2⟩ (by show max t1.dep t2.dep + 1 ≤ k; omega) (hD5.upd0 hp) (hl5.keep (Same.keep up)) ((((hk2.trans hk3).trans hk4.two).trans hk5).trans (Same.keep (d := d) up).two)


end
end Br
namespace Br
open PySem PySem.Spec PyProof.Rows L2
local macro_rules | `(tactic| walk_at "x1") => `(tactic| (with_reducible first
  | refine Br.x_seq ?_ | refine Br.x_set ?_ | refine Br.x_asg ?_ | refine Br.x_next ?_ | refine Br.x_ret ?_ | refine Br.x_retN ?_ | refine Br.x_drop ?_ | refine Br.x_if ?_ | refine Br.x_brk ?_ | refine Br.x_cont ?_
  | refine Br.x_c ?_ | refine Br.x_op ?_ | refine Br.x_un ?_ | refine Br.x_I0 ?_ | refine Br.x_U ?_ | refine Br.x_EqI ?_ | refine Br.x_NeI ?_ | refine Br.x_EqB ?_ | refine Br.x_iN ?_ | refine Br.x_int1 ?_ | refine Br.x_min2 ?_ | refine Br.x_max2 ?_ | refine Br.x_nN ?_ | refine Br.x_ifE ?_
  | refine Br.x_test (b := ()) ?_ | refine Br.x_tB ?_ | refine Br.x_bl ?_ | refine Br.x_and ?_ | refine Br.x_or ?_ | refine Br.x_not ?_ | refine Br.x_andV ?_ | refine Br.x_orV ?_ | refine Br.x_notV ?_ | refine Br.x_blP ?_
  | refine Br.x_nil ?_ | refine Br.x_cons ?_ | refine Br.x_call ?_ | refine Br.x_CB ?_ | refine Br.x_BM ?_ | refine Br.x_tup ?_ | refine Br.x_lst ?_ | refine Br.x_chain ?_ | refine Br.x_par ?_ | refine Br.x_gSub ?_ | refine Br.x_gName ?_ | refine Br.x_fld ?_ | refine Br.x_fldS ?_ | refine Br.x_match ?_ | refine Br.x_else ?_ | refine Br.x_noCase ?_))
local macro_rules | `(tactic| walk_at "xv") => `(tactic| ((with_reducible refine' Br.x_var ?hvar ?_); (case hvar => rfl)))
local macro_rules | `(tactic| walk_at "xd") => `(tactic| (dsimp only [List.set_cons_zero, List.set_cons_succ, List.cons_append, List.nil_append, List.append_nil]))
local macro_rules | `(tactic| walk_at "xi") => `(tactic| ((with_reducible refine Br.x_I ?hside ?_); (case hside => first | exact Br.mul_r (by decide) (by decide) | exact Br.mul_l (by decide) (by decide) | exact Br.mul_l (by omega) (by omega) | exact Br.mul_r (by omega) (by omega) | (show (0 : Int) < _; first | decide | omega) | exact ⟨by decide, by decide⟩ | exact ⟨by omega, by omega⟩ | exact ⟨by decide, by decide, by decide⟩)))
local macro_rules | `(tactic| walk_at "x") => `(tactic| (repeat (first | walk_at "x1" | walk_at "xv" | walk_at "xi" | walk_at "xd")))
local macro_rules | `(tactic| walk_at "start") => `(tactic| (simp only [L2.start, List.map_cons, List.map_nil, List.length_cons, List.length_nil, Nat.reduceAdd, Nat.reduceSub, List.replicate, List.cons_append, List.nil_append, List.append_nil]))
local macro_rules | `(tactic| walk_at "isi") => `(tactic| first
  | refine Br.x_isi (b := true) (.base (.int _)) (by decide +kernel) ?_ | refine Br.x_isi (b := false) (.base (.int _)) (by decide +kernel) ?_
  | refine Br.x_isi (b := true) (.base (.bl _)) (by decide +kernel) ?_ | refine Br.x_isi (b := false) (.base (.bl _)) (by decide +kernel) ?_
  | refine Br.x_isi (b := false) (.base .non) (by decide +kernel) ?_
  | refine Br.x_isi (b := true) (.base (.str _)) (by decide +kernel) ?_ | refine Br.x_isi (b := false) (.base (.str _)) (by decide +kernel) ?_
  | refine Br.x_isi (b := true) (.base (.tup (by assumption))) (by decide +kernel) ?_ | refine Br.x_isi (b := false) (.base (.tup (by assumption))) (by decide +kernel) ?_
  | refine Br.x_isi (b := true) (.base (.lst (by assumption))) (by decide +kernel) ?_ | refine Br.x_isi (b := false) (.base (.lst (by assumption))) (by decide +kernel) ?_)
local macro_rules | `(tactic| walk_at "f") => `(tactic| (refine L2.iteF ?_; walk_at "x"))
local macro_rules | `(tactic| walk_at "t") => `(tactic| (refine L2.iteT ?_; walk_at "x"))
local macro_rules | `(tactic| walk_at "is") => `(tactic| (walk_at "isi"; walk_at "x"))
local macro_rules | `(tactic| walk_at "xb") => `(tactic| (simp only [Br.bindS, List.set_cons_zero, List.set_cons_succ]; walk_at "x"))

section
variable {P : Program} {w : World} {K : PySem.W.Frag} {mg : Str → Option Value} {base : Heap}

open Br

/-- no number below the bound -/
def BadN (m : Nat) (v : V) : Prop := ∃ e, FlatD v e ∧ ShN 1 e ∧ isBD (m : Int) e = false
def sp_law_bad_number (K : PySem.W.Frag) : Sp := fun vs H Q _ => ∃ (d n : Addr) (m : Nat), vs = [.ref d, .int (m : Int)] ∧ 1 ≤ m ∧ m ≤ 40 ∧ Dr H d n ∧ RetD d n (BadN m) H Q
theorem ok_law_bad_number (T : Txt K mg) : FnOk P w K mg base CX0 3 T.a_law_bad_number T.fd_law_bad_number ["draws", "values"] (sp_law_bad_number K) := by
  refine T.F_law_bad_number.ok sc_law_bad_number (fun vs H Q E h => ?_) (fun cdv A outer s H vs Q E hr h => ?_)
  · obtain ⟨d, n, m, rfl, _⟩ := h
    rfl
  · obtain ⟨d, n, m, rfl, m1, m9, hD, q⟩ := h
    refine ⟨_, (pss_one (ps_ret (pe_ix (r := rIxL K) ix_list (pe_lst (pa_cons (pe_un un_neg pe_int) (pa_cons (pv 1) (pa_cons pe_bl (pa_cons pe_str (pa_cons pe_non (pa_cons (pe_op op_shl pe_int pe_int) pa_nil))))))) (pe_op op_mod (pe_call (ok_law_draw T) hr (by rfl) T.g_law_draw T.F_law_draw.kp T.b_law_draw .nil pass0 (pa_cons (pv 0) pa_nil)) pe_int) (fun _ _ => rfl)))), ?_⟩
    walk_at "start"
    walk_at "x"
    refine ⟨by show 6 ≤ sizeLine; decide, fun p hp => ?_⟩
    have s1 := same_upd (o := .lst [V.int (-1), V.int (m : Int), V.bl true, V.str "0", V.non, V.int (1 * 2 ^ Int.toNat 40)]) hp
    have e1 : (upd H p (.lst [V.int (-1), V.int (m : Int), V.bl true, V.str "0", V.non, V.int (1 * 2 ^ Int.toNat 40)])) p = some (.lst [V.int (-1), V.int (m : Int), V.bl true, V.str "0", V.non, V.int (1 * 2 ^ Int.toNat 40)]) := upd_same
    have hpd := hD.new hp
    have hD1 := hD.same s1
    generalize upd H p (.lst [V.int (-1), V.int (m : Int), V.bl true, V.str "0", V.non, V.int (1 * 2 ^ Int.toNat 40)]) = H1 at s1 e1 hD1
    walk_at "x"
    refine ⟨d, n, rfl, hD1, ?_⟩
    rintro _ H2 ⟨x, rfl, x0, x1⟩ hD2 k2
    have e2 := k2 _ _ e1 hpd
    walk_at "x"
    obtain ⟨v, hv, hm2⟩ := at_lt (xs := [V.int (-1), V.int (m : Int), V.bl true, V.str "0", V.non, V.int (1 * 2 ^ Int.toNat 40)]) (i := x % 6) (Int.emod_nonneg _ (by decide)) (Int.emod_lt_of_pos x (show (0 : Int) < 6 by decide))
    refine x_ixL (sq_of e2) hv ?_
    refine q v H2 ?_ hD2 ((Same.keep s1).trans k2)
    have no : ∀ i : Int, (i < 0 ∨ (m : Int) ≤ i) → isBD (m : Int) (.int i) = false := fun i h => Bool.eq_false_iff.mpr fun hb => by
      obtain ⟨j, hj, h0, h1⟩ := isBD_iff.mp hb
      cases hj
      omega
    simp only [List.mem_cons, List.not_mem_nil, or_false] at hm2
    rcases hm2 with rfl | rfl | rfl | rfl | rfl | rfl
    · exact ⟨_, fun _ _ => .int _, .int, no _ (.inl (by decide))⟩
    · exact ⟨_, fun _ _ => .int _, .int, no _ (.inr (Int.le_refl _))⟩
    · exact ⟨_, fun _ _ => .bl _, .bl, rfl⟩
    · exact ⟨_, fun _ _ => .str _, .str (by decide +kernel), rfl⟩
    · exact ⟨_, fun _ _ => .non, .non, rfl⟩
    · have h40 : (1 : Int) * 2 ^ Int.toNat 40 = 1099511627776 := by decide +kernel
      exact ⟨_, fun _ _ => .int _, .int, no _ (.inr (by omega))⟩


theorem tab2 : IsTab 2 [[0, 1], [1, 0]] := by
  refine ⟨by decide, by decide, fun i r h => ?_⟩
  match i, h with
  | 0, h => cases h; exact ⟨rfl, by intro z hz; simp at hz; omega⟩
  | 1, h => cases h; exact ⟨rfl, by intro z hz; simp at hz; omega⟩
def combT : Nat → Tn
  | 0 => .leaf 0
  | k + 1 => if k % 2 = 0 then .node [[0, 1], [1, 0]] (combT k) (.leaf 1) else .node [[0, 1], [1, 0]] (.leaf 1) (combT k)
theorem combT_dep : ∀ k, (combT k).dep = k + 1
  | 0 => rfl
  | k + 1 => by
    have h := combT_dep k
    unfold combT
    split
    · show max (combT k).dep 1 + 1 = _; omega
    · show max 1 (combT k).dep + 1 = _; omega
theorem combT_size : ∀ k, (combT k).size = 2 * k + 1
  | 0 => rfl
  | k + 1 => by
    have h := combT_size k
    unfold combT
    split
    · show 1 + (combT k).size + 1 = _; omega
    · show 1 + 1 + (combT k).size = _; omega
theorem combT_ok : ∀ k, TnOk 2 (combT k)
  | 0 => ⟨by decide, by decide⟩
  | k + 1 => by
    have h := combT_ok k
    have h1 : TnOk 2 (.leaf 1) := ⟨by decide, by decide⟩
    unfold combT
    split
    · exact ⟨tab2, rfl, h, h1⟩
    · exact ⟨tab2, rfl, h1, h⟩
theorem ints_dat {d : Addr} {H : Hp} : ∀ {zs : List Int}, DAts d H (zs.map V.int) (zs.map PyData.int)
  | [] => .nil
  | _ :: _ => .cons (.int _) ints_dat
theorem tb_dat {d a : Addr} {H : Hp} {tb : List (List Int)} (h : TbAt H a tb) : DAt d H (.ref a) (tbV tb) := by
  obtain ⟨as, h1, h2, h3⟩ := h
  refine .tup h1 (DAts.of (by rw [List.length_map, List.length_map, h2]) fun i x e hx he => ?_)
  obtain ⟨b, hb, rfl⟩ := map_getR hx
  rw [List.getElem?_map] at he
  cases hr : tb[i]? with
  | none => rw [hr] at he; cases he
  | some r =>
    rw [hr] at he
    cases he
    exact .tup (h3 i r b hr hb) ints_dat
theorem tn_dat {d : Addr} {H : Hp} : ∀ {t : Tn} {a : Addr}, TnAt H t a → DAt d H (.ref a) (tnD t)
  | .leaf v, _, h => .tup h (.cons (.str _) (.cons (.int _) .nil))
  | .node tb l r, _, ⟨t, x, y, h, ht, hl, hr⟩ => .tup h (.cons (.str _) (.cons (tb_dat ht) (.cons (tn_dat hl) (.cons (tn_dat hr) .nil))))
def sp_law_comb (K : PySem.W.Frag) : Sp := fun vs H Q _ => ∃ k : Nat, vs = [.int ((k : Int) + 1)] ∧ k ≤ 60 ∧ ∀ a H', Same H H' → TnAt H' (combT k) a → Q (.ref a) H'
theorem ok_law_comb (T : Txt K mg) : FnOk P w K mg base CX0 1 T.a_law_comb T.fd_law_comb ["levels"] (sp_law_comb K) := by
  refine T.F_law_comb.ok sc_law_comb (fun vs H Q E h => ?_) (fun cdv A outer s H vs Q E hr h => ?_)
  · obtain ⟨k, rfl, _⟩ := h
    rfl
  · obtain ⟨k, rfl, k60, q⟩ := h
    refine ⟨_, (pss_cons (ps_set (i := 1) sc_law_comb.nd rfl (.inl rfl) (pe_tup (pa_cons pe_str (pa_cons pe_int pa_nil))))
      (pss_cons (ps_for PassesOwn.never rfl (pi_range1 (by rfl) T.m_range (pa_cons (pe_op op_sub (pv 0) pe_int) pa_nil)) (pg_name (i := 2) sc_law_comb.nd rfl (Or.inl rfl))
      (pss_one (ps_if (pt_cmpR op_eq (pe_op op_mod (pv 2) pe_int) pe_int (nomark _))
      (pss_one (ps_set (i := 1) sc_law_comb.nd rfl (.inl rfl) (pe_tup (pa_cons pe_str (pa_cons (pe_tup (pa_cons (pe_tup (pa_cons pe_int (pa_cons pe_int pa_nil))) (pa_cons (pe_tup (pa_cons pe_int (pa_cons pe_int pa_nil))) pa_nil))) (pa_cons (pv 1) (pa_cons (pe_tup (pa_cons pe_str (pa_cons pe_int pa_nil))) pa_nil)))))))
      (pss_one (ps_set (i := 1) sc_law_comb.nd rfl (.inl rfl) (pe_tup (pa_cons pe_str (pa_cons (pe_tup (pa_cons (pe_tup (pa_cons pe_int (pa_cons pe_int pa_nil))) (pa_cons (pe_tup (pa_cons pe_int (pa_cons pe_int pa_nil))) pa_nil))) (pa_cons (pe_tup (pa_cons pe_str (pa_cons pe_int pa_nil))) (pa_cons (pv 1) pa_nil))))))))))
      (pss_one (ps_ret (pv 1))))), ?_⟩
    walk_at "start"
    walk_at "x"
    refine ⟨by show 2 ≤ sizeLine; decide, fun a ha => ?_⟩
    have s1 := same_upd (o := .tup [V.str "leaf", V.int 0]) ha
    have e1 : TnAt (upd H a (.tup [V.str "leaf", V.int 0])) (combT 0) a := upd_same
    generalize upd H a (.tup [V.str "leaf", V.int 0]) = H1 at s1 e1
    walk_at "x"
    refine x_forR1 (k : Int) (fun j σ' H' => ∃ c v2, σ' = [some (.int ((k : Int) + 1)), some (.ref c), v2] ∧ Same H H' ∧ TnAt H' (combT j) c) (fun R r => by walk_at "x"; rw [show (k : Int) + 1 - 1 = (k : Int) by omega]; exact r) (by omega) (by omega) ⟨a, _, rfl, s1, e1⟩ ?_ ?_
    · clear s1 e1
      rintro j σ' H2 hj ⟨c, v2, rfl, s2, hc⟩
      walk_at "x"
      refine x_ite (fun hm => ?_) (fun hm => ?_)
      · skip
        walk_at "x"
        refine ⟨by show 2 ≤ sizeLine; decide, fun r1 hr1 => ?_⟩
        have ur1 := same_upd (o := .tup [V.int 0, V.int 1]) hr1
        have er1 : (upd H2 r1 (.tup [V.int 0, V.int 1])) r1 = some (.tup [V.int 0, V.int 1]) := upd_same
        generalize upd H2 r1 (.tup [V.int 0, V.int 1]) = H3 at ur1 er1
        walk_at "x"
        refine ⟨by show 2 ≤ sizeLine; decide, fun r2 hr2 => ?_⟩
        have ur2 := same_upd (o := .tup [V.int 1, V.int 0]) hr2
        have er2 : (upd H3 r2 (.tup [V.int 1, V.int 0])) r2 = some (.tup [V.int 1, V.int 0]) := upd_same
        generalize upd H3 r2 (.tup [V.int 1, V.int 0]) = H4 at ur2 er2
        walk_at "x"
        refine ⟨by show 2 ≤ sizeLine; decide, fun tb htb => ?_⟩
        have utb := same_upd (o := .tup [V.ref r1, V.ref r2]) htb
        have etb : (upd H4 tb (.tup [V.ref r1, V.ref r2])) tb = some (.tup [V.ref r1, V.ref r2]) := upd_same
        generalize upd H4 tb (.tup [V.ref r1, V.ref r2]) = H5 at utb etb
        walk_at "x"
        refine ⟨by show 2 ≤ sizeLine; decide, fun lf hlf => ?_⟩
        have ulf := same_upd (o := .tup [V.str "leaf", V.int 1]) hlf
        have elf : (upd H5 lf (.tup [V.str "leaf", V.int 1])) lf = some (.tup [V.str "leaf", V.int 1]) := upd_same
        generalize upd H5 lf (.tup [V.str "leaf", V.int 1]) = H6 at ulf elf
        walk_at "x"
        refine ⟨by show 4 ≤ sizeLine; decide, fun nd hnd => ?_⟩
        have und := same_upd (o := .tup [V.str "node", V.ref tb, V.ref c, V.ref lf]) hnd
        have hnd7 : (upd H6 nd (.tup [V.str "node", V.ref tb, V.ref c, V.ref lf])) nd = some (.tup [V.str "node", V.ref tb, V.ref c, V.ref lf]) := upd_same
        generalize upd H6 nd (.tup [V.str "node", V.ref tb, V.ref c, V.ref lf]) = H7 at und hnd7
        have s7 := (((ur1.trans ur2).trans utb).trans ulf).trans und
        have hc7 := hc.tups (Tups.same s7)
        have htb : TbAt H7 tb [[0, 1], [1, 0]] := ⟨[r1, r2], (ulf.trans und) _ _ etb, rfl, fun i r b h1 h2 => by
          match i, h1, h2 with
          | 0, h1, h2 => cases h1; cases h2; exact (((ur2.trans utb).trans ulf).trans und) _ _ er1
          | 1, h1, h2 => cases h1; cases h2; exact ((utb.trans ulf).trans und) _ _ er2⟩
        have hlf : TnAt H7 (.leaf 1) lf := und _ _ elf
        walk_at "x"
        refine ⟨nd, _, rfl, s2.trans s7, ?_⟩
        show TnAt H7 (if j % 2 = 0 then _ else _) nd
        rw [if_pos (by omega)]
        exact ⟨tb, c, lf, hnd7, htb, hc7, hlf⟩
      · skip
        walk_at "x"
        refine ⟨by show 2 ≤ sizeLine; decide, fun r1 hr1 => ?_⟩
        have ur1 := same_upd (o := .tup [V.int 0, V.int 1]) hr1
        have er1 : (upd H2 r1 (.tup [V.int 0, V.int 1])) r1 = some (.tup [V.int 0, V.int 1]) := upd_same
        generalize upd H2 r1 (.tup [V.int 0, V.int 1]) = H3 at ur1 er1
        walk_at "x"
        refine ⟨by show 2 ≤ sizeLine; decide, fun r2 hr2 => ?_⟩
        have ur2 := same_upd (o := .tup [V.int 1, V.int 0]) hr2
        have er2 : (upd H3 r2 (.tup [V.int 1, V.int 0])) r2 = some (.tup [V.int 1, V.int 0]) := upd_same
        generalize upd H3 r2 (.tup [V.int 1, V.int 0]) = H4 at ur2 er2
        walk_at "x"
        refine ⟨by show 2 ≤ sizeLine; decide, fun tb htb => ?_⟩
        have utb := same_upd (o := .tup [V.ref r1, V.ref r2]) htb
        have etb : (upd H4 tb (.tup [V.ref r1, V.ref r2])) tb = some (.tup [V.ref r1, V.ref r2]) := upd_same
        generalize upd H4 tb (.tup [V.ref r1, V.ref r2]) = H5 at utb etb
        walk_at "x"
        refine ⟨by show 2 ≤ sizeLine; decide, fun lf hlf => ?_⟩
        have ulf := same_upd (o := .tup [V.str "leaf", V.int 1]) hlf
        have elf : (upd H5 lf (.tup [V.str "leaf", V.int 1])) lf = some (.tup [V.str "leaf", V.int 1]) := upd_same
        generalize upd H5 lf (.tup [V.str "leaf", V.int 1]) = H6 at ulf elf
        walk_at "x"
        refine ⟨by show 4 ≤ sizeLine; decide, fun nd hnd => ?_⟩
        have und := same_upd (o := .tup [V.str "node", V.ref tb, V.ref lf, V.ref c]) hnd
        have hnd7 : (upd H6 nd (.tup [V.str "node", V.ref tb, V.ref lf, V.ref c])) nd = some (.tup [V.str "node", V.ref tb, V.ref lf, V.ref c]) := upd_same
        generalize upd H6 nd (.tup [V.str "node", V.ref tb, V.ref lf, V.ref c]) = H7 at und hnd7
        have s7 := (((ur1.trans ur2).trans utb).trans ulf).trans und
        have hc7 := hc.tups (Tups.same s7)
        have htb : TbAt H7 tb [[0, 1], [1, 0]] := ⟨[r1, r2], (ulf.trans und) _ _ etb, rfl, fun i r b h1 h2 => by
          match i, h1, h2 with
          | 0, h1, h2 => cases h1; cases h2; exact (((ur2.trans utb).trans ulf).trans und) _ _ er1
          | 1, h1, h2 => cases h1; cases h2; exact ((utb.trans ulf).trans und) _ _ er2⟩
        have hlf : TnAt H7 (.leaf 1) lf := und _ _ elf
        walk_at "x"
        refine ⟨nd, _, rfl, s2.trans s7, ?_⟩
        show TnAt H7 (if j % 2 = 0 then _ else _) nd
        rw [if_neg (by omega)]
        exact ⟨tb, lf, c, hnd7, htb, hlf, hc7⟩
    · rintro σ' H2 ⟨c, v2, rfl, s2, hc⟩
      walk_at "x"
      exact q c H2 s2 hc


def pairT : List Tn → List Tn
  | x :: y :: ts => .node [[1, 0], [0, 1]] x y :: pairT ts
  | ts => ts
def sumT (ts : List Tn) : Nat := (ts.map fun t => t.size + 1).sum
theorem tab2b : IsTab 2 [[1, 0], [0, 1]] := by
  refine ⟨by decide, by decide, fun i r h => ?_⟩
  match i, h with
  | 0, h => cases h; exact ⟨rfl, by intro z hz; simp at hz; omega⟩
  | 1, h => cases h; exact ⟨rfl, by intro z hz; simp at hz; omega⟩
theorem pairT_sum : ∀ ts, sumT (pairT ts) = sumT ts
  | [] => rfl
  | [_] => rfl
  | x :: y :: ts => by
    have h := pairT_sum ts
    show (1 + x.size + y.size + 1) + sumT (pairT ts) = (x.size + 1) + ((y.size + 1) + sumT ts)
    omega
theorem pairT_len : ∀ ts, (pairT ts).length = (ts.length + 1) / 2
  | [] => by decide
  | [x] => by show (1 : Nat) = (1 + 1) / 2; omega
  | x :: y :: ts => by
    have h := pairT_len ts
    show (pairT ts).length + 1 = (ts.length + 1 + 1 + 1) / 2
    omega
theorem pairT_ok {k : Nat} : ∀ {ts : List Tn}, (∀ t, t ∈ ts → TnOk 2 t ∧ t.dep ≤ k) → ∀ t, t ∈ pairT ts → TnOk 2 t ∧ t.dep ≤ k + 1
  | [], _, t, ht => by cases ht
  | [x], h, t, ht => by
    have e : t = x := List.mem_singleton.mp ht
    have := h x List.mem_cons_self
    rw [e]; exact ⟨this.1, by omega⟩
  | x :: y :: ts, h, t, ht => by
    have ht : t ∈ Tn.node [[1, 0], [0, 1]] x y :: pairT ts := ht
    rcases List.mem_cons.mp ht with rfl | ht
    · obtain ⟨a1, a2⟩ := h x List.mem_cons_self
      obtain ⟨b1, b2⟩ := h y (List.mem_cons_of_mem _ List.mem_cons_self)
      exact ⟨⟨tab2b, rfl, a1, b1⟩, by show max x.dep y.dep + 1 ≤ _; omega⟩
    · exact pairT_ok (fun t ht => h t (List.mem_cons_of_mem _ (List.mem_cons_of_mem _ ht))) t ht
theorem pairT_get : ∀ {ts : List Tn} {k : Nat} {x : Tn}, (pairT ts)[k]? = some x → (∃ a b, ts[2 * k]? = some a ∧ ts[2 * k + 1]? = some b ∧ x = .node [[1, 0], [0, 1]] a b) ∨ (ts[2 * k]? = some x ∧ ts.length = 2 * k + 1)
  | [], k, x, h => by cases h
  | [y], k, x, h => by
    cases k with
    | zero => exact .inr ⟨h, rfl⟩
    | succ k => cases h
  | y :: z :: ts, k, x, h => by
    cases k with
    | zero => exact .inl ⟨y, z, rfl, rfl, (Option.some.inj h).symm⟩
    | succ k =>
      have h : (pairT ts)[k]? = some x := h
      rcases pairT_get h with ⟨a, b, h1, h2, h3⟩ | ⟨h1, h2⟩
      · exact .inl ⟨a, b, h1, h2, h3⟩
      · exact .inr ⟨h1, by show ts.length + 1 + 1 = _; omega⟩
/-- the row behind so many turns -/
def rowT (n : Nat) : Nat → List Tn
  | 0 => (List.range n).map fun k => Tn.leaf ((k % 2 : Nat) : Int)
  | t + 1 => pairT (rowT n t)
theorem rowT_ok (n : Nat) : ∀ t, ∀ x, x ∈ rowT n t → TnOk 2 x ∧ x.dep ≤ t + 1
  | 0, x, h => by
    obtain ⟨k, _, rfl⟩ := List.mem_map.mp h
    exact ⟨⟨by omega, by omega⟩, Nat.le_refl 1⟩
  | t + 1, x, h => pairT_ok (rowT_ok n t) x h
theorem rowT_sum (n : Nat) : ∀ t, sumT (rowT n t) = 2 * n
  | 0 => by
    have : ∀ m : Nat, sumT ((List.range m).map fun k => Tn.leaf ((k % 2 : Nat) : Int)) = 2 * m := fun m => by
      induction m with
      | zero => rfl
      | succ m ih =>
        unfold sumT at ih ⊢
        rw [List.range_succ, List.map_append, List.map_append, List.sum_append, ih]
        show 2 * m + 2 = _
        omega
    exact this n
  | t + 1 => by
    show sumT (pairT (rowT n t)) = _
    rw [pairT_sum, rowT_sum n t]
def TnsAt (H : Hp) (as : List Addr) (ts : List Tn) : Prop := as.length = ts.length ∧ ∀ (i : Nat) t a, ts[i]? = some t → as[i]? = some a → TnAt H t a
theorem TnsAt.nil {H : Hp} : TnsAt H [] [] := ⟨rfl, fun i t a h _ => by simp at h⟩
theorem TnsAt.tups {H H' : Hp} {as : List Addr} {ts : List Tn} (h : TnsAt H as ts) (s : Tups H H') : TnsAt H' as ts := ⟨h.1, fun i t a h1 h2 => (h.2 i t a h1 h2).tups s⟩
theorem TnsAt.snoc {H : Hp} {as : List Addr} {ts : List Tn} {a : Addr} {t : Tn} (h : TnsAt H as ts) (ha : TnAt H t a) : TnsAt H (as ++ [a]) (ts ++ [t]) := by
  refine ⟨by rw [List.length_append, List.length_append, h.1]; rfl, fun i x c h1 h2 => ?_⟩
  by_cases hi : i < ts.length
  · rw [List.getElem?_append_left hi] at h1
    rw [List.getElem?_append_left (by rw [h.1]; exact hi)] at h2
    exact h.2 i x c h1 h2
  · rw [List.getElem?_append_right (by omega)] at h1
    rw [List.getElem?_append_right (by rw [h.1]; omega), h.1] at h2
    have h0 : i - ts.length = 0 := by
      have := (List.getElem?_eq_some_iff.mp h1).1
      simp at this
      omega
    rw [h0] at h1 h2
    obtain rfl := Option.some.inj h1
    obtain rfl := Option.some.inj h2
    exact ha
theorem TnsAt.get {H : Hp} {as : List Addr} {ts : List Tn} {i : Nat} {t : Tn} (h : TnsAt H as ts) (ht : ts[i]? = some t) : ∃ a, (as.map V.ref)[i]? = some (.ref a) ∧ TnAt H t a := by
  have hi : i < as.length := by rw [h.1]; exact (List.getElem?_eq_some_iff.mp ht).1
  exact ⟨as[i], by rw [List.getElem?_map, List.getElem?_eq_getElem hi]; rfl, h.2 i t _ ht (List.getElem?_eq_getElem hi)⟩
theorem rowT_len (n : Nat) : ∀ t, (rowT n t).length ≤ n
  | 0 => by show ((List.range n).map _).length ≤ n; rw [List.length_map, List.length_range]; exact Nat.le_refl _
  | t + 1 => by
    have h := rowT_len n t
    show (pairT (rowT n t)).length ≤ n
    rw [pairT_len]
    omega
theorem rowT_root {n : Nat} (h1 : 1 ≤ n) (h2 : n ≤ 200) : ∃ x, rowT n 8 = [x] ∧ x.size + 1 = 2 * n := by
  have hl : (rowT n 8).length = 1 := by
    have l0 : (rowT n 0).length = n := by show ((List.range n).map _).length = n; rw [List.length_map, List.length_range]
    have st : ∀ t, (rowT n (t + 1)).length = ((rowT n t).length + 1) / 2 := fun t => pairT_len _
    have a1 : (rowT n 1).length = ((rowT n 0).length + 1) / 2 := st 0
    have a2 : (rowT n 2).length = ((rowT n 1).length + 1) / 2 := st 1
    have a3 : (rowT n 3).length = ((rowT n 2).length + 1) / 2 := st 2
    have a4 : (rowT n 4).length = ((rowT n 3).length + 1) / 2 := st 3
    have a5 : (rowT n 5).length = ((rowT n 4).length + 1) / 2 := st 4
    have a6 : (rowT n 6).length = ((rowT n 5).length + 1) / 2 := st 5
    have a7 : (rowT n 7).length = ((rowT n 6).length + 1) / 2 := st 6
    have a8 : (rowT n 8).length = ((rowT n 7).length + 1) / 2 := st 7
    omega
  have hs := rowT_sum n 8
  match h : rowT n 8, hl with
  | [x], _ =>
    rw [h] at hs
    exact ⟨x, rfl, by have : (x.size + 1) + 0 = 2 * n := hs; omega⟩
def sp_law_broad (K : PySem.W.Frag) : Sp := fun vs H Q _ => ∃ n : Nat, vs = [.int (n : Int)] ∧ 1 ≤ n ∧ n ≤ 200 ∧ ∀ a x H', Same H H' → (rowT n 8)[0]? = some x → TnAt H' x a → Q (.ref a) H'
theorem ok_law_broad (T : Txt K mg) : FnOk P w K mg base CX0 1 T.a_law_broad T.fd_law_broad ["leaves"] (sp_law_broad K) := by
  refine T.F_law_broad.ok sc_law_broad (fun vs H Q E h => ?_) (fun cdv A outer s H vs Q E hr h => ?_)
  · obtain ⟨n, rfl, _⟩ := h
    rfl
  · obtain ⟨n, rfl, n1, n2, q⟩ := h
    refine ⟨_, (pss_cons (ps_setLc (i := 2) (own := [("k", 1)]) (g := gName 1) (tt := tYes) rfl sc_law_broad.nd rfl rfl (sw_true rfl rfl rfl (by decide +kernel)) (pi_range1 (by rfl) T.m_range (pa_cons (pv 0) pa_nil)) (blkOk_by (N := N_law_broad) (sc := defScope s_law_broad) (by decide +kernel)) (fun _ _ _ _ _ => (pg_name (i := 1) sc_law_broad.nd rfl (Or.inl rfl))) (fun _ _ _ _ _ => pts_nil) (fun _ _ _ _ _ => (pe_tup (pa_cons pe_str (pa_cons (pe_op op_mod (pv 1) pe_int) pa_nil)))))
      (pss_cons (ps_for PassesOwn.never rfl (pi_range1 (by rfl) T.m_range (pa_cons pe_int pa_nil)) (pg_name (i := 3) sc_law_broad.nd rfl (Or.inl rfl))
      (pss_cons (ps_set (i := 4) sc_law_broad.nd rfl (.inl rfl) (pe_lst pa_nil))
      (pss_cons (ps_for PassesOwn.never rfl (pi_range1 (by rfl) T.m_range (pa_cons (pe_op op_fdiv (pe_op op_add (pe_callB (id := "len") (r := rLen K) cr_len (by rfl) T.m_len PySem.boot_len (pa_cons (pv 2) pa_nil)) pe_int) pe_int) pa_nil)) (pg_name (i := 1) sc_law_broad.nd rfl (Or.inl rfl))
      (pss_one (ps_if (pt_cmpR op_lt (pe_op op_add (pe_op op_mul pe_int (pv 1)) pe_int) (pe_callB (id := "len") (r := rLen K) cr_len (by rfl) T.m_len PySem.boot_len (pa_cons (pv 2) pa_nil)) (nomark _))
      (pss_one (ps_expr (pe_bm PySem.F.plainAttrs_list PySem.F.slot_list_append PySem.F.type_list_append mt_append (pv 4) (pa_cons (pe_tup (pa_cons pe_str (pa_cons (pe_tup (pa_cons (pe_tup (pa_cons pe_int (pa_cons pe_int pa_nil))) (pa_cons (pe_tup (pa_cons pe_int (pa_cons pe_int pa_nil))) pa_nil))) (pa_cons (pe_ix (r := rIxL K) ix_list (pv 2) (pe_op op_mul pe_int (pv 1)) (fun _ _ => rfl)) (pa_cons (pe_ix (r := rIxL K) ix_list (pv 2) (pe_op op_add (pe_op op_mul pe_int (pv 1)) pe_int) (fun _ _ => rfl)) pa_nil))))) pa_nil))))
      (pss_one (ps_expr (pe_bm PySem.F.plainAttrs_list PySem.F.slot_list_append PySem.F.type_list_append mt_append (pv 4) (pa_cons (pe_ix (r := rIxL K) ix_list (pv 2) (pe_op op_mul pe_int (pv 1)) (fun _ _ => rfl)) pa_nil)))))))
      (pss_one (ps_set (i := 2) sc_law_broad.nd rfl (.inl rfl) (pv 4))))))
      (pss_one (ps_ret (pe_ix (r := rIxL K) ix_list (pv 2) pe_int (fun _ _ => rfl)))))), ?_⟩
    walk_at "start"
    walk_at "x"
    refine x_lcR1 (n : Int) (fun o k H' => Same H H' ∧ ∃ as : List Addr, H' o = some (.lst (as.map V.ref)) ∧ TnsAt H' as ((rowT n 0).take k)) (fun R r => ⟨_, rfl, r⟩) (by omega) (by omega) (fun o ho => ⟨same_upd ho, [], upd_same, .nil⟩) (fun x => rfl) ?_ ?_
    · rintro o k H2 ho hk ⟨s2, as, hO, hA⟩
      walk_at "x"
      refine ⟨by show 2 ≤ sizeLine; decide, fun a ha => ?_⟩
      have u := same_upd (o := .tup [V.str "leaf", V.int ((k : Int) % 2)]) ha
      have ea : (upd H2 a (.tup [V.str "leaf", V.int ((k : Int) % 2)])) a = some (.tup [V.str "leaf", V.int ((k : Int) % 2)]) := upd_same
      generalize upd H2 a (.tup [V.str "leaf", V.int ((k : Int) % 2)]) = H3 at u ea
      have hO3 := u _ _ hO
      have hk2 : k < n := by omega
      have hr : (rowT n 0)[k]? = some (.leaf ((k % 2 : Nat) : Int)) := by
        show ((List.range n).map fun k => Tn.leaf ((k % 2 : Nat) : Int))[k]? = _
        rw [List.getElem?_map, List.getElem?_range hk2]
        rfl
      have hT : Tups H3 (upd H3 o (.lst (as.map V.ref ++ [V.ref a]))) := (Tups.refl _).put (no_tupL hO3)
      refine ⟨_, hO3, lt_line (by rw [List.length_map, hA.1, List.length_take]; omega), sput (s2.trans u) ho, as ++ [a], by rw [upd_same, List.map_append]; rfl, ?_⟩
      rw [take_snocG hr]
      exact ((hA.tups (Tups.same u)).snoc (t := .leaf ((k % 2 : Nat) : Int)) ea).tups hT
    rintro ro H2 hro ⟨s2, as, hO, hA⟩
    rw [show (((n : Nat) : Int)).toNat = (rowT n 0).length by show _ = ((List.range n).map _).length; rw [List.length_map, List.length_range]; omega, List.take_length] at hA
    walk_at "x"
    refine x_forR1 8 (fun t σ' H' => ∃ (o : Addr) (as : List Addr) (v3 v4 v5 : Option V), σ' = [some (.int (n : Int)), v3, some (.ref o), v4, v5] ∧ Same H H' ∧ H' o = some (.lst (as.map V.ref)) ∧ TnsAt H' as (rowT n t)) (fun R r => r) (by decide) (by decide) ⟨ro, as, _, _, _, rfl, s2, hO, hA⟩ ?_ ?_
    · clear s2 hO hA hro
      rintro t σ' H3 ht ⟨o, as, v3, v4, v5, rfl, s3, hO, hA⟩
      walk_at "x"
      refine ⟨by show 0 ≤ sizeLine; decide, fun p hp => ?_⟩
      have u := same_upd (o := .lst []) hp
      have e3 : (upd H3 p (.lst [])) p = some (.lst (([] : List Addr).map V.ref)) := upd_same
      have hp0 : H p = none := s3.free hp
      have hO3 := u _ _ hO
      have hA3 := hA.tups (Tups.same u)
      have s4 := s3.trans u
      have hop : o ≠ p := ne_of_none hO hp
      generalize upd H3 p (.lst []) = H4 at u e3 hO3 hA3 s4
      have hl := rowT_len n t
      have hal := hA.1
      have hpl : (rowT n (t + 1)).length = (as.length + 1) / 2 := by show (pairT (rowT n t)).length = _; rw [pairT_len, hal]
      walk_at "x"
      refine x_forR1 (((as.length + 1) / 2 : Nat) : Int) (fun k σ' H' => ∃ (bs : List Addr) (v3 : Option V), σ' = [some (.int (n : Int)), v3, some (.ref o), some (.int (t : Int)), some (.ref p)] ∧ Same H H' ∧ H' o = some (.lst (as.map V.ref)) ∧ TnsAt H' as (rowT n t) ∧ H' p = some (.lst (bs.map V.ref)) ∧ TnsAt H' bs ((rowT n (t + 1)).take k)) (fun R r => by
        walk_at "x"
        refine x_len (sq_of hO3) ?_
        walk_at "x"
        rw [List.length_map, show ((as.length : Int) + 1) / 2 = (((as.length + 1) / 2 : Nat) : Int) by omega]
        exact r) (by omega) (by omega) ⟨[], _, rfl, s4, hO3, hA3, e3, .nil⟩ ?_ ?_
      · clear s4 hO3 hA3 e3 u hp
        rintro k σ' H5 hk ⟨bs, v3, rfl, s5, hO5, hA5, hP5, hB5⟩
        have hk2 : k < (rowT n (t + 1)).length := by rw [hpl]; omega
        have hget := List.getElem?_eq_getElem hk2
        generalize (rowT n (t + 1))[k] = x at hget
        have fin : ∀ {H6 : Hp} {c : Addr} {R : VK}, Same H5 H6 → TnAt H6 x c → (∀ H7, (∃ (bs : List Addr) (v3 : Option V), [some (.int (n : Int)), some (.int (k : Int)), some (.ref o), some (.int (t : Int)), some (.ref p)] = [some (.int (n : Int)), v3, some (.ref o), some (.int (t : Int)), some (.ref p)] ∧ Same H H7 ∧ H7 o = some (.lst (as.map V.ref)) ∧ TnsAt H7 as (rowT n t) ∧ H7 p = some (.lst (bs.map V.ref)) ∧ TnsAt H7 bs ((rowT n (t + 1)).take (k + 1))) → R .non H7) → rAppend (.ref p) [.ref c] H6 R := fun {H6 c R} s6 hx r => by
          have hP6 := s6 _ _ hP5
          have hT : Tups H6 (upd H6 p (.lst (bs.map V.ref ++ [V.ref c]))) := (Tups.refl _).put (no_tupL hP6)
          refine x_app hP6 (by rw [List.length_map, hB5.1, List.length_take]; omega) (r _ ⟨bs ++ [c], _, rfl, sput (s5.trans s6) hp0, by rw [upd_ne hop]; exact s6 _ _ hO5, (hA5.tups (Tups.same s6)).tups hT, by rw [upd_same, List.map_append]; rfl, ?_⟩)
          rw [take_snocG hget]
          exact ((hB5.tups (Tups.same s6)).snoc hx).tups hT
        walk_at "x"
        refine x_len (sq_of hO5) ?_
        walk_at "x"
        rw [List.length_map]
        refine x_ite (fun hc => ?_) (fun hc => ?_)
        · rcases pairT_get hget with ⟨x1, x2, h1, h2, rfl⟩ | ⟨_, h2⟩
          · obtain ⟨a1, ga1, ta1⟩ := hA5.get h1
            obtain ⟨a2, ga2, ta2⟩ := hA5.get h2
            walk_at "x"
            refine x_tyL hP5 ?_
            walk_at "x"
            refine ⟨by show 2 ≤ sizeLine; decide, fun r1 hr1 => ?_⟩
            have ur1 := same_upd (o := .tup [V.int 1, V.int 0]) hr1
            have er1 : (upd H5 r1 (.tup [V.int 1, V.int 0])) r1 = some (.tup [V.int 1, V.int 0]) := upd_same
            generalize upd H5 r1 (.tup [V.int 1, V.int 0]) = H6 at ur1 er1
            walk_at "x"
            refine ⟨by show 2 ≤ sizeLine; decide, fun r2 hr2 => ?_⟩
            have ur2 := same_upd (o := .tup [V.int 0, V.int 1]) hr2
            have er2 : (upd H6 r2 (.tup [V.int 0, V.int 1])) r2 = some (.tup [V.int 0, V.int 1]) := upd_same
            generalize upd H6 r2 (.tup [V.int 0, V.int 1]) = H7 at ur2 er2
            walk_at "x"
            refine ⟨by show 2 ≤ sizeLine; decide, fun tb htb => ?_⟩
            have utb := same_upd (o := .tup [V.ref r1, V.ref r2]) htb
            have etb : (upd H7 tb (.tup [V.ref r1, V.ref r2])) tb = some (.tup [V.ref r1, V.ref r2]) := upd_same
            generalize upd H7 tb (.tup [V.ref r1, V.ref r2]) = H8 at utb etb
            walk_at "x"
            refine x_ixL (v := .ref a1) (sq_of (((ur1.trans ur2).trans utb) _ _ hO5)) (by rw [show 2 * (k : Int) = ((2 * k : Nat) : Int) by omega]; exact atI_nat ga1) ?_
            walk_at "x"
            refine x_ixL (v := .ref a2) (sq_of (((ur1.trans ur2).trans utb) _ _ hO5)) (by rw [show 2 * (k : Int) + 1 = ((2 * k + 1 : Nat) : Int) by omega]; exact atI_nat ga2) ?_
            walk_at "x"
            refine ⟨by show 4 ≤ sizeLine; decide, fun no hno => ?_⟩
            have uno := same_upd (o := .tup [V.str "node", V.ref tb, V.ref a1, V.ref a2]) hno
            have eno : (upd H8 no (.tup [V.str "node", V.ref tb, V.ref a1, V.ref a2])) no = some (.tup [V.str "node", V.ref tb, V.ref a1, V.ref a2]) := upd_same
            generalize upd H8 no (.tup [V.str "node", V.ref tb, V.ref a1, V.ref a2]) = H9 at uno eno
            have s9 := ((ur1.trans ur2).trans utb).trans uno
            have htb : TbAt H9 tb [[1, 0], [0, 1]] := ⟨[r1, r2], uno _ _ etb, rfl, fun i r b h1 h2 => by
              match i, h1, h2 with
              | 0, h1, h2 => cases h1; cases h2; exact ((ur2.trans utb).trans uno) _ _ er1
              | 1, h1, h2 => cases h1; cases h2; exact (utb.trans uno) _ _ er2⟩
            walk_at "x"
            refine fin s9 ⟨tb, a1, a2, eno, htb, ta1.tups (Tups.same s9), ta2.tups (Tups.same s9)⟩ fun H10 h10 => ?_
            obtain ⟨bs2, v32, g1, g2⟩ := h10
            walk_at "x"
            exact ⟨bs2, _, rfl, g2⟩
          · omega
        · rcases pairT_get hget with ⟨x1, x2, h1, h2, rfl⟩ | ⟨h1, h2⟩
          · have := (List.getElem?_eq_some_iff.mp h2).1
            omega
          · obtain ⟨a1, ga1, ta1⟩ := hA5.get h1
            walk_at "x"
            refine x_tyL hP5 ?_
            walk_at "x"
            refine x_ixL (v := .ref a1) (sq_of hO5) (by rw [show 2 * (k : Int) = ((2 * k : Nat) : Int) by omega]; exact atI_nat ga1) ?_
            walk_at "x"
            refine fin (Same.refl _) ta1 fun H10 h10 => ?_
            obtain ⟨bs2, v32, g1, g2⟩ := h10
            walk_at "x"
            exact ⟨bs2, _, rfl, g2⟩
      · rintro σ' H5 ⟨bs, v3, rfl, s5, hO5, hA5, hP5, hB5⟩
        rw [show ((((as.length + 1) / 2 : Nat) : Int)).toNat = (rowT n (t + 1)).length by rw [hpl]; omega, List.take_length] at hB5
        walk_at "x"
        exact ⟨p, bs, _, _, _, rfl, s5, hP5, hB5⟩
    · rintro σ' H3 ⟨o, as, v3, v4, v5, rfl, s3, hO, hA⟩
      have hl : 0 < (rowT n 8).length := by
        have hs := rowT_sum n 8
        cases h : rowT n 8 with
        | nil => rw [h] at hs; have : 0 = 2 * n := hs; omega
        | cons x l => exact Nat.succ_pos _
      obtain ⟨a, ha, hx⟩ := hA.get (List.getElem?_eq_getElem hl)
      walk_at "x"
      refine x_ixL (sq_of hO) (atI_nat (j := 0) ha) ?_
      exact q a _ H3 s3 (List.getElem?_eq_getElem hl) hx


end
end Br
namespace Br
open PySem PySem.Spec PyProof.Rows L2
local macro_rules | `(tactic| walk_at "x1") => `(tactic| (with_reducible first
  | refine Br.x_seq ?_ | refine Br.x_set ?_ | refine Br.x_asg ?_ | refine Br.x_next ?_ | refine Br.x_ret ?_ | refine Br.x_retN ?_ | refine Br.x_drop ?_ | refine Br.x_if ?_ | refine Br.x_brk ?_ | refine Br.x_cont ?_
  | refine Br.x_c ?_ | refine Br.x_op ?_ | refine Br.x_un ?_ | refine Br.x_I0 ?_ | refine Br.x_U ?_ | refine Br.x_EqI ?_ | refine Br.x_NeI ?_ | refine Br.x_EqB ?_ | refine Br.x_iN ?_ | refine Br.x_int1 ?_ | refine Br.x_min2 ?_ | refine Br.x_max2 ?_ | refine Br.x_nN ?_ | refine Br.x_ifE ?_
  | refine Br.x_test (b := ()) ?_ | refine Br.x_tB ?_ | refine Br.x_bl ?_ | refine Br.x_and ?_ | refine Br.x_or ?_ | refine Br.x_not ?_ | refine Br.x_andV ?_ | refine Br.x_orV ?_ | refine Br.x_notV ?_ | refine Br.x_blP ?_
  | refine Br.x_nil ?_ | refine Br.x_cons ?_ | refine Br.x_call ?_ | refine Br.x_CB ?_ | refine Br.x_BM ?_ | refine Br.x_tup ?_ | refine Br.x_lst ?_ | refine Br.x_chain ?_ | refine Br.x_par ?_ | refine Br.x_gSub ?_ | refine Br.x_gName ?_ | refine Br.x_fld ?_ | refine Br.x_fldS ?_ | refine Br.x_match ?_ | refine Br.x_else ?_ | refine Br.x_noCase ?_))
local macro_rules | `(tactic| walk_at "xv") => `(tactic| ((with_reducible refine' Br.x_var ?hvar ?_); (case hvar => rfl)))
local macro_rules | `(tactic| walk_at "xd") => `(tactic| (dsimp only [List.set_cons_zero, List.set_cons_succ, List.cons_append, List.nil_append, List.append_nil]))
local macro_rules | `(tactic| walk_at "xi") => `(tactic| ((with_reducible refine Br.x_I ?hside ?_); (case hside => first | exact Br.mul_r (by decide) (by decide) | exact Br.mul_l (by decide) (by decide) | exact Br.mul_l (by omega) (by omega) | exact Br.mul_r (by omega) (by omega) | (show (0 : Int) < _; first | decide | omega) | exact ⟨by decide, by decide⟩ | exact ⟨by omega, by omega⟩ | exact ⟨by decide, by decide, by decide⟩)))
local macro_rules | `(tactic| walk_at "x") => `(tactic| (repeat (first | walk_at "x1" | walk_at "xv" | walk_at "xi" | walk_at "xd")))
local macro_rules | `(tactic| walk_at "start") => `(tactic| (simp only [L2.start, List.map_cons, List.map_nil, List.length_cons, List.length_nil, Nat.reduceAdd, Nat.reduceSub, List.replicate, List.cons_append, List.nil_append, List.append_nil]))
local macro_rules | `(tactic| walk_at "isi") => `(tactic| first
  | refine Br.x_isi (b := true) (.base (.int _)) (by decide +kernel) ?_ | refine Br.x_isi (b := false) (.base (.int _)) (by decide +kernel) ?_
  | refine Br.x_isi (b := true) (.base (.bl _)) (by decide +kernel) ?_ | refine Br.x_isi (b := false) (.base (.bl _)) (by decide +kernel) ?_
  | refine Br.x_isi (b := false) (.base .non) (by decide +kernel) ?_
  | refine Br.x_isi (b := true) (.base (.str _)) (by decide +kernel) ?_ | refine Br.x_isi (b := false) (.base (.str _)) (by decide +kernel) ?_
  | refine Br.x_isi (b := true) (.base (.tup (by assumption))) (by decide +kernel) ?_ | refine Br.x_isi (b := false) (.base (.tup (by assumption))) (by decide +kernel) ?_
  | refine Br.x_isi (b := true) (.base (.lst (by assumption))) (by decide +kernel) ?_ | refine Br.x_isi (b := false) (.base (.lst (by assumption))) (by decide +kernel) ?_)
local macro_rules | `(tactic| walk_at "f") => `(tactic| (refine L2.iteF ?_; walk_at "x"))
local macro_rules | `(tactic| walk_at "t") => `(tactic| (refine L2.iteT ?_; walk_at "x"))
local macro_rules | `(tactic| walk_at "is") => `(tactic| (walk_at "isi"; walk_at "x"))
local macro_rules | `(tactic| walk_at "xb") => `(tactic| (simp only [Br.bindS, List.set_cons_zero, List.set_cons_succ]; walk_at "x"))

section
variable {P : Program} {w : World} {K : PySem.W.Frag} {mg : Str → Option Value} {base : Heap}

open Br
def goodT (m : Nat) (e : PyData) : Bool := tableD (m : Int) e && decide (lenTD e = (m : Int))
theorem badT_mem {m : Nat} {es : List PyData} {f : PyData} (hf : f ∈ es) (hb : rowTD m (m : Int) f = false) : goodT m (.tuple es) = false := by
  unfold goodT
  by_cases hl : es.length = m
  · have : tableD (m : Int) (.tuple es) = false := by
      show ((decide (1 ≤ es.length) && decide ((es.length : Int) ≤ (m : Int))) && es.all (rowTD es.length (m : Int))) = false
      rw [hl, show es.all (rowTD m (m : Int)) = false from List.all_eq_false.mpr ⟨f, hf, by rw [hb]; decide⟩, Bool.and_false]
    rw [this]; rfl
  · rw [show decide (lenTD (.tuple es) = (m : Int)) = false from decide_eq_false (by show ¬ ((es.length : Int) = (m : Int)); omega), Bool.and_false]
theorem badT_len {m : Nat} {es : List PyData} (h : es.length ≠ m) : goodT m (.tuple es) = false := by
  unfold goodT
  rw [show decide (lenTD (.tuple es) = (m : Int)) = false from decide_eq_false (by show ¬ ((es.length : Int) = (m : Int)); omega), Bool.and_false]
/-- a list of lists that may be changed -/
structure RwL (d R : Addr) (as : List Addr) (rs : List (List V)) (H : Hp) : Prop where
  lst : H R = some (.lst (as.map V.ref))
  len : as.length = rs.length
  rows : ∀ (i : Nat) r b, rs[i]? = some r → as[i]? = some b → H b = some (.lst r)
  ned : ∀ (i : Nat) b, as[i]? = some b → b ≠ d ∧ b ≠ R
  inj : ∀ (i j : Nat) b, as[i]? = some b → as[j]? = some b → i = j
  nrd : R ≠ d
theorem RwL.keep {d R : Addr} {as : List Addr} {rs : List (List V)} {H H' : Hp} (h : RwL d R as rs H) (k : Keep d H H') : RwL d R as rs H' :=
  ⟨k _ _ h.lst h.nrd, h.len, fun i r b h1 h2 => k _ _ (h.rows i r b h1 h2) (h.ned i b h2).1, h.ned, h.inj, h.nrd⟩
theorem RwL.get {d R : Addr} {as : List Addr} {rs : List (List V)} {H : Hp} (h : RwL d R as rs H) {i : Nat} (hi : i < rs.length) : ∃ b r, as[i]? = some b ∧ rs[i]? = some r ∧ H b = some (.lst r) ∧ (as.map V.ref)[i]? = some (.ref b) := by
  have hl : i < as.length := by rw [h.len]; exact hi
  exact ⟨as[i], rs[i], List.getElem?_eq_getElem hl, List.getElem?_eq_getElem hi, h.rows i _ _ (List.getElem?_eq_getElem hi) (List.getElem?_eq_getElem hl), by rw [List.getElem?_map, List.getElem?_eq_getElem hl]; rfl⟩
/-- one row changed in its place -/
theorem RwL.put {d R : Addr} {as : List Addr} {rs : List (List V)} {H : Hp} (h : RwL d R as rs H) {i : Nat} {b : Addr} {r : List V} (hb : as[i]? = some b) : RwL d R as (rs.set i r) (upd H b (.lst r)) := by
  refine ⟨by rw [upd_ne (h.ned i b hb).2.symm]; exact h.lst, by rw [List.length_set]; exact h.len, fun j r2 c h1 h2 => ?_, h.ned, h.inj, h.nrd⟩
  by_cases e : c = b
  · subst e
    have := h.inj i j c hb h2
    subst this
    rw [upd_same]
    have hj := (List.getElem?_eq_some_iff.mp h1).1
    rw [List.length_set] at hj
    rw [List.getElem?_set_self hj] at h1
    cases h1
    rfl
  · rw [upd_ne e]
    by_cases hij : i = j
    · subst hij
      rw [hb] at h2
      exact absurd (Option.some.inj h2).symm e
    · rw [List.getElem?_set_ne hij] at h1
      exact h.rows j r2 c h1 h2
/-- one row exchanged for a new one -/
theorem RwL.swap {d R p : Addr} {as : List Addr} {rs : List (List V)} {H : Hp} (h : RwL d R as rs H) {i : Nat} {r : List V} (hp : H p = none) (hd : p ≠ d) : RwL d R (as.set i p) (rs.set i r) (upd (upd H p (.lst r)) R (.lst ((as.set i p).map V.ref))) := by
  have hR := h.lst
  have pR : p ≠ R := fun e => by rw [e, hR] at hp; cases hp
  have old : ∀ (j : Nat) b, as[j]? = some b → b ≠ p := fun j b hb e => by
    have hj := (List.getElem?_eq_some_iff.mp hb).1
    have := h.rows j _ b (List.getElem?_eq_getElem (by rw [← h.len]; exact hj)) hb
    rw [e, hp] at this
    cases this
  have at' : ∀ (j : Nat) b, (as.set i p)[j]? = some b → (j = i ∧ b = p) ∨ (j ≠ i ∧ as[j]? = some b) := fun j b hb => by
    by_cases hij : i = j
    · subst hij
      have hj := (List.getElem?_eq_some_iff.mp hb).1
      rw [List.length_set] at hj
      rw [List.getElem?_set_self hj] at hb
      exact .inl ⟨rfl, (Option.some.inj hb).symm⟩
    · rw [List.getElem?_set_ne hij] at hb
      exact .inr ⟨fun e => hij e.symm, hb⟩
  refine ⟨upd_same, by rw [List.length_set, List.length_set]; exact h.len, fun j r2 c h1 h2 => ?_, fun j b hb => ?_, fun j k b h1 h2 => ?_, h.nrd⟩
  · rcases at' j c h2 with ⟨rfl, rfl⟩ | ⟨hj, h2⟩
    · rw [upd_ne pR, upd_same]
      have hj := (List.getElem?_eq_some_iff.mp h1).1
      rw [List.length_set] at hj
      rw [List.getElem?_set_self hj] at h1
      cases h1
      rfl
    · rw [upd_ne (h.ned j c h2).2, upd_ne (old j c h2)]
      rw [List.getElem?_set_ne (fun e => hj e.symm)] at h1
      exact h.rows j r2 c h1 h2
  · rcases at' j b hb with ⟨rfl, rfl⟩ | ⟨hj, hb⟩
    · exact ⟨hd, pR⟩
    · exact h.ned j b hb
  · rcases at' j b h1 with ⟨hj, hb⟩ | ⟨hj, h1⟩
    · rcases at' k b h2 with ⟨hk, _⟩ | ⟨hk, h2⟩
      · rw [hj, hk]
      · rw [hb] at h2
        exact absurd rfl (old k _ h2)
    · rcases at' k b h2 with ⟨hk, hb⟩ | ⟨hk, h3⟩
      · rw [hb] at h1
        exact absurd rfl (old j _ h1)
      · exact h.inj j k b h1 h3
/-- rows of values that need no objects -/
def FLr (xs : List V) (es : List PyData) : Prop := ∀ d H, DAts d H xs es
def RowsD (rs : List (List V)) (ess : List (List PyData)) : Prop := rs.length = ess.length ∧ ∀ (i : Nat) r es, rs[i]? = some r → ess[i]? = some es → FLr r es ∧ ∀ e, e ∈ es → ShN 1 e
theorem RowsD.set {rs : List (List V)} {ess : List (List PyData)} (h : RowsD rs ess) {i : Nat} {r : List V} {es : List PyData} (h1 : FLr r es) (h2 : ∀ e, e ∈ es → ShN 1 e) : RowsD (rs.set i r) (ess.set i es) := by
  refine ⟨by rw [List.length_set, List.length_set]; exact h.1, fun j r2 e2 g1 g2 => ?_⟩
  by_cases hij : i = j
  · subst hij
    have l1 := (List.getElem?_eq_some_iff.mp g1).1
    have l2 := (List.getElem?_eq_some_iff.mp g2).1
    rw [List.length_set] at l1 l2
    rw [List.getElem?_set_self l1] at g1
    rw [List.getElem?_set_self l2] at g2
    cases g1; cases g2
    exact ⟨h1, h2⟩
  · rw [List.getElem?_set_ne hij] at g1 g2
    exact h.2 j r2 e2 g1 g2
theorem RowsD.tab {n : Nat} {tb : List (List Int)} (_h : IsTab n tb) : RowsD (tb.map fun r => r.map V.int) (tb.map fun r => r.map PyData.int) := by
  refine ⟨by rw [List.length_map, List.length_map], fun i r es g1 g2 => ?_⟩
  rw [List.getElem?_map] at g1 g2
  cases hr : tb[i]? with
  | none => rw [hr] at g1; cases g1
  | some z =>
    rw [hr] at g1 g2
    cases g1; cases g2
    exact ⟨fun _ _ => ints_dat, fun e he => by obtain ⟨z, _, rfl⟩ := List.mem_map.mp he; exact .int⟩
theorem RowsD.tupD {d : Addr} {H : Hp} {rs : List (List V)} {ess : List (List PyData)} {bs : List Addr} (h : RowsD rs ess) (hl : bs.length = rs.length) (ht : ∀ (i : Nat) r b, rs[i]? = some r → bs[i]? = some b → H b = some (.tup r)) : DAts d H (bs.map V.ref) (ess.map PyData.tuple) := by
  refine DAts.of (by rw [List.length_map, List.length_map, hl, h.1]) fun i x e h1 h2 => ?_
  obtain ⟨b, hb, rfl⟩ := map_getR h1
  rw [List.getElem?_map] at h2
  cases he : ess[i]? with
  | none => rw [he] at h2; cases h2
  | some es =>
    rw [he] at h2
    cases h2
    have hi : i < rs.length := by rw [h.1]; exact (List.getElem?_eq_some_iff.mp he).1
    exact .tup (ht i _ b (List.getElem?_eq_getElem hi) hb) ((h.2 i _ es (List.getElem?_eq_getElem hi) he).1 d H)
theorem RowsD.lstD {d R : Addr} {H : Hp} {rs : List (List V)} {ess : List (List PyData)} {as : List Addr} (h : RowsD rs ess) (hr : RwL d R as rs H) : DAts d H (as.map V.ref) (ess.map PyData.list) := by
  refine DAts.of (by rw [List.length_map, List.length_map, hr.len, h.1]) fun i x e h1 h2 => ?_
  obtain ⟨b, hb, rfl⟩ := map_getR h1
  rw [List.getElem?_map] at h2
  cases he : ess[i]? with
  | none => rw [he] at h2; cases h2
  | some es =>
    rw [he] at h2
    cases h2
    have hi : i < rs.length := by rw [h.1]; exact (List.getElem?_eq_some_iff.mp he).1
    exact .lst (hr.ned i b hb).1 (hr.rows i _ b (List.getElem?_eq_getElem hi) hb) ((h.2 i _ es (List.getElem?_eq_getElem hi) he).1 d H)
theorem RowsD.sh {rs : List (List V)} {ess : List (List PyData)} (h : RowsD rs ess) : ∀ es, es ∈ ess → ∀ e, e ∈ es → ShN 1 e := fun es he => by
  obtain ⟨i, hi⟩ := List.mem_iff_getElem?.mp he
  have hl : i < rs.length := by rw [h.1]; exact (List.getElem?_eq_some_iff.mp hi).1
  exact (h.2 i _ es (List.getElem?_eq_getElem hl) hi).2
theorem x_lcTups {K : PySem.W.Frag} {σ : L2.St} {H : Hp} {Q : VK} {ta te : TE} {j : Nat} {vs : List Nat} {a : Addr} (as : List Addr) (rs : List (List V)) (hn : ∀ R : V → Hp → Prop, R (.ref a) H → ta σ H R) (ha : H a = some (.lst (as.map V.ref))) (hl : as.length = rs.length) (h9 : as.length ≤ 1000)
    (hr : ∀ (i : Nat) r b, rs[i]? = some r → as[i]? = some b → H b = some (.lst r)) (hw : ∀ x, wipe ((wipe σ vs).set j (some x)) vs = wipe σ vs)
    (he : ∀ b r H', H' b = some (.lst r) → ∀ R : VK, (∀ l, H' l = none → R (.ref l) (upd H' l (.tup r))) → te ((wipe σ vs).set j (some (.ref b))) H' R)
    (hd : ∀ (p : Addr) (bs : List Addr) H', H p = none → Same H H' → H' p = some (.lst (bs.map V.ref)) → bs.length = rs.length → (∀ (i : Nat) r b, rs[i]? = some r → bs[i]? = some b → H' b = some (.tup r)) → Q (.ref p) H') : tLc (iList K ta) (gName j) tYes te vs σ H Q := by
  refine x_lcL (a := a) (as.map V.ref) (fun p i H' => Same H H' ∧ ∃ bs : List Addr, H' p = some (.lst (bs.map V.ref)) ∧ bs.length = i ∧ ∀ (k : Nat) r b, rs[k]? = some r → bs[k]? = some b → H' b = some (.tup r)) hn (sq_of ha) (fun p hp => ⟨same_upd hp, [], upd_same, rfl, fun k r b _ h => by simp at h⟩) (fun p i H' hp _ z => sq_of (z.1 _ _ ha)) hw ?_ ?_
  · rintro p i x H' hp hx ⟨s, bs, hP, hbl, hbs⟩
    obtain ⟨b, hb, rfl⟩ := map_getR hx
    have hi := (List.getElem?_eq_some_iff.mp hb).1
    obtain ⟨r, hri⟩ : ∃ r, rs[i]? = some r := ⟨_, List.getElem?_eq_getElem (by omega)⟩
    refine he b r H' (s _ _ (hr i r b hri hb)) _ fun l hl2 => ?_
    have u := same_upd (o := .tup r) hl2
    have el : (upd H' l (.tup r)) l = some (.tup r) := upd_same
    generalize upd H' l (.tup r) = H2 at u el
    have hP2 := u _ _ hP
    refine ⟨_, hP2, lt_line (by rw [List.length_map]; omega), sput (s.trans u) hp, bs ++ [l], by rw [upd_same, List.map_append]; rfl, by rw [List.length_append, hbl]; rfl, fun k r2 b2 e1 e2 => ?_⟩
    have tp : Tups H2 (upd H2 p (.lst (bs.map V.ref ++ [V.ref l]))) := (Tups.refl _).put (no_tupL hP2)
    rcases snoc_at hbl e2 with ⟨h1, e2⟩ | ⟨rfl, rfl⟩
    · exact tp _ _ (u _ _ (hbs k r2 b2 e1 e2))
    · rw [hri] at e1; cases e1; exact tp _ _ el
  · rintro p H' hp ⟨s, bs, hP, hbl, hbs⟩
    rw [List.length_map] at hbl
    exact hd p bs H' hp s hP (by omega) hbs
theorem sh_rows {ess : List (List PyData)} (h : ∀ es, es ∈ ess → ∀ e, e ∈ es → ShN 1 e) : ∀ x, x ∈ ess.map PyData.tuple → ShN 2 x := fun x hx => by
  obtain ⟨es, hes, rfl⟩ := List.mem_map.mp hx
  exact ShN.tup (h es hes)
theorem sh_rowsL {ess : List (List PyData)} (h : ∀ es, es ∈ ess → ∀ e, e ∈ es → ShN 1 e) : ∀ x, x ∈ ess.map PyData.list → ShN 2 x := fun x hx => by
  obtain ⟨es, hes, rfl⟩ := List.mem_map.mp hx
  exact ShN.lst (h es hes)
theorem tab_sh {tb : List (List Int)} : ∀ x, x ∈ tb.map rowV → ShN 2 x := fun x hx => by
  obtain ⟨r, _, rfl⟩ := List.mem_map.mp hx
  exact row_sh
theorem tb_dats {d a : Addr} {H : Hp} {tb : List (List Int)} (h : TbAt H a tb) : ∃ as : List Addr, H a = some (.tup (as.map V.ref)) ∧ as.length = tb.length ∧ DAts d H (as.map V.ref) (tb.map rowV) := by
  obtain ⟨as, h1, h2, h3⟩ := h
  refine ⟨as, h1, h2, DAts.of (by rw [List.length_map, List.length_map, h2]) fun i x e hx he => ?_⟩
  obtain ⟨b, hb, rfl⟩ := map_getR hx
  rw [List.getElem?_map] at he
  cases hr : tb[i]? with
  | none => rw [hr] at he; cases he
  | some r =>
    rw [hr] at he
    cases he
    exact .tup (h3 i r b hr hb) ints_dat
theorem x_lcPreL7 {K : PySem.W.Frag} {σ : L2.St} {H : Hp} {Q : VK} {te : TE} {ta : TE} {j : Nat} {vs : List Nat} (h : ta σ H fun v H1 => tLc (iList K (tC v)) (gName j) tYes te vs σ H1 Q) : tLc (iList K ta) (gName j) tYes te vs σ H Q := h

def sp_law_bad_table (K : PySem.W.Frag) : Sp := fun vs H Q _ => ∃ (d nn a : Addr) (m : Nat) (tb : List (List Int)), vs = [.ref d, .ref a, .int (m : Int)] ∧ 1 ≤ m ∧ m ≤ 40 ∧ TbAt H a tb ∧ IsTab m tb ∧ tb.length = m ∧ Dr H d nn ∧ RetG d nn (fun v H' => ∃ e, DAt d H' v e ∧ ShN 3 e ∧ goodT m e = false) H Q
theorem ok_law_bad_table (T : Txt K mg) : FnOk P w K mg base CX0 4 T.a_law_bad_table T.fd_law_bad_table ["draws", "table", "values"] (sp_law_bad_table K) := by
  refine T.F_law_bad_table.ok sc_law_bad_table (fun vs H Q E h => ?_) (fun cdv A outer s H vs Q E hr h => ?_)
  · obtain ⟨d, nn, a, m, tb, rfl, _⟩ := h
    rfl
  · obtain ⟨d, nn, a, m, tb, rfl, m1, m9, hTb, hI, htl, hD, q⟩ := h
    obtain ⟨ats, hA, hAl, hAr⟩ := id hTb
    refine ⟨_, (pss_cons (ps_setLc (i := 3) (own := [("row", 6)]) (g := gName 6) (tt := tYes) rfl sc_law_bad_table.nd rfl rfl (sw_true rfl rfl rfl (by decide +kernel)) (pi_tup (pv 1)) (blkOk_by (N := N_law_bad_table) (sc := defScope s_law_bad_table) (by decide +kernel)) (fun _ _ _ _ _ => (pg_name (i := 6) sc_law_bad_table.nd rfl (Or.inl rfl))) (fun _ _ _ _ _ => pts_nil) (fun _ _ _ _ _ => (pe_callTy (T := "list") (r := rListOf K) cr_list_of (by rfl) T.m_list (by decide +kernel) (pa_cons (pv 6) pa_nil))))
      (pss_cons (ps_set (i := 4) sc_law_bad_table.nd rfl (.inl rfl) (pe_op op_mod (pe_call (ok_law_draw T) (hr.mono (by decide)) (by rfl) T.g_law_draw T.F_law_draw.kp T.b_law_draw .nil pass0 (pa_cons (pv 0) pa_nil)) pe_int))
      (pss_cons (ps_set (i := 5) sc_law_bad_table.nd rfl (.inl rfl) (pe_op op_mod (pe_call (ok_law_draw T) (hr.mono (by decide)) (by rfl) T.g_law_draw T.F_law_draw.kp T.b_law_draw .nil pass0 (pa_cons (pv 0) pa_nil)) (pv 2)))
      (pss_cons (ps_if (pt_cmpR op_eq (pv 4) pe_int (nomark _))
      (pss_one (ps_ret (pe_op (r := rCatA K) op_catA (pv 1) (pe_tup (pa_cons (pe_ix (r := rIxT K) ix_tup (pv 1) pe_int (fun _ _ => rfl)) pa_nil)))))
      pss_nil)
      (pss_cons (ps_if (pt_cmpR op_eq (pv 4) pe_int (nomark _))
      (pss_one (ps_ret (pe_slice (r := rSlA K) sl_tupA (pv 1) po_none (po_some (pe_op op_sub (pv 2) pe_int)))))
      pss_nil)
      (Evl.pss_cut (ps_if (pt_cmpR op_eq (pv 4) pe_int (nomark _))
      (pss_one (ps_asg (pe_op op_cat (pe_ix (r := rIxL K) ix_list (pv 3) (pv 5) (fun _ _ => rfl)) (pe_lst (pa_cons pe_int pa_nil))) (pg_sub (pv 3) (pv 5) set_list)))
      (pss_one (ps_if (pt_cmpR op_eq (pv 4) pe_int (nomark _))
      (pss_one (ps_asg (pe_call (ok_law_bad_number T) hr (by rfl) T.g_law_bad_number T.F_law_bad_number.kp T.b_law_bad_number .nil pass0 (pa_cons (pv 0) (pa_cons (pv 2) pa_nil))) (pg_sub (pe_ix (r := rIxL K) ix_list (pv 3) (pv 5) (fun _ _ => rfl)) (pe_op op_mod (pe_call (ok_law_draw T) (hr.mono (by decide)) (by rfl) T.g_law_draw T.F_law_draw.kp T.b_law_draw .nil pass0 (pa_cons (pv 0) pa_nil)) (pv 2)) set_list)))
      (pss_one (ps_if (pt_cmpR op_eq (pv 4) pe_int (nomark _))
      (pss_one (ps_ret (pe_callTy (T := "tuple") (r := rTupOf K) cr_tup_of (by rfl) T.m_tuple (by decide +kernel) (pa_cons (pv 3) pa_nil))))
      (pss_one (ps_if (pt_cmpR op_eq (pv 4) pe_int (nomark _))
      (pss_one (ps_ret (pe_callTy (T := "tuple") (r := rTupOf K) cr_tup_of (by rfl) T.m_tuple (by decide +kernel) (pa_cons (pe_lc (own := [("row", 6)]) (g := gName 6) (tt := tYes) rfl sc_law_bad_table.nd (pi_list (pe_slice (r := rSlL K) sl_list (pv 3) po_none (po_some (pe_op op_sub (pv 2) pe_int)))) (blkOk_by (N := N_law_bad_table) (sc := defScope s_law_bad_table) (by decide +kernel)) (fun _ _ _ _ _ => (pg_name (i := 6) sc_law_bad_table.nd rfl (Or.inl rfl))) (fun _ _ _ _ _ => pts_nil) (fun _ _ _ _ _ => (pe_callTy (T := "tuple") (r := rTupOf K) cr_tup_of (by rfl) T.m_tuple (by decide +kernel) (pa_cons (pe_lc (own := [("x", 7)]) (g := gName 7) (tt := tYes) rfl sc_law_bad_table.nd (pi_listK (K2 := K) rfl (pe_slice (r := rSlL K) sl_list (pv 6) po_none (po_some (pe_op op_sub (pv 2) pe_int)))) (blkOk_by (by kernel_rfl)) (fun _ _ _ _ _ => (pg_name (i := 7) sc_law_bad_table.nd rfl (Or.inl rfl))) (fun _ _ _ _ _ => pts_nil) (fun _ _ _ _ _ => (pe_callB (id := "min") (r := rMin2) (cr_min2 rfl) (by rfl) T.m_min (by decide +kernel) (pa_cons (pv 7) (pa_cons (pe_callB (id := "max") (r := rMax2) (cr_max2 rfl) (by rfl) T.m_max (by decide +kernel) (pa_cons pe_int (pa_cons (pe_op op_sub (pv 2) pe_int) pa_nil))) pa_nil))))) pa_nil)))) pa_nil))))
      (pss_one (ps_ret (pe_lc (own := [("row", 6)]) (g := gName 6) (tt := tYes) rfl sc_law_bad_table.nd (pi_list (pv 3)) (blkOk_by (N := N_law_bad_table) (sc := defScope s_law_bad_table) (by decide +kernel)) (fun _ _ _ _ _ => (pg_name (i := 6) sc_law_bad_table.nd rfl (Or.inl rfl))) (fun _ _ _ _ _ => pts_nil) (fun _ _ _ _ _ => (pe_callTy (T := "tuple") (r := rTupOf K) cr_tup_of (by rfl) T.m_tuple (by decide +kernel) (pa_cons (pv 6) pa_nil)))))))))))))
      (pss_one (ps_ret (pe_callTy (T := "tuple") (r := rTupOf K) cr_tup_of (by rfl) T.m_tuple (by decide +kernel) (pa_cons (pe_lc (own := [("row", 6)]) (g := gName 6) (tt := tYes) rfl sc_law_bad_table.nd (pi_list (pv 3)) (blkOk_by (N := N_law_bad_table) (sc := defScope s_law_bad_table) (by decide +kernel)) (fun _ _ _ _ _ => (pg_name (i := 6) sc_law_bad_table.nd rfl (Or.inl rfl))) (fun _ _ _ _ _ => pts_nil) (fun _ _ _ _ _ => (pe_callTy (T := "tuple") (r := rTupOf K) cr_tup_of (by rfl) T.m_tuple (by decide +kernel) (pa_cons (pv 6) pa_nil)))) pa_nil)))))))))), ?_⟩
    walk_at "start"
    walk_at "x"
    refine x_lcTT (a := a) (ats.map V.ref) (fun p i H' => Same H H' ∧ ∃ as : List Addr, RwL d p as ((tb.take i).map fun r => r.map V.int) H' ∧ ∀ (k : Nat) b, as[k]? = some b → H b = none) (fun R r => by walk_at "x"; exact r) (st_of hA) (fun p hp => ⟨same_upd hp, [], ⟨upd_same, rfl, fun i r b _ h => by simp at h, fun i b h => by simp at h, fun i j b h => by simp at h, hD.new hp⟩, fun k b h => by simp at h⟩) (fun p i H' hp _ z => st_of (z.1 _ _ hA)) (fun x => rfl) ?_ ?_
    · rintro p i x H' hp hx ⟨s, as, hR, hF⟩
      obtain ⟨b, hb, rfl⟩ := map_getR hx
      have hi : i < tb.length := by rw [← hAl]; exact (List.getElem?_eq_some_iff.mp hb).1
      have hri := List.getElem?_eq_getElem hi
      unfold tYes
      refine iteT ?_
      walk_at "x"
      refine x_listT (st_of (s _ _ (hAr i _ b hri hb))) fun l hl => ?_
      have u := same_upd (o := .lst (tb[i].map V.int)) hl
      have el : (upd H' l (.lst (tb[i].map V.int))) l = some (.lst (tb[i].map V.int)) := upd_same
      have lp : l ≠ p := (ne_of_none hR.lst hl).symm
      have ld : l ≠ d := (hD.same s).new hl
      have hl0 : H l = none := s.free hl
      have old : ∀ (k : Nat) b, as[k]? = some b → b ≠ l := fun k b hb e => by
        have hk := (List.getElem?_eq_some_iff.mp hb).1
        have := hR.rows k _ b (List.getElem?_eq_getElem (by rw [← hR.len]; exact hk)) hb
        rw [e, hl] at this
        cases this
      generalize upd H' l (.lst (tb[i].map V.int)) = H2 at u el
      have hP2 := u _ _ hR.lst
      have hal : as.length = i := by have := hR.len; rw [List.length_map, List.length_take] at this; omega
      have hml : ((tb.take i).map fun r => r.map V.int).length = i := by rw [List.length_map, List.length_take]; omega
      refine ⟨_, hP2, lt_line (by rw [List.length_map]; omega), sput (s.trans u) hp, as ++ [l], ⟨by rw [upd_same, List.map_append]; rfl, by rw [List.length_append, List.length_map, List.length_take, hal]; show i + 1 = _; omega, fun k r c e1 e2 => ?_, fun k c e2 => ?_, fun j k c e1 e2 => ?_, hD.new hp⟩, fun k c e2 => ?_⟩
      · rw [take_snoc hri, List.map_append] at e1
        rcases snoc_at hal e2 with ⟨h1, e2⟩ | ⟨rfl, rfl⟩
        · rcases snoc_at hml e1 with ⟨h2, e1⟩ | ⟨rfl, rfl⟩
          · rw [upd_ne (hR.ned k c e2).2]
            exact u _ _ (hR.rows k r c e1 e2)
          · omega
        · rcases snoc_at hml e1 with ⟨h2, e1⟩ | ⟨_, rfl⟩
          · omega
          · rw [upd_ne lp]; exact el
      · rcases snoc_at hal e2 with ⟨h1, e2⟩ | ⟨rfl, rfl⟩
        · exact hR.ned k c e2
        · exact ⟨ld, lp⟩
      · rcases snoc_at hal e1 with ⟨h1, f1⟩ | ⟨g1, g2⟩
        · rcases snoc_at hal e2 with ⟨h2, f2⟩ | ⟨g3, g4⟩
          · exact hR.inj j k c f1 f2
          · rw [g4] at f1
            exact absurd rfl (old j _ f1)
        · rcases snoc_at hal e2 with ⟨h2, f2⟩ | ⟨g3, _⟩
          · rw [g2] at f2
            exact absurd rfl (old k _ f2)
          · rw [g1, g3]
      · rcases snoc_at hal e2 with ⟨h1, e2⟩ | ⟨rfl, rfl⟩
        · exact hF k c e2
        · exact hl0
    rintro R H1 hR0 ⟨s1, as, hR, hF⟩
    rw [List.length_map, show ats.length = tb.length from hAl, List.take_length] at hR
    have hD1 := hD.same s1
    have rd := RowsD.tab hI
    walk_at "x"
    refine ⟨d, nn, rfl, hD1, ?_⟩
    rintro _ H2 ⟨z, rfl, z0, z1⟩ hD2 k2
    walk_at "x"
    refine ⟨d, nn, rfl, hD2, ?_⟩
    rintro _ H3 ⟨y, rfl, y0, y1⟩ hD3 k3
    have k03 := ((Same.keep s1).trans k2).trans k3
    have hR3 := (hR.keep k2).keep k3
    have hA3 := keep_tups k03 hD _ _ hA
    have hTb3 := hTb.tups (keep_tups k03 hD)
    obtain ⟨at0, eat, hat⟩ := cast_lt (x := y % (m : Int)) (c := m) (Int.emod_nonneg y (by omega)) (Int.emod_lt_of_pos y (by omega))
    walk_at "x"
    rw [eat]
    refine x_ite (fun h0 => ?_) (fun h0 => ?_)
    · obtain ⟨as3, g1, g2, g3⟩ := tb_dats (d := d) hTb3
      obtain ⟨c, hc⟩ : ∃ c, as3[0]? = some c := ⟨_, List.getElem?_eq_getElem (by omega)⟩
      obtain ⟨e0, he0, hce⟩ := g3.get (i := 0) (x := .ref c) (by rw [List.getElem?_map, hc]; rfl)
      walk_at "x"
      refine x_ixT (v := .ref c) (st_of g1) (atI_nat (j := 0) (by rw [List.getElem?_map, hc]; rfl)) ?_
      walk_at "x"
      refine ⟨by show 1 ≤ sizeLine; decide, fun r2 hr2 => ?_⟩
      have s5 := same_upd (o := .tup [V.ref c]) hr2
      refine x_catA (s5 _ _ g1) upd_same (by rw [List.length_map]; show as3.length + 1 ≤ 1000000; omega) fun r3 H6 s6 e6 => ?_
      have s6 := s5.trans s6
      exact q _ _ ⟨.tuple (tb.map rowV ++ [e0]), .tup e6 ((DAts.same s6 _ g3).app (.cons (DAt.same s6 _ hce) .nil)), .tup (sh_app (tab_sh) (sh_cons (tab_sh e0 (List.mem_of_getElem? he0)) sh_nil)), badT_len (by rw [List.length_append, List.length_map]; show tb.length + 1 ≠ m; omega)⟩ (hD3.same s6) (k03.trans (Same.keep s6))
    walk_at "x"
    refine x_ite (fun h1 => ?_) (fun h1 => ?_)
    · obtain ⟨as3, g1, g2, g3⟩ := tb_dats (d := d) hTb3
      walk_at "x"
      refine x_sl2 ?_
      walk_at "x"
      refine x_part0 (x_part1 ?_)
      walk_at "x"
      refine ⟨_, rfl, x_slA g1 fun r H6 s6 e6 => ?_⟩
      rw [show (m : Int) - 1 = ((m - 1 : Nat) : Int) by omega, cutV_to (by rw [List.length_map]; omega)] at e6
      exact q _ _ ⟨.tuple ((tb.map rowV).take (m - 1)), .tup e6 ((DAts.same s6 _ g3).take), .tup (sh_take tab_sh), badT_len (by rw [List.length_take, List.length_map]; omega)⟩ (hD3.same s6) (k03.trans (Same.keep s6))
    walk_at "x"
    have hal : as.length = m := by have := hR.len; rw [List.length_map] at this; omega
    obtain ⟨b0, r0, hb0, hr0, hB0, hB1⟩ := hR3.get (i := at0) (by rw [List.length_map]; omega)
    have hrt : ∃ row, tb[at0]? = some row ∧ r0 = row.map V.int ∧ row.length = m := by
      have hi : at0 < tb.length := by omega
      rw [List.getElem?_map, List.getElem?_eq_getElem hi] at hr0
      exact ⟨_, List.getElem?_eq_getElem hi, (Option.some.inj hr0).symm, by rw [(hI.rows at0 _ (List.getElem?_eq_getElem hi)).1, htl]⟩
    obtain ⟨row, hrow, rfl, hrowl⟩ := hrt
    have hess : (tb.map fun r => r.map PyData.int)[at0]? = some (row.map PyData.int) := by rw [List.getElem?_map, hrow]; rfl
    have hsI : ∀ e, e ∈ row.map PyData.int → ShN 1 e := fun e he => by obtain ⟨z, _, rfl⟩ := List.mem_map.mp he; exact .int
    refine x_cut (fun σ' H' => ∃ (R2 : Addr) (as2 : List Addr) (rs : List (List V)) (ess : List (List PyData)) (es : List PyData) (v6 v7 : Option V), σ' = [some (.ref d), some (.ref a), some (.int (m : Int)), some (.ref R2), some (.int (z % 7)), some (.int (at0 : Int)), v6, v7] ∧ RwL d R2 as2 rs H' ∧ RowsD rs ess ∧ rs.length = m ∧ es ∈ ess ∧ rowTD m (m : Int) (.tuple es) = false ∧ Dr H' d nn ∧ Keep d H H') ?_ ?_
    · skip
      walk_at "x"
      refine x_ite (fun h2 => ?_) (fun h2 => ?_)
      · walk_at "x"
        refine x_ixL (sq_of hR3.lst) (atI_nat hB1) ?_
        walk_at "x"
        refine ⟨by show 1 ≤ sizeLine; decide, fun p hp => ?_⟩
        have s4 := same_upd (o := .lst [V.int 0]) hp
        have e4 : (upd H3 p (.lst [V.int 0])) p = some (.lst [V.int 0]) := upd_same
        have hD4 := hD3.same s4
        have hR4 := hR3.keep (Same.keep s4)
        generalize upd H3 p (.lst [V.int 0]) = H4 at s4 e4 hD4 hR4
        refine x_cat (s4 _ _ hB0) e4 (by rw [List.length_map]; show row.length + 1 ≤ 1000000; omega) fun p2 hp2 => ?_
        have hsw := hR4.swap (i := at0) (r := row.map V.int ++ [V.int 0]) hp2 (hD4.new hp2)
        have u5 := same_upd (o := .lst (row.map V.int ++ [V.int 0])) hp2
        have hR5 := hR4.keep (Same.keep u5)
        have hD5 := hD4.same u5
        generalize upd H4 p2 (.lst (row.map V.int ++ [V.int 0])) = H5 at hsw u5 hR5 hD5
        walk_at "x"
        refine x_subL (k := at0) hR5.lst (ixN_nat (by rw [List.length_map]; omega)) ?_
        rw [← show ((as.set at0 p2).map V.ref) = (as.map V.ref).set at0 (.ref p2) from List.map_set ..]
        have hRn : R ≠ nn := (hD.newN hR0).symm.symm
        refine ⟨R, as.set at0 p2, _, _, row.map PyData.int ++ [PyData.int 0], _, _, rfl, hsw, rd.set (i := at0) (es := row.map PyData.int ++ [PyData.int 0]) (fun _ _ => ints_dat.snoc (.int 0)) (fun e he => (List.mem_append.mp he).elim (hsI e) fun h => by rw [List.mem_singleton.mp h]; exact .int), by rw [List.length_set, List.length_map]; exact htl, ?_, ?_, hD5.upd hR5.nrd hRn, kput (k03.trans (Same.keep (s4.trans u5))) hR0⟩
        · have hh : at0 < (tb.map fun r => r.map PyData.int).length := by rw [List.length_map]; omega
          exact List.mem_of_getElem? (i := at0) (List.getElem?_set_self hh)
        · show (decide ((row.map PyData.int ++ [PyData.int 0]).length = m) && _) = false
          rw [decide_eq_false (by rw [List.length_append, List.length_map]; show ¬ (row.length + 1 = m); omega), Bool.false_and]
      walk_at "x"
      refine x_ite (fun h3 => ?_) (fun h3 => ?_)
      · walk_at "x"
        refine ⟨d, nn, m, rfl, m1, m9, hD3, ?_⟩
        rintro v H4 ⟨eb, hfl, hsh, hbad⟩ hD4 k4
        have hR4 := hR3.keep k4
        walk_at "x"
        refine x_ixL (sq_of hR4.lst) (atI_nat hB1) ?_
        walk_at "x"
        refine ⟨d, nn, rfl, hD4, ?_⟩
        rintro _ H5 ⟨w, rfl, w0, w1⟩ hD5 k5
        have hR5 := hR4.keep k5
        obtain ⟨j, ej, hj⟩ := cast_lt (x := w % (m : Int)) (c := m) (Int.emod_nonneg w (by omega)) (Int.emod_lt_of_pos w (by omega))
        walk_at "x"
        rw [ej]
        have hB5 := hR5.rows at0 _ b0 (by rw [List.getElem?_map, hrow]; rfl) hb0
        refine x_subL (k := j) hB5 (ixN_nat (by rw [List.length_map]; omega)) ?_
        have hbd := hR5.ned at0 b0 hb0
        have hbn : b0 ≠ nn := by
          intro e
          have hn0 := hF at0 b0 hb0
          rw [e] at hn0
          exact hD.newN hn0 rfl
        have hjr : j < (row.map PyData.int).length := by rw [List.length_map]; omega
        refine ⟨R, as, _, _, (row.map PyData.int).set j eb, _, _, rfl, hR5.put hb0, rd.set (i := at0) (es := (row.map PyData.int).set j eb) (fun d H => (ints_dat (d := d) (H := H) (zs := row)).set (hfl d H)) (fun e he => by
          rcases List.mem_or_eq_of_mem_set he with h | h
          · exact hsI e h
          · rw [h]; exact hsh), by rw [List.length_set, List.length_map]; exact htl, ?_, ?_, hD5.upd hbd.1 hbn, kput (k03.trans (k4.trans k5)) (hF at0 b0 hb0)⟩
        · have hh : at0 < (tb.map fun r => r.map PyData.int).length := by rw [List.length_map]; omega
          exact List.mem_of_getElem? (i := at0) (List.getElem?_set_self hh)
        · show (_ && ((row.map PyData.int).set j eb).all (isBD (m : Int))) = false
          rw [List.all_eq_false.mpr ⟨eb, List.mem_of_getElem? (i := j) (List.getElem?_set_self hjr), by rw [hbad]; decide⟩, Bool.and_false]
      walk_at "x"
      have hro : ∀ (i : Nat) r b, (tb.map fun r => r.map V.int)[i]? = some r → as[i]? = some b → H3 b = some (.lst r) := hR3.rows
      refine x_ite (fun h4 => ?_) (fun h4 => ?_)
      · walk_at "x"
        refine x_tupL (sq_of hR3.lst) fun l hl => ?_
        have u4 := same_upd (o := .tup (as.map V.ref)) hl
        refine q _ _ ⟨.tuple ((tb.map fun r => r.map PyData.int).map PyData.list), .tup upd_same (rd.lstD (hR3.keep (Same.keep u4))), .tup (sh_rowsL rd.sh), badT_mem (f := .list (row.map PyData.int)) (List.mem_map.mpr ⟨_, List.mem_of_getElem? hess, rfl⟩) rfl⟩ (hD3.same u4) (k03.trans (Same.keep u4))
      walk_at "x"
      refine x_ite (fun h5 => ?_) (fun h5 => ?_)
      · walk_at "x"
        refine x_lcPreL7 ?_
        refine x_sl2 ?_
        walk_at "x"
        refine x_part0 (x_part1 ?_)
        walk_at "x"
        refine ⟨_, rfl, x_cutL (sq_of hR3.lst) fun c hc => ?_⟩
        rw [show (m : Int) - 1 = ((m - 1 : Nat) : Int) by omega, cutV_to (by rw [List.length_map]; omega)]
        have s4 := same_upd (o := .lst ((as.map V.ref).take (m - 1))) hc
        have e4 : (upd H3 c (.lst ((as.map V.ref).take (m - 1)))) c = some (.lst ((as.map V.ref).take (m - 1))) := upd_same
        generalize upd H3 c (.lst ((as.map V.ref).take (m - 1))) = H4 at s4 e4
        refine x_lcL (a := c) ((as.map V.ref).take (m - 1)) (fun p i H' => Same H4 H' ∧ ∃ (bs : List Addr) (zss : List (List Int)), H' p = some (.lst (bs.map V.ref)) ∧ bs.length = i ∧ zss.length = i ∧ ∀ (k : Nat) zs b, zss[k]? = some zs → bs[k]? = some b → H' b = some (.tup (zs.map V.int))) (fun R r => r) (sq_of e4) (fun p hp => ⟨same_upd hp, [], [], upd_same, rfl, rfl, fun k r b _ h => by simp at h⟩) (fun p i H' hp _ z => sq_of (z.1 _ _ e4)) (fun x => rfl) ?_ ?_
        · rintro p i x H' hp hx ⟨s, bs, zss, hP, hbl, hzl, hbs⟩
          rw [← List.map_take] at hx
          obtain ⟨b, hb, rfl⟩ := map_getR hx
          have hb2 : as[i]? = some b := by rw [List.getElem?_take] at hb; split at hb; exact hb; cases hb
          have hi : i < m := by have := (List.getElem?_eq_some_iff.mp hb2).1; omega
          have hri := List.getElem?_eq_getElem (show i < tb.length by omega)
          have hB := s _ _ (s4 _ _ (hro i _ b (by rw [List.getElem?_map, hri]; rfl) hb2))
          walk_at "x"
          refine x_lcPreL7 ?_
          refine x_sl2 ?_
          walk_at "x"
          refine x_part0 (x_part1 ?_)
          walk_at "x"
          have hlr : tb[i].length = m := by rw [(hI.rows i _ hri).1, htl]
          refine ⟨_, rfl, x_cutL (sq_of hB) fun c2 hc2 => ?_⟩
          rw [show (m : Int) - 1 = ((m - 1 : Nat) : Int) by omega, cutV_to (by rw [List.length_map]; omega), ← List.map_take]
          have s5 := same_upd (o := .lst ((tb[i].take (m - 1)).map V.int)) hc2
          have e5 : (upd H' c2 (.lst ((tb[i].take (m - 1)).map V.int))) c2 = some (.lst ((tb[i].take (m - 1)).map V.int)) := upd_same
          generalize upd H' c2 (.lst ((tb[i].take (m - 1)).map V.int)) = H5 at s5 e5
          refine x_lcL (a := c2) ((tb[i].take (m - 1)).map V.int) (fun p2 i2 H'' => Same H5 H'' ∧ ∃ zs : List Int, H'' p2 = some (.lst (zs.map V.int)) ∧ zs.length = i2) (fun R r => r) (sq_of e5) (fun p2 hp2 => ⟨same_upd hp2, [], upd_same, rfl⟩) (fun p2 i2 H'' hp2 _ z => sq_of (z.1 _ _ e5)) (fun x => rfl) ?_ ?_
          · rintro p2 i2 x2 H'' hp2 hx2 ⟨s6, zs, hP2, hz2⟩
            obtain ⟨z2, hz2', rfl⟩ := map_get hx2
            have hi2 : i2 < 40 := by have := (List.getElem?_eq_some_iff.mp hz2').1; rw [List.length_take] at this; omega
            walk_at "x"
            exact ⟨_, hP2, lt_line (by rw [List.length_map]; omega), sput s6 hp2, zs ++ [_], by rw [upd_same, List.map_append]; rfl, by rw [List.length_append, hz2]; rfl⟩
          · rintro p2 H'' hp2 ⟨s6, zs, hP2, hz2⟩
            walk_at "x"
            refine x_tupL (sq_of hP2) fun l hl => ?_
            have u := (s5.trans s6).trans (same_upd (o := .tup (zs.map V.int)) hl)
            have el : (upd H'' l (.tup (zs.map V.int))) l = some (.tup (zs.map V.int)) := upd_same
            generalize upd H'' l (.tup (zs.map V.int)) = H6 at u el
            have hP6 := u _ _ hP
            refine ⟨_, hP6, lt_line (by rw [List.length_map]; omega), sput (s.trans u) hp, bs ++ [l], zss ++ [zs], by rw [upd_same, List.map_append]; rfl, by rw [List.length_append, hbl]; rfl, by rw [List.length_append, hzl]; rfl, fun k r2 b2 e1 e2 => ?_⟩
            have tp : Tups H6 (upd H6 p (.lst (bs.map V.ref ++ [V.ref l]))) := (Tups.refl _).put (no_tupL hP6)
            rcases snoc_at hbl e2 with ⟨h1, f2⟩ | ⟨g1, g2⟩
            · rcases snoc_at hzl e1 with ⟨h1, f1⟩ | ⟨g3, g4⟩
              · exact tp _ _ (u _ _ (hbs k r2 b2 f1 f2))
              · omega
            · rcases snoc_at hzl e1 with ⟨h1, f1⟩ | ⟨g3, g4⟩
              · omega
              · rw [g2, g4]; exact tp _ _ el
        · rintro p H' hp ⟨s, bs, zss, hP, hbl, hzl, hbs⟩
          rw [List.length_take, List.length_map] at hbl hzl
          walk_at "x"
          refine x_tupL (sq_of hP) fun l hl => ?_
          have u := same_upd (o := .tup (bs.map V.ref)) hl
          refine q _ _ ⟨.tuple (zss.map rowV), .tup upd_same (DAts.same u _ (DAts.of (by rw [List.length_map, List.length_map]; omega) fun i x e h1 h2 => ?_)), .tup tab_sh, badT_len (by rw [List.length_map]; omega)⟩ (hD3.same ((s4.trans s).trans u)) (k03.trans (Same.keep ((s4.trans s).trans u)))
          obtain ⟨b, hb, rfl⟩ := map_getR h1
          rw [List.getElem?_map] at h2
          cases hz : zss[i]? with
          | none => rw [hz] at h2; cases h2
          | some zs =>
            rw [hz] at h2
            cases h2
            exact .tup (hbs i zs b hz hb) ints_dat
      · walk_at "x"
        refine x_lcTups as _ (fun R r => by walk_at "x"; exact r) hR3.lst (by rw [List.length_map]; omega) (by omega) hro (fun x => rfl) ?_ ?_
        · intro b r H' hb R hR
          walk_at "x"
          exact x_tupL (sq_of hb) hR
        · intro p bs H4 hp s4 hP hbl hbs
          walk_at "x"
          exact q _ _ ⟨.list ((tb.map fun r => r.map PyData.int).map PyData.tuple), .lst (hD3.new hp) hP (rd.tupD hbl hbs), .lst (sh_rows rd.sh), rfl⟩ (hD3.same s4) (k03.trans (Same.keep s4))
    · rintro σ' H' ⟨R2, as2, rs, ess, es, v6, v7, rfl, hR2, hrs, hrl, hes, hbad, hD4, k4⟩
      have hl2 := hR2.len
      walk_at "x"
      refine x_lcTups as2 rs (fun R r => by walk_at "x"; exact r) hR2.lst hR2.len (by omega) hR2.rows (fun x => rfl) ?_ ?_
      · intro b r H' hb R hR
        walk_at "x"
        exact x_tupL (sq_of hb) hR
      · intro p bs H5 hp s5 hP hbl hbs
        walk_at "x"
        refine x_tupL (sq_of hP) fun l hl => ?_
        have u6 := same_upd (o := .tup (bs.map V.ref)) hl
        exact q _ _ ⟨.tuple (ess.map PyData.tuple), .tup upd_same (DAts.same u6 _ (hrs.tupD hbl hbs)), .tup (sh_rows hrs.sh), badT_mem (f := .tuple es) (List.mem_map.mpr ⟨_, hes, rfl⟩) hbad⟩ (hD4.same (s5.trans u6)) (k4.trans (Same.keep (s5.trans u6)))


theorem rowV_inj {a b : List Int} (h : rowV a = rowV b) : a = b := by
  have h : a.map PyData.int = b.map PyData.int := PyData.tuple.inj h
  exact List.map_inj_right (fun x y e => PyData.int.inj e) |>.mp h
theorem tbV_inj {a b : List (List Int)} (h : tbV a = tbV b) : a = b := by
  have h : a.map rowV = b.map rowV := PyData.tuple.inj h
  exact List.map_inj_right (fun x y e => rowV_inj e) |>.mp h
theorem tnD_inj : ∀ {s t : Tn}, tnD s = tnD t → s = t
  | .leaf v, .leaf w, h => by
    have h := PyData.tuple.inj h
    have h2 : PyData.int v = PyData.int w := (List.cons.inj (List.cons.inj h).2).1
    rw [PyData.int.inj h2]
  | .leaf v, .node tb l r, h => by
    have h := PyData.tuple.inj h
    exact absurd (congrArg List.length h) (by show ¬ (2 = 4); decide)
  | .node tb l r, .leaf v, h => by
    have h := PyData.tuple.inj h
    exact absurd (congrArg List.length h) (by show ¬ (4 = 2); decide)
  | .node tb l r, .node tb2 l2 r2, h => by
    have h := PyData.tuple.inj h
    obtain ⟨h1, h⟩ := List.cons.inj (List.cons.inj h).2
    obtain ⟨h2, h⟩ := List.cons.inj h
    obtain ⟨h3, _⟩ := List.cons.inj h
    rw [tbV_inj h1, tnD_inj h2, tnD_inj h3]
theorem no_part {m : Nat} {e : PyData} (h : partD (m : Int) e = false) : ∀ t, e = tnD t → ¬ TnOk m t := by
  rintro t rfl ok
  cases t with
  | leaf v =>
    have ok : 0 ≤ v ∧ v < (m : Int) := ok
    have h2 : partD (m : Int) (tnD (.leaf v)) = true := partD_iff.mpr (.inl ⟨v, rfl, ok.1, ok.2⟩)
    rw [h2] at h
    cases h
  | node tb l r =>
    have h2 : partD (m : Int) (tnD (.node tb l r)) = true := partD_iff.mpr (.inr ⟨tb, tnD l, tnD r, rfl, ok.1, ok.2.1⟩)
    rw [h2] at h
    cases h

end
end Br
namespace Br
open PySem PySem.Spec PyProof.Rows L2
local macro_rules | `(tactic| walk_at "x1") => `(tactic| (with_reducible first
  | refine Br.x_seq ?_ | refine Br.x_set ?_ | refine Br.x_asg ?_ | refine Br.x_next ?_ | refine Br.x_ret ?_ | refine Br.x_retN ?_ | refine Br.x_drop ?_ | refine Br.x_if ?_ | refine Br.x_brk ?_ | refine Br.x_cont ?_
  | refine Br.x_c ?_ | refine Br.x_op ?_ | refine Br.x_un ?_ | refine Br.x_I0 ?_ | refine Br.x_U ?_ | refine Br.x_EqI ?_ | refine Br.x_NeI ?_ | refine Br.x_EqB ?_ | refine Br.x_iN ?_ | refine Br.x_int1 ?_ | refine Br.x_min2 ?_ | refine Br.x_max2 ?_ | refine Br.x_nN ?_ | refine Br.x_ifE ?_
  | refine Br.x_test (b := ()) ?_ | refine Br.x_tB ?_ | refine Br.x_bl ?_ | refine Br.x_and ?_ | refine Br.x_or ?_ | refine Br.x_not ?_ | refine Br.x_andV ?_ | refine Br.x_orV ?_ | refine Br.x_notV ?_ | refine Br.x_blP ?_
  | refine Br.x_nil ?_ | refine Br.x_cons ?_ | refine Br.x_call ?_ | refine Br.x_CB ?_ | refine Br.x_BM ?_ | refine Br.x_tup ?_ | refine Br.x_lst ?_ | refine Br.x_chain ?_ | refine Br.x_par ?_ | refine Br.x_gSub ?_ | refine Br.x_gName ?_ | refine Br.x_fld ?_ | refine Br.x_fldS ?_ | refine Br.x_match ?_ | refine Br.x_else ?_ | refine Br.x_noCase ?_))
local macro_rules | `(tactic| walk_at "xv") => `(tactic| ((with_reducible refine' Br.x_var ?hvar ?_); (case hvar => rfl)))
local macro_rules | `(tactic| walk_at "xd") => `(tactic| (dsimp only [List.set_cons_zero, List.set_cons_succ, List.cons_append, List.nil_append, List.append_nil]))
local macro_rules | `(tactic| walk_at "xi") => `(tactic| ((with_reducible refine Br.x_I ?hside ?_); (case hside => first | exact Br.mul_r (by decide) (by decide) | exact Br.mul_l (by decide) (by decide) | exact Br.mul_l (by omega) (by omega) | exact Br.mul_r (by omega) (by omega) | (show (0 : Int) < _; first | decide | omega) | exact ⟨by decide, by decide⟩ | exact ⟨by omega, by omega⟩ | exact ⟨by decide, by decide, by decide⟩)))
local macro_rules | `(tactic| walk_at "x") => `(tactic| (repeat (first | walk_at "x1" | walk_at "xv" | walk_at "xi" | walk_at "xd")))
local macro_rules | `(tactic| walk_at "start") => `(tactic| (simp only [L2.start, List.map_cons, List.map_nil, List.length_cons, List.length_nil, Nat.reduceAdd, Nat.reduceSub, List.replicate, List.cons_append, List.nil_append, List.append_nil]))
local macro_rules | `(tactic| walk_at "isi") => `(tactic| first
  | refine Br.x_isi (b := true) (.base (.int _)) (by decide +kernel) ?_ | refine Br.x_isi (b := false) (.base (.int _)) (by decide +kernel) ?_
  | refine Br.x_isi (b := true) (.base (.bl _)) (by decide +kernel) ?_ | refine Br.x_isi (b := false) (.base (.bl _)) (by decide +kernel) ?_
  | refine Br.x_isi (b := false) (.base .non) (by decide +kernel) ?_
  | refine Br.x_isi (b := true) (.base (.str _)) (by decide +kernel) ?_ | refine Br.x_isi (b := false) (.base (.str _)) (by decide +kernel) ?_
  | refine Br.x_isi (b := true) (.base (.tup (by assumption))) (by decide +kernel) ?_ | refine Br.x_isi (b := false) (.base (.tup (by assumption))) (by decide +kernel) ?_
  | refine Br.x_isi (b := true) (.base (.lst (by assumption))) (by decide +kernel) ?_ | refine Br.x_isi (b := false) (.base (.lst (by assumption))) (by decide +kernel) ?_)
local macro_rules | `(tactic| walk_at "f") => `(tactic| (refine L2.iteF ?_; walk_at "x"))
local macro_rules | `(tactic| walk_at "t") => `(tactic| (refine L2.iteT ?_; walk_at "x"))
local macro_rules | `(tactic| walk_at "is") => `(tactic| (walk_at "isi"; walk_at "x"))
local macro_rules | `(tactic| walk_at "xb") => `(tactic| (simp only [Br.bindS, List.set_cons_zero, List.set_cons_succ]; walk_at "x"))

section
variable {P : Program} {w : World} {K : PySem.W.Frag} {mg : Str → Option Value} {base : Heap}

open Br
theorem leaf_len {v : Int} {es : List PyData} (h : PyData.tuple es = tnD (.leaf v)) : es.length = 2 := by rw [PyData.tuple.inj h]; rfl
theorem sh_one {e : PyData} {n : Nat} (h : ShN n e) : ∀ x, x ∈ [e] → ShN n x := sh_cons h sh_nil
/-- what stands in the place of a tree is none -/
abbrev NoTn (m : Nat) (e : PyData) : Prop := ∀ t, e = tnD t → ¬ TnOk m t
theorem TnOk.tb {m : Nat} {tb : List (List Int)} {l r : Tn} (h : TnOk m (.node tb l r)) : IsTab m tb ∧ tb.length = m := ⟨h.1, h.2.1⟩
theorem noL {m : Nat} {tb : PyData} {e r : PyData} (h : NoTn m e) : NoTn m (.tuple [.str "node", tb, e, r]) := by
  rintro t ht ok
  cases t with
  | leaf v => exact absurd (leaf_len ht) (by show ¬ (4 = 2); decide)
  | node tb2 l2 r2 =>
    have h1 := PyData.tuple.inj ht
    obtain ⟨h1, _⟩ := List.cons.inj (List.cons.inj (List.cons.inj h1).2).2
    exact h l2 h1 ok.2.2.1
theorem noR {m : Nat} {tb : PyData} {e l : PyData} (h : NoTn m e) : NoTn m (.tuple [.str "node", tb, l, e]) := by
  rintro t ht ok
  cases t with
  | leaf v => exact absurd (leaf_len ht) (by show ¬ (4 = 2); decide)
  | node tb2 l2 r2 =>
    have h1 := PyData.tuple.inj ht
    obtain ⟨h1, _⟩ := List.cons.inj (List.cons.inj (List.cons.inj (List.cons.inj h1).2).2).2
    exact h r2 h1 ok.2.2.2
theorem noTb {m : Nat} {tb l r : PyData} (h : goodT m tb = false) : NoTn m (.tuple [.str "node", tb, l, r]) := no_part (by
  rw [partD_node, if_pos rfl]
  exact h)

def sp_law_spoilt (n : Nat) (K : PySem.W.Frag) : Sp := fun vs H Q _ => ∃ (d nn a : Addr) (m : Nat) (t : Tn), vs = [.ref d, .ref a, .int (m : Int)] ∧ 1 ≤ m ∧ m ≤ 40 ∧ TnAt H t a ∧ TnOk m t ∧ t.dep ≤ n ∧ Dr H d nn ∧ RetG d nn (fun v H' => ∃ e, DAt d H' v e ∧ ShN (n + 3) e ∧ NoTn m e) H Q
theorem ok_law_spoilt (T : Txt K mg) : ∀ n : Nat, FnOk P w K mg base CX0 (n + 5) T.a_law_spoilt T.fd_law_spoilt ["draws", "tree", "values"] (sp_law_spoilt n K)
  | 0 => by
    refine T.F_law_spoilt.ok sc_law_spoilt (fun vs H Q E h => ?_) (fun cdv A outer s H vs Q E hr h => ?_)
    · obtain ⟨d, nn, a, m, t, rfl, _⟩ := h
      rfl
    · obtain ⟨d, nn, a, m, t, rfl, _, _, _, _, h, _⟩ := h
      have := t.dep_pos
      omega
  | n + 1 => by
    have G_law_spoilt := ok_law_spoilt T n
    refine T.F_law_spoilt.ok (k := n + 5) sc_law_spoilt (fun vs H Q E h => ?_) (fun cdv A outer s H vs Q E hr h => ?_)
    · obtain ⟨d, nn, a, m, t, rfl, _⟩ := h
      rfl
    · obtain ⟨d, nn, a, m, t, rfl, m1, m9, ht, ok, hdp, hD, q⟩ := h
      refine ⟨_, (pss_cons (ps_if (pt_cmpR op_eq (pe_ix (r := rIxT K) ix_tup (pv 1) pe_int (fun _ _ => rfl)) pe_str (nomark _))
      (pss_one (ps_ret (pe_ix (r := rIxL K) ix_list (pe_lst (pa_cons (pe_tup (pa_cons pe_str (pa_cons (pe_call (ok_law_bad_number T) (hr.mono (by omega)) (by rfl) T.g_law_bad_number T.F_law_bad_number.kp T.b_law_bad_number .nil pass0 (pa_cons (pv 0) (pa_cons (pv 2) pa_nil))) pa_nil))) (pa_cons (pe_tup (pa_cons pe_str pa_nil)) (pa_cons (pe_tup (pa_cons pe_str (pa_cons pe_int (pa_cons pe_int pa_nil)))) (pa_cons (pe_lst (pa_cons pe_str (pa_cons pe_int pa_nil))) (pa_cons (pe_tup (pa_cons pe_str (pa_cons pe_int pa_nil))) (pa_cons pe_non (pa_cons (pe_tup pa_nil) (pa_cons pe_int pa_nil))))))))) (pe_op op_mod (pe_call (ok_law_draw T) (hr.mono (by omega)) (by rfl) T.g_law_draw T.F_law_draw.kp T.b_law_draw .nil pass0 (pa_cons (pv 0) pa_nil)) pe_int) (fun _ _ => rfl))))
      pss_nil)
      (pss_cons (ps_set (i := 3) sc_law_spoilt.nd rfl (.inl rfl) (pe_op op_mod (pe_call (ok_law_draw T) (hr.mono (by omega)) (by rfl) T.g_law_draw T.F_law_draw.kp T.b_law_draw .nil pass0 (pa_cons (pv 0) pa_nil)) pe_int))
      (pss_cons (ps_if (pt_cmpR op_lt (pv 3) pe_int (nomark _))
      (pss_cons (ps_set (i := 4) sc_law_spoilt.nd rfl (.inl rfl) (pe_op op_add pe_int (pe_op op_mod (pe_call (ok_law_draw T) (hr.mono (by omega)) (by rfl) T.g_law_draw T.F_law_draw.kp T.b_law_draw .nil pass0 (pa_cons (pv 0) pa_nil)) pe_int)))
      (pss_cons (ps_set (i := 5) sc_law_spoilt.nd rfl (.inl rfl) (pe_call G_law_spoilt (hr.mono (by omega)) (by rfl) T.g_law_spoilt T.F_law_spoilt.kp T.b_law_spoilt .nil pass0 (pa_cons (pv 0) (pa_cons (pe_ix (r := rIxT K) ix_tup (pv 1) (pv 4) (fun _ _ => rfl)) (pa_cons (pv 2) pa_nil)))))
      (pss_cons (ps_if (pt_cmpR op_eq (pv 4) pe_int (nomark _))
      (pss_one (ps_ret (pe_tup (pa_cons (pe_ix (r := rIxT K) ix_tup (pv 1) pe_int (fun _ _ => rfl)) (pa_cons (pe_ix (r := rIxT K) ix_tup (pv 1) pe_int (fun _ _ => rfl)) (pa_cons (pv 5) (pa_cons (pe_ix (r := rIxT K) ix_tup (pv 1) pe_int (fun _ _ => rfl)) pa_nil)))))))
      pss_nil)
      (pss_one (ps_ret (pe_tup (pa_cons (pe_ix (r := rIxT K) ix_tup (pv 1) pe_int (fun _ _ => rfl)) (pa_cons (pe_ix (r := rIxT K) ix_tup (pv 1) pe_int (fun _ _ => rfl)) (pa_cons (pe_ix (r := rIxT K) ix_tup (pv 1) pe_int (fun _ _ => rfl)) (pa_cons (pv 5) pa_nil))))))))))
      pss_nil)
      (pss_cons (ps_if (pt_cmpR op_eq (pv 3) pe_int (nomark _))
      (pss_one (ps_ret (pe_slice (r := rSlA K) sl_tupA (pv 1) po_none (po_some pe_int))))
      pss_nil)
      (pss_cons (ps_if (pt_cmpR op_eq (pv 3) pe_int (nomark _))
      (pss_one (ps_ret (pe_op (r := rCatA K) op_catA (pv 1) (pe_tup (pa_cons (pe_ix (r := rIxT K) ix_tup (pv 1) pe_int (fun _ _ => rfl)) pa_nil)))))
      pss_nil)
      (pss_cons (ps_if (pt_cmpR op_eq (pv 3) pe_int (nomark _))
      (pss_one (ps_ret (pe_op (r := rCatA K) op_catA (pe_tup (pa_cons pe_str pa_nil)) (pe_slice (r := rSlA K) sl_tupA (pv 1) (po_some pe_int) po_none))))
      pss_nil)
      (pss_cons (ps_if (pt_cmpR op_eq (pv 3) pe_int (nomark _))
      (pss_one (ps_ret (pe_callTy (T := "list") (r := rListOf K) cr_list_of (by rfl) T.m_list (by decide +kernel) (pa_cons (pv 1) pa_nil))))
      pss_nil)
      (pss_one (ps_ret (pe_op (r := rCatA K) op_catA (pe_tup (pa_cons (pe_ix (r := rIxT K) ix_tup (pv 1) pe_int (fun _ _ => rfl)) (pa_cons (pe_call (ok_law_bad_table T) (hr.mono (by omega)) (by rfl) T.g_law_bad_table T.F_law_bad_table.kp T.b_law_bad_table .nil pass0 (pa_cons (pv 0) (pa_cons (pe_ix (r := rIxT K) ix_tup (pv 1) pe_int (fun _ _ => rfl)) (pa_cons (pv 2) pa_nil)))) pa_nil))) (pe_slice (r := rSlA K) sl_tupA (pv 1) (po_some pe_int) po_none))))))))))), ?_⟩
      walk_at "start"
      cases t with
      | leaf v =>
        have h1 : H a = some (.tup [.str "leaf", .int v]) := ht
        walk_at "x"
        refine x_ixT (st_of h1) (show _ = some (V.str "leaf") from rfl) ?_
        walk_at "x"
        refine x_Eq rfl ?_
        rw [decide_eq_true rfl]
        walk_at "x"
        walk_at "t"
        refine ⟨d, nn, m, rfl, m1, m9, hD, ?_⟩
        rintro bv H1 ⟨eb, hfl, hsh, hbad⟩ hD1 k1
        walk_at "x"
        refine ⟨by show 2 ≤ sizeLine; decide, fun p1 hp1 => ?_⟩
        have u1 := same_upd (o := .tup [.str "leaf", bv]) hp1
        have e1 : (upd H1 p1 (.tup [.str "leaf", bv])) p1 = some (.tup [.str "leaf", bv]) := upd_same
        generalize upd H1 p1 (.tup [.str "leaf", bv]) = H2 at u1 e1
        walk_at "x"
        refine ⟨by show 1 ≤ sizeLine; decide, fun p2 hp2 => ?_⟩
        have u2 := same_upd (o := .tup [.str "leaf"]) hp2
        have e2 : (upd H2 p2 (.tup [.str "leaf"])) p2 = some (.tup [.str "leaf"]) := upd_same
        generalize upd H2 p2 (.tup [.str "leaf"]) = H3 at u2 e2
        walk_at "x"
        refine ⟨by show 3 ≤ sizeLine; decide, fun p3 hp3 => ?_⟩
        have u3 := same_upd (o := .tup [.str "leaf", .int 0, .int 0]) hp3
        have e3 : (upd H3 p3 (.tup [.str "leaf", .int 0, .int 0])) p3 = some (.tup [.str "leaf", .int 0, .int 0]) := upd_same
        generalize upd H3 p3 (.tup [.str "leaf", .int 0, .int 0]) = H4 at u3 e3
        walk_at "x"
        refine ⟨by show 2 ≤ sizeLine; decide, fun p4 hp4 => ?_⟩
        have u4 := same_upd (o := .lst [.str "leaf", .int 0]) hp4
        have e4 : (upd H4 p4 (.lst [.str "leaf", .int 0])) p4 = some (.lst [.str "leaf", .int 0]) := upd_same
        have hp4d := (hD1.same ((u1.trans u2).trans u3)).new hp4
        generalize upd H4 p4 (.lst [.str "leaf", .int 0]) = H5 at u4 e4
        walk_at "x"
        refine ⟨by show 2 ≤ sizeLine; decide, fun p5 hp5 => ?_⟩
        have u5 := same_upd (o := .tup [.str "leave", .int 0]) hp5
        have e5 : (upd H5 p5 (.tup [.str "leave", .int 0])) p5 = some (.tup [.str "leave", .int 0]) := upd_same
        generalize upd H5 p5 (.tup [.str "leave", .int 0]) = H6 at u5 e5
        walk_at "x"
        refine ⟨by show 0 ≤ sizeLine; decide, fun p6 hp6 => ?_⟩
        have u6 := same_upd (o := .tup []) hp6
        have e6 : (upd H6 p6 (.tup [])) p6 = some (.tup []) := upd_same
        generalize upd H6 p6 (.tup []) = H7 at u6 e6
        walk_at "x"
        refine ⟨by show 8 ≤ sizeLine; decide, fun p7 hp7 => ?_⟩
        have u7 := same_upd (o := .lst [.ref p1, .ref p2, .ref p3, .ref p4, .ref p5, .non, .ref p6, .int 5]) hp7
        have e7 : (upd H7 p7 (.lst [.ref p1, .ref p2, .ref p3, .ref p4, .ref p5, .non, .ref p6, .int 5])) p7 = some (.lst [.ref p1, .ref p2, .ref p3, .ref p4, .ref p5, .non, .ref p6, .int 5]) := upd_same
        generalize upd H7 p7 (.lst [.ref p1, .ref p2, .ref p3, .ref p4, .ref p5, .non, .ref p6, .int 5]) = H8 at u7 e7
        have u12 := u1.trans u2
        have u17 := ((((u12.trans u3).trans u4).trans u5).trans u6).trans u7
        have hD8 := hD1.same u17
        have hp7d : p7 ≠ d := (hD1.same ((((u12.trans u3).trans u4).trans u5).trans u6)).new hp7
        walk_at "x"
        refine ⟨d, nn, rfl, hD8, ?_⟩
        rintro _ H9 ⟨z, rfl, z0, z1⟩ hD9 k9
        have tp9 := keep_tups k9 hD8
        walk_at "x"
        obtain ⟨g, hv, hm⟩ := at_lt (xs := [.ref p1, .ref p2, .ref p3, .ref p4, .ref p5, .non, .ref p6, .int 5]) (i := z % 8) (Int.emod_nonneg _ (by decide)) (Int.emod_lt_of_pos z (show (0 : Int) < 8 by decide))
        refine x_ixL (sq_of (k9 _ _ e7 hp7d)) hv ?_
        refine q _ _ ?_ hD9 (k1.trans ((Same.keep u17).trans k9))
        have shl : ShN (n + 3) (.str "leaf") := .str (by decide +kernel)
        have f6 := tp9 _ _ (u7 _ _ e6)
        have f5 := tp9 _ _ ((u6.trans u7) _ _ e5)
        have f4 := k9 _ _ (((u5.trans u6).trans u7) _ _ e4) hp4d
        have f3 := tp9 _ _ ((((u4.trans u5).trans u6).trans u7) _ _ e3)
        have f2 := tp9 _ _ (((((u3.trans u4).trans u5).trans u6).trans u7) _ _ e2)
        have f1 := tp9 _ _ ((((((u2.trans u3).trans u4).trans u5).trans u6).trans u7) _ _ e1)
        simp only [List.mem_cons, List.not_mem_nil, or_false] at hm
        rcases hm with rfl | rfl | rfl | rfl | rfl | rfl | rfl | rfl
        · exact ⟨.tuple [.str "leaf", eb], .tup f1 (.cons (.str _) (.cons (hfl d H9) .nil)), .tup (sh_cons shl (sh_one (hsh.mono (by omega)))), no_part (by rw [partD_leaf, if_pos rfl]; exact hbad)⟩
        · exact ⟨.tuple [.str "leaf"], .tup f2 (.cons (.str _) .nil), .tup (sh_one shl), no_part rfl⟩
        · exact ⟨.tuple [.str "leaf", .int 0, .int 0], .tup f3 (.cons (.str _) (.cons (.int _) (.cons (.int _) .nil))), .tup (sh_cons shl (sh_cons .int (sh_one .int))), no_part rfl⟩
        · exact ⟨.list [.str "leaf", .int 0], .lst hp4d f4 (.cons (.str _) (.cons (.int _) .nil)), .lst (sh_cons shl (sh_one .int)), no_part rfl⟩
        · exact ⟨.tuple [.str "leave", .int 0], .tup f5 (.cons (.str _) (.cons (.int _) .nil)), .tup (sh_cons (.str (by decide +kernel)) (sh_one .int)), no_part (by rw [partD_leaf, if_neg (by decide)])⟩
        · exact ⟨.none, .non, .non, no_part rfl⟩
        · exact ⟨.tuple [], .tup f6 .nil, .tup sh_nil, no_part rfl⟩
        · exact ⟨.int 5, .int _, .int, no_part rfl⟩
      | node tb l r =>
        obtain ⟨ta, xa, ya, h1, h2, h3, h4⟩ := ht
        walk_at "x"
        refine x_ixT (st_of h1) (show _ = some (V.str "node") from rfl) ?_
        walk_at "x"
        refine x_Eq rfl ?_
        rw [decide_eq_false (by decide)]
        walk_at "x"
        walk_at "f"
        refine ⟨d, nn, rfl, hD, ?_⟩
        rintro _ H1 ⟨z, rfl, z0, z1⟩ hD1 k1
        have tp1 := keep_tups k1 hD
        have h1 := tp1 _ _ h1
        have h2 := h2.tups tp1
        have h3 := h3.tups tp1
        have h4 := h4.tups tp1
        obtain ⟨o1, o2, o3, o4⟩ := ok
        have hdp : max l.dep r.dep + 1 ≤ n + 1 := hdp
        have shl : ShN (n + 3) (tnD l) := (tn_sh l).mono (by omega)
        have shr : ShN (n + 3) (tnD r) := (tn_sh r).mono (by omega)
        have sht : ShN (n + 3) (tbV tb) := (tb_sh (n := n + 1))
        have shw : ShN (n + 3) (.str "node") := .str (by decide +kernel)
        have hdat : ∀ {H2 : Hp}, Same H1 H2 → DAts d H2 [.str "node", .ref ta, .ref xa, .ref ya] [.str "node", tbV tb, tnD l, tnD r] := fun s => .cons (.str _) (.cons (tb_dat (h2.tups (Tups.same s))) (.cons (tn_dat (h3.tups (Tups.same s))) (.cons (tn_dat (h4.tups (Tups.same s))) .nil)))
        have shs : ∀ x, x ∈ [PyData.str "node", tbV tb, tnD l, tnD r] → ShN (n + 3) x := sh_cons shw (sh_cons sht (sh_cons shl (sh_one shr)))
        walk_at "x"
        refine x_ite (fun hc => ?_) (fun hc => ?_)
        · walk_at "x"
          refine ⟨d, nn, rfl, hD1, ?_⟩
          rintro _ H2 ⟨y, rfl, y0, y1⟩ hD2 k2
          have tp2 := keep_tups k2 hD1
          have h1 := tp2 _ _ h1
          have h2 := h2.tups tp2
          have h3 := h3.tups tp2
          have h4 := h4.tups tp2
          walk_at "x"
          have hy : y % 2 = 0 ∨ y % 2 = 1 := by omega
          rcases hy with hy | hy
          · rw [hy]
            refine x_ixT (st_of h1) (show _ = some (V.ref xa) from rfl) ?_
            walk_at "x"
            refine ⟨d, nn, xa, m, l, rfl, m1, m9, h3, o3, by omega, hD2, ?_⟩
            rintro v H3 ⟨e, hv, hsh, hno⟩ hD3 k3
            have tp3 := keep_tups k3 hD2
            have h1 := tp3 _ _ h1
            have h2 := h2.tups tp3
            have h4 := h4.tups tp3
            walk_at "x"
            refine x_ite (fun _ => ?_) (fun hh => absurd (by decide) hh)
            walk_at "x"
            refine x_ixT (st_of h1) (show _ = some (V.str "node") from rfl) ?_
            walk_at "x"
            refine x_ixT (st_of h1) (show _ = some (V.ref ta) from rfl) ?_
            walk_at "x"
            refine x_ixT (st_of h1) (show _ = some (V.ref ya) from rfl) ?_
            walk_at "x"
            refine ⟨by show 4 ≤ sizeLine; decide, fun p hp => ?_⟩
            have u := same_upd (o := .tup [.str "node", .ref ta, v, .ref ya]) hp
            exact q _ _ ⟨.tuple [.str "node", tbV tb, e, tnD r], .tup upd_same (.cons (.str _) (.cons (tb_dat (h2.tups (Tups.same u))) (.cons (DAt.same u _ hv) (.cons (tn_dat (h4.tups (Tups.same u))) .nil)))), .tup (sh_cons shw (sh_cons sht (sh_cons hsh (sh_one shr)))), noL hno⟩ (hD3.same u) (((k1.trans k2).trans k3).trans (Same.keep u))
          · rw [hy]
            refine x_ixT (st_of h1) (show _ = some (V.ref ya) from rfl) ?_
            walk_at "x"
            refine ⟨d, nn, ya, m, r, rfl, m1, m9, h4, o4, by omega, hD2, ?_⟩
            rintro v H3 ⟨e, hv, hsh, hno⟩ hD3 k3
            have tp3 := keep_tups k3 hD2
            have h1 := tp3 _ _ h1
            have h2 := h2.tups tp3
            have h3 := h3.tups tp3
            walk_at "x"
            refine x_ite (fun hh => absurd hh (by decide)) (fun _ => ?_)
            walk_at "x"
            refine x_ixT (st_of h1) (show _ = some (V.str "node") from rfl) ?_
            walk_at "x"
            refine x_ixT (st_of h1) (show _ = some (V.ref ta) from rfl) ?_
            walk_at "x"
            refine x_ixT (st_of h1) (show _ = some (V.ref xa) from rfl) ?_
            walk_at "x"
            refine ⟨by show 4 ≤ sizeLine; decide, fun p hp => ?_⟩
            have u := same_upd (o := .tup [.str "node", .ref ta, .ref xa, v]) hp
            exact q _ _ ⟨.tuple [.str "node", tbV tb, tnD l, e], .tup upd_same (.cons (.str _) (.cons (tb_dat (h2.tups (Tups.same u))) (.cons (tn_dat (h3.tups (Tups.same u))) (.cons (DAt.same u _ hv) .nil)))), .tup (sh_cons shw (sh_cons sht (sh_cons shl (sh_one hsh)))), noR hno⟩ (hD3.same u) (((k1.trans k2).trans k3).trans (Same.keep u))
        walk_at "x"
        refine x_ite (fun hc => ?_) (fun hc => ?_)
        · walk_at "x"
          refine x_sl2 ?_
          walk_at "x"
          refine x_part0 (x_part1 ?_)
          walk_at "x"
          refine ⟨_, rfl, x_slA h1 fun r2 H2 s2 e2 => ?_⟩
          rw [show (3 : Int) = ((3 : Nat) : Int) from rfl, cutV_to (by show 3 ≤ 4; decide)] at e2
          exact q _ _ ⟨.tuple ([.str "node", tbV tb, tnD l, tnD r].take 3), .tup e2 ((hdat s2).take), .tup (sh_take shs), no_part rfl⟩ (hD1.same s2) (k1.trans (Same.keep s2))
        walk_at "x"
        refine x_ite (fun hc => ?_) (fun hc => ?_)
        · walk_at "x"
          refine x_ixT (st_of h1) (show _ = some (V.ref xa) from rfl) ?_
          walk_at "x"
          refine ⟨by show 1 ≤ sizeLine; decide, fun r2 hr2 => ?_⟩
          have s5 := same_upd (o := .tup [V.ref xa]) hr2
          refine x_catA (s5 _ _ h1) upd_same (by show 4 + 1 ≤ 1000000; decide) fun r3 H6 s6 e6 => ?_
          have s6 := s5.trans s6
          exact q _ _ ⟨.tuple ([.str "node", tbV tb, tnD l, tnD r] ++ [tnD l]), .tup e6 ((hdat s6).app (.cons (tn_dat (h3.tups (Tups.same s6))) .nil)), .tup (sh_app shs (sh_one shl)), no_part rfl⟩ (hD1.same s6) (k1.trans (Same.keep s6))
        walk_at "x"
        refine x_ite (fun hc => ?_) (fun hc => ?_)
        · walk_at "x"
          refine ⟨by show 1 ≤ sizeLine; decide, fun r2 hr2 => ?_⟩
          have s5 := same_upd (o := .tup [V.str "Node"]) hr2
          have e5 : (upd H1 r2 (.tup [V.str "Node"])) r2 = some (.tup [V.str "Node"]) := upd_same
          generalize upd H1 r2 (.tup [V.str "Node"]) = H5 at s5 e5
          refine x_sl2 ?_
          walk_at "x"
          refine x_part1 ?_
          walk_at "x"
          refine ⟨_, rfl, x_part0 (x_slA (s5 _ _ h1) fun r3 H6 s6 e6 => ?_)⟩
          rw [show (1 : Int) = ((1 : Nat) : Int) from rfl, cutV_from (by show 1 ≤ 4; decide)] at e6
          refine x_catA (s6 _ _ e5) e6 (by show 1 + 3 ≤ 1000000; decide) fun r4 H7 s7 e7 => ?_
          have s7 := (s5.trans s6).trans s7
          exact q _ _ ⟨.tuple ([.str "Node"] ++ [.str "node", tbV tb, tnD l, tnD r].drop 1), .tup e7 ((DAts.cons (.str _) .nil).app (hdat s7).drop), .tup (sh_app (sh_one (.str (by decide +kernel))) (sh_drop shs)), no_part (by show partD (m : Int) (.tuple [.str "Node", tbV tb, tnD l, tnD r]) = false; rw [partD_node, if_neg (by decide)])⟩ (hD1.same s7) (k1.trans (Same.keep s7))
        walk_at "x"
        refine x_ite (fun hc => ?_) (fun hc => ?_)
        · walk_at "x"
          refine x_listT (st_of h1) fun l2 hl2 => ?_
          have u := same_upd (o := .lst [.str "node", .ref ta, .ref xa, .ref ya]) hl2
          exact q _ _ ⟨.list [.str "node", tbV tb, tnD l, tnD r], .lst (hD1.new hl2) upd_same (hdat u), .lst shs, no_part rfl⟩ (hD1.same u) (k1.trans (Same.keep u))
        · walk_at "x"
          refine x_ixT (st_of h1) (show _ = some (V.str "node") from rfl) ?_
          walk_at "x"
          refine x_ixT (st_of h1) (show _ = some (V.ref ta) from rfl) ?_
          walk_at "x"
          refine ⟨d, nn, ta, m, tb, rfl, m1, m9, h2, o1, o2, hD1, ?_⟩
          rintro v H2 ⟨e, hv, hsh, hno⟩ hD2 k2
          have tp2 := keep_tups k2 hD1
          have h1 := tp2 _ _ h1
          have h3 := h3.tups tp2
          have h4 := h4.tups tp2
          walk_at "x"
          refine ⟨by show 2 ≤ sizeLine; decide, fun r2 hr2 => ?_⟩
          have s5 := same_upd (o := .tup [V.str "node", v]) hr2
          have e5 : (upd H2 r2 (.tup [V.str "node", v])) r2 = some (.tup [V.str "node", v]) := upd_same
          generalize upd H2 r2 (.tup [V.str "node", v]) = H5 at s5 e5
          refine x_sl2 ?_
          walk_at "x"
          refine x_part1 ?_
          walk_at "x"
          refine ⟨_, rfl, x_part0 (x_slA (s5 _ _ h1) fun r3 H6 s6 e6 => ?_)⟩
          rw [show (2 : Int) = ((2 : Nat) : Int) from rfl, cutV_from (by show 2 ≤ 4; decide)] at e6
          refine x_catA (s6 _ _ e5) e6 (by show 2 + 2 ≤ 1000000; decide) fun r4 H7 s7 e7 => ?_
          have s7 := (s5.trans s6).trans s7
          exact q _ _ ⟨.tuple ([.str "node", e] ++ [tnD l, tnD r]), .tup e7 ((DAts.cons (.str _) (.cons (DAt.same s7 _ hv) .nil)).app (.cons (tn_dat (h3.tups (Tups.same s7))) (.cons (tn_dat (h4.tups (Tups.same s7))) .nil))), .tup (sh_app (sh_cons shw (sh_one (hsh.mono (by omega)))) (sh_cons shl (sh_one shr))), noTb hno⟩ (hD2.same s7) ((k1.trans k2).trans (Same.keep s7))


end
end Br
namespace Br
open PySem PySem.Spec PyProof.Rows L2
local macro_rules | `(tactic| walk_at "x1") => `(tactic| (with_reducible first
  | refine Br.x_seq ?_ | refine Br.x_set ?_ | refine Br.x_asg ?_ | refine Br.x_next ?_ | refine Br.x_ret ?_ | refine Br.x_retN ?_ | refine Br.x_drop ?_ | refine Br.x_if ?_ | refine Br.x_brk ?_ | refine Br.x_cont ?_
  | refine Br.x_c ?_ | refine Br.x_op ?_ | refine Br.x_un ?_ | refine Br.x_I0 ?_ | refine Br.x_U ?_ | refine Br.x_EqI ?_ | refine Br.x_NeI ?_ | refine Br.x_EqB ?_ | refine Br.x_iN ?_ | refine Br.x_int1 ?_ | refine Br.x_min2 ?_ | refine Br.x_max2 ?_ | refine Br.x_nN ?_ | refine Br.x_ifE ?_
  | refine Br.x_test (b := ()) ?_ | refine Br.x_tB ?_ | refine Br.x_bl ?_ | refine Br.x_and ?_ | refine Br.x_or ?_ | refine Br.x_not ?_ | refine Br.x_andV ?_ | refine Br.x_orV ?_ | refine Br.x_notV ?_ | refine Br.x_blP ?_
  | refine Br.x_nil ?_ | refine Br.x_cons ?_ | refine Br.x_call ?_ | refine Br.x_CB ?_ | refine Br.x_BM ?_ | refine Br.x_tup ?_ | refine Br.x_lst ?_ | refine Br.x_chain ?_ | refine Br.x_par ?_ | refine Br.x_gSub ?_ | refine Br.x_gName ?_ | refine Br.x_fld ?_ | refine Br.x_fldS ?_ | refine Br.x_match ?_ | refine Br.x_else ?_ | refine Br.x_noCase ?_))
local macro_rules | `(tactic| walk_at "xv") => `(tactic| ((with_reducible refine' Br.x_var ?hvar ?_); (case hvar => rfl)))
local macro_rules | `(tactic| walk_at "xd") => `(tactic| (dsimp only [List.set_cons_zero, List.set_cons_succ, List.cons_append, List.nil_append, List.append_nil]))
local macro_rules | `(tactic| walk_at "xi") => `(tactic| ((with_reducible refine Br.x_I ?hside ?_); (case hside => first | exact Br.mul_r (by decide) (by decide) | exact Br.mul_l (by decide) (by decide) | exact Br.mul_l (by omega) (by omega) | exact Br.mul_r (by omega) (by omega) | (show (0 : Int) < _; first | decide | omega) | exact ⟨by decide, by decide⟩ | exact ⟨by omega, by omega⟩ | exact ⟨by decide, by decide, by decide⟩)))
local macro_rules | `(tactic| walk_at "x") => `(tactic| (repeat (first | walk_at "x1" | walk_at "xv" | walk_at "xi" | walk_at "xd")))
local macro_rules | `(tactic| walk_at "start") => `(tactic| (simp only [L2.start, List.map_cons, List.map_nil, List.length_cons, List.length_nil, Nat.reduceAdd, Nat.reduceSub, List.replicate, List.cons_append, List.nil_append, List.append_nil]))
local macro_rules | `(tactic| walk_at "isi") => `(tactic| first
  | refine Br.x_isi (b := true) (.base (.int _)) (by decide +kernel) ?_ | refine Br.x_isi (b := false) (.base (.int _)) (by decide +kernel) ?_
  | refine Br.x_isi (b := true) (.base (.bl _)) (by decide +kernel) ?_ | refine Br.x_isi (b := false) (.base (.bl _)) (by decide +kernel) ?_
  | refine Br.x_isi (b := false) (.base .non) (by decide +kernel) ?_
  | refine Br.x_isi (b := true) (.base (.str _)) (by decide +kernel) ?_ | refine Br.x_isi (b := false) (.base (.str _)) (by decide +kernel) ?_
  | refine Br.x_isi (b := true) (.base (.tup (by assumption))) (by decide +kernel) ?_ | refine Br.x_isi (b := false) (.base (.tup (by assumption))) (by decide +kernel) ?_
  | refine Br.x_isi (b := true) (.base (.lst (by assumption))) (by decide +kernel) ?_ | refine Br.x_isi (b := false) (.base (.lst (by assumption))) (by decide +kernel) ?_)
local macro_rules | `(tactic| walk_at "f") => `(tactic| (refine L2.iteF ?_; walk_at "x"))
local macro_rules | `(tactic| walk_at "t") => `(tactic| (refine L2.iteT ?_; walk_at "x"))
local macro_rules | `(tactic| walk_at "is") => `(tactic| (walk_at "isi"; walk_at "x"))
local macro_rules | `(tactic| walk_at "xb") => `(tactic| (simp only [Br.bindS, List.set_cons_zero, List.set_cons_succ]; walk_at "x"))

section
variable {P : Program} {w : World} {K : PySem.W.Frag} {mg : Str → Option Value} {base : Heap}

open Br
/-- what is asked for a number of values: an int, True or None -/
inductive UV : V → Prop
  | int (i : Int) : UV (.int i)
  | bl : UV (.bl true)
  | non : UV .non
theorem UV.odd {H : Hp} {u : V} (h : UV u) : Odd H u := by
  cases h with
  | int i => exact .int i
  | bl => exact .bl _
  | non => exact .non
theorem treeD_tn {m : Nat} {t : Tn} (ok : TnOk m t) (h1 : t.dep ≤ 40) (h2 : t.size ≤ 200) : treeD (m : Int) (tnD t) = true := treeD_iff.mpr ⟨t, rfl, ok, h1, h2⟩
theorem treeD_no {m : Nat} {e : PyData} (h : ∀ t, e = tnD t → TnOk m t → t.dep ≤ 40 → t.size ≤ 200 → False) : treeD (m : Int) e = false := by
  cases hh : treeD (m : Int) e with
  | false => rfl
  | true =>
    obtain ⟨t, h1, h2, h3, h4⟩ := treeD_iff.mp hh
    exact (h t h1 h2 h3 h4).elim
theorem valid_nat {m : Nat} {e : PyData} {b : Bool} (h1 : 1 ≤ m) (h2 : m ≤ 40) (h : treeD (m : Int) e = b) : validT (.int (m : Int)) e = b := by rw [validT_int h1 h2]; exact h
def GvAt (d : Addr) (H : Hp) (v : V) : Prop := ∃ (l : Addr) (tv u : V) (e : PyData), v = .ref l ∧ l ≠ d ∧ H l = some (.lst [tv, u, .bl (validT u e)]) ∧ DAt d H tv e ∧ Sh e ∧ UV u

def sp_law_given (K : PySem.W.Frag) : Sp := fun vs H Q _ => ∃ (d nn : Addr), vs = [.ref d] ∧ Dr H d nn ∧ RetG d nn (fun v H' => GvAt d H' v) H Q
theorem ok_law_given (T : Txt K mg) : FnOk P w K mg base CX0 11 T.a_law_given T.fd_law_given ["draws"] (sp_law_given K) := by
  refine T.F_law_given.ok sc_law_given (fun vs H Q E h => ?_) (fun cdv A outer s H vs Q E hr h => ?_)
  · obtain ⟨d, nn, rfl, _⟩ := h
    rfl
  · obtain ⟨d, nn, rfl, hD, q⟩ := h
    refine ⟨_, (pss_cons (ps_set (i := 1) sc_law_given.nd rfl (.inl rfl) (pe_op op_add pe_int (pe_op op_mod (pe_call (ok_law_draw T) (hr.mono (by decide)) (by rfl) T.g_law_draw T.F_law_draw.kp T.b_law_draw .nil pass0 (pa_cons (pv 0) pa_nil)) (pe_ix (r := rIxL K) ix_list (pe_lst (pa_cons pe_int (pa_cons pe_int (pa_cons pe_int pa_nil)))) (pe_op op_mod (pe_call (ok_law_draw T) (hr.mono (by decide)) (by rfl) T.g_law_draw T.F_law_draw.kp T.b_law_draw .nil pass0 (pa_cons (pv 0) pa_nil)) pe_int) (fun _ _ => rfl)))))
      (pss_cons (ps_set (i := 2) sc_law_given.nd rfl (.inl rfl) (pe_call (ok_law_tree T 5) hr (by rfl) T.g_law_tree T.F_law_tree.kp T.b_law_tree .nil pass0 (pa_cons (pv 0) (pa_cons (pv 1) (pa_cons pe_int (pa_cons (pe_lst (pa_cons (pe_op op_sub pe_int (pe_op op_mul pe_int (pe_callTy (T := "int") (r := rInt1) cr_int1 (by rfl) T.m_int (by decide +kernel) (pa_cons (pe_cmpR op_gt (pv 1) pe_int (nomark _)) pa_nil)))) pa_nil)) pa_nil))))))
      (pss_cons (ps_set (i := 3) sc_law_given.nd rfl (.inl rfl) (pe_op op_mod (pe_call (ok_law_draw T) (hr.mono (by decide)) (by rfl) T.g_law_draw T.F_law_draw.kp T.b_law_draw .nil pass0 (pa_cons (pv 0) pa_nil)) pe_int))
      (pss_cons (ps_if (pt_cmpR op_lt (pv 3) pe_int (nomark _))
      (pss_one (ps_ret (pe_lst (pa_cons (pe_call (ok_law_spoilt T 5) hr (by rfl) T.g_law_spoilt T.F_law_spoilt.kp T.b_law_spoilt .nil pass0 (pa_cons (pv 0) (pa_cons (pv 2) (pa_cons (pv 1) pa_nil)))) (pa_cons (pv 1) (pa_cons pe_bl pa_nil))))))
      pss_nil)
      (pss_cons (ps_if (pt_cmpR op_eq (pv 3) pe_int (nomark _))
      (pss_one (ps_ret (pe_lst (pa_cons (pv 2) (pa_cons (pe_ix (r := rIxL K) ix_list (pe_lst (pa_cons pe_int (pa_cons pe_int (pa_cons pe_bl (pa_cons pe_non pa_nil))))) (pe_op op_mod (pe_call (ok_law_draw T) (hr.mono (by decide)) (by rfl) T.g_law_draw T.F_law_draw.kp T.b_law_draw .nil pass0 (pa_cons (pv 0) pa_nil)) pe_int) (fun _ _ => rfl)) (pa_cons pe_bl pa_nil))))))
      pss_nil)
      (pss_cons (ps_if (pt_cmpR op_eq (pv 3) pe_int (nomark _))
      (pss_cons (ps_set (i := 4) sc_law_given.nd rfl (.inl rfl) (pe_op op_add pe_int (pe_op op_mod (pe_call (ok_law_draw T) (hr.mono (by decide)) (by rfl) T.g_law_draw T.F_law_draw.kp T.b_law_draw .nil pass0 (pa_cons (pv 0) pa_nil)) pe_int)))
      (pss_one (ps_ret (pe_lst (pa_cons (pe_call (ok_law_comb T) (hr.mono (by decide)) (by rfl) T.g_law_comb T.F_law_comb.kp T.b_law_comb .nil pass0 (pa_cons (pv 4) pa_nil)) (pa_cons pe_int (pa_cons (pe_cmpR op_le (pv 4) pe_int (nomark _)) pa_nil)))))))
      pss_nil)
      (pss_cons (ps_if (pt_cmpR op_eq (pv 3) pe_int (nomark _))
      (pss_cons (ps_set (i := 5) sc_law_given.nd rfl (.inl rfl) (pe_op op_add pe_int (pe_op op_mod (pe_call (ok_law_draw T) (hr.mono (by decide)) (by rfl) T.g_law_draw T.F_law_draw.kp T.b_law_draw .nil pass0 (pa_cons (pv 0) pa_nil)) pe_int)))
      (pss_one (ps_ret (pe_lst (pa_cons (pe_call (ok_law_broad T) (hr.mono (by decide)) (by rfl) T.g_law_broad T.F_law_broad.kp T.b_law_broad .nil pass0 (pa_cons (pv 5) pa_nil)) (pa_cons pe_int (pa_cons (pe_cmpR op_le (pv 5) pe_int (nomark _)) pa_nil)))))))
      pss_nil)
      (pss_cons (ps_if (PW.pt (pw_and (pt_cmpR op_eq (pv 3) pe_int (nomark _)) (pw_and1 (pt_cmpR op_eq (pe_ix (r := rIxT K) ix_tup (pv 2) pe_int (fun _ _ => rfl)) pe_str (nomark _)))))
      (pss_one (ps_ret (pe_lst (pa_cons (pv 2) (pa_cons (pe_op op_sub (pe_callB (id := "min") (r := rMin2) (cr_min2 rfl) (by rfl) T.m_min (by decide +kernel) (pa_cons pe_int (pa_cons (pe_op op_add (pv 1) pe_int) pa_nil))) (pe_callTy (T := "int") (r := rInt1) cr_int1 (by rfl) T.m_int (by decide +kernel) (pa_cons (pe_cmpR op_eq (pv 1) pe_int (nomark _)) pa_nil))) (pa_cons pe_bl pa_nil))))))
      pss_nil)
      (pss_one (ps_ret (pe_lst (pa_cons (pv 2) (pa_cons (pv 1) (pa_cons pe_bl pa_nil)))))))))))))), ?_⟩
    walk_at "start"
    walk_at "x"
    refine ⟨d, nn, rfl, hD, ?_⟩
    rintro _ H1 ⟨z, rfl, z0, z1⟩ hD1 k1
    walk_at "x"
    refine ⟨by show 3 ≤ sizeLine; decide, fun p hp => ?_⟩
    have u1 := same_upd (o := .lst [.int 7, .int 7, .int 40]) hp
    have e1 : (upd H1 p (.lst [.int 7, .int 7, .int 40])) p = some (.lst [.int 7, .int 7, .int 40]) := upd_same
    have hpd := hD1.new hp
    have hD2 := hD1.same u1
    generalize upd H1 p (.lst [.int 7, .int 7, .int 40]) = H2 at u1 e1 hD2
    walk_at "x"
    refine ⟨d, nn, rfl, hD2, ?_⟩
    rintro _ H3 ⟨y, rfl, y0, y1⟩ hD3 k3
    have k3 := (k1.trans (Same.keep u1)).trans k3
    walk_at "x"
    obtain ⟨g, hv, hm⟩ := at_lt (xs := [.int 7, .int 7, .int 40]) (i := y % 3) (Int.emod_nonneg _ (by decide)) (Int.emod_lt_of_pos y (show (0 : Int) < 3 by decide))
    refine x_ixL (sq_of (by rename_i k3'; exact k3' _ _ e1 hpd)) hv ?_
    have hg : ∃ gi : Int, g = .int gi ∧ 1 ≤ gi ∧ gi ≤ 40 := by
      simp only [List.mem_cons, List.not_mem_nil, or_false] at hm
      rcases hm with rfl | rfl | rfl
      · exact ⟨7, rfl, by decide, by decide⟩
      · exact ⟨7, rfl, by decide, by decide⟩
      · exact ⟨40, rfl, by decide, by decide⟩
    obtain ⟨gi, rfl, g1, g2⟩ := hg
    walk_at "x"
    obtain ⟨m, em, m1, m9⟩ : ∃ m : Nat, 1 + z % gi = (m : Int) ∧ 1 ≤ m ∧ m ≤ 40 := by
      have a := Int.emod_nonneg z (show gi ≠ 0 by omega)
      have b := Int.emod_lt_of_pos z (show 0 < gi by omega)
      exact ⟨(1 + z % gi).toNat, by omega, by omega, by omega⟩
    rw [em]
    walk_at "x"
    refine .inr ⟨_, rfl, ?_⟩
    walk_at "x"
    refine ⟨by show 1 ≤ sizeLine; decide, fun l hl => ?_⟩
    generalize hw : (14 : Int) - 10 * (if decide ((m : Int) > 7) = true then 1 else 0) = w0
    have u4 := same_upd (o := .lst [.int w0]) hl
    have e4 : (upd H3 l (.lst [.int w0])) l = some (.lst [.int w0]) := upd_same
    have hld := hD3.new hl
    have hln := hD3.newN hl
    have hD4 := hD3.same u4
    generalize upd H3 l (.lst [.int w0]) = H4 at u4 e4 hD4
    refine ⟨d, nn, l, m, 5, rfl, m1, m9, by decide, by decide, hD4, ⟨hld, hln, w0, e4⟩, fun a t H5 ht ok dp hD5 hl5 hk5 => ?_⟩
    have k5 : Keep d H H5 := fun b o hb hbd => hk5 b o (u4 _ _ (k3 b o hb hbd)) hbd (by
      intro e
      have hl3 : H l = none := k3.free hD3 hl
      rw [← e, hb] at hl3
      cases hl3)
    have hts : t.size ≤ 200 := by have := Tn.size_dep (t := t) (n := 5) dp; omega
    have htd : Sh (tnD t) := (tn_sh t).sh (by omega)
    walk_at "x"
    refine ⟨d, nn, rfl, hD5, ?_⟩
    rintro _ H6 ⟨x, rfl, x0, x1⟩ hD6 k6
    have ht6 := ht.tups (keep_tups k6 hD5)
    have k6 := k5.trans k6
    walk_at "x"
    have fin : ∀ {H7 : Hp} {tv u : V} {e : PyData} {b : Bool}, Dr H7 d nn → Keep d H H7 → DAt d H7 tv e → Sh e → UV u → validT u e = b → ([tv, u, V.bl b].length ≤ sizeLine ∧ ∀ p, H7 p = none → Q (.ref p) (upd H7 p (.lst [tv, u, .bl b]))) := fun {H7 tv u e b} hD7 k7 hv hs hu hb => by
      refine ⟨by show 3 ≤ sizeLine; decide, fun p hp => ?_⟩
      have u7 := same_upd (o := .lst [tv, u, .bl b]) hp
      exact q _ _ ⟨p, tv, u, e, rfl, hD7.new hp, by rw [hb]; exact upd_same, DAt.same u7 _ hv, hs, hu⟩ (hD7.same u7) (k7.trans (Same.keep u7))
    refine x_ite (fun hc => ?_) (fun hc => ?_)
    · walk_at "x"
      refine ⟨d, nn, a, m, t, rfl, m1, m9, ht6, ok, dp, hD6, ?_⟩
      rintro v H7 ⟨e, hv, hsh, hno⟩ hD7 k7
      walk_at "x"
      exact fin hD7 (k6.trans k7) hv (hsh.sh (by decide)) (.int _) (valid_nat m1 m9 (treeD_no fun t2 h1 h2 _ _ => hno t2 h1 h2))
    walk_at "x"
    refine x_ite (fun hc => ?_) (fun hc => ?_)
    · walk_at "x"
      refine ⟨by show 4 ≤ sizeLine; decide, fun p2 hp2 => ?_⟩
      have u7 := same_upd (o := .lst [.int 0, .int 41, .bl true, .non]) hp2
      have e7 : (upd H6 p2 (.lst [.int 0, .int 41, .bl true, .non])) p2 = some (.lst [.int 0, .int 41, .bl true, .non]) := upd_same
      have hp2d := hD6.new hp2
      have hD7 := hD6.same u7
      generalize upd H6 p2 (.lst [.int 0, .int 41, .bl true, .non]) = H7 at u7 e7 hD7
      walk_at "x"
      refine ⟨d, nn, rfl, hD7, ?_⟩
      rintro _ H8 ⟨r, rfl, r0, r1⟩ hD8 k8
      have ht8 := (ht6.tups (Tups.same u7)).tups (keep_tups k8 hD7)
      walk_at "x"
      obtain ⟨g, hv, hm⟩ := at_lt (xs := [.int 0, .int 41, .bl true, .non]) (i := r % 4) (Int.emod_nonneg _ (by decide)) (Int.emod_lt_of_pos r (show (0 : Int) < 4 by decide))
      refine x_ixL (sq_of (k8 _ _ e7 hp2d)) hv ?_
      walk_at "x"
      have hg : UV g ∧ validT g (tnD t) = false := by
        simp only [List.mem_cons, List.not_mem_nil, or_false] at hm
        rcases hm with rfl | rfl | rfl | rfl
        · exact ⟨.int _, rfl⟩
        · exact ⟨.int _, rfl⟩
        · exact ⟨.bl, rfl⟩
        · exact ⟨.non, rfl⟩
      exact fin hD8 (k6.trans ((Same.keep u7).trans k8)) (tn_dat ht8) htd hg.1 hg.2
    walk_at "x"
    refine x_ite (fun hc => ?_) (fun hc => ?_)
    · walk_at "x"
      refine ⟨d, nn, rfl, hD6, ?_⟩
      rintro _ H7 ⟨r, rfl, r0, r1⟩ hD7 k7
      walk_at "x"
      obtain ⟨k, ek, hk⟩ : ∃ k : Nat, 38 + r % 5 = (k : Int) + 1 ∧ k ≤ 60 := ⟨(37 + r % 5).toNat, by omega, by omega⟩
      rw [ek]
      refine ⟨k, rfl, hk, fun a2 H8 s8 ha2 => ?_⟩
      walk_at "x"
      have hdp := combT_dep k
      have hsz := combT_size k
      refine fin (hD7.same s8) (k6.trans (k7.trans (Same.keep s8))) (tn_dat ha2) ((tn_sh (combT k)).sh (by omega)) (.int 2) (valid_nat (m := 2) (by decide) (by decide) ?_)
      by_cases h40 : (k : Int) + 1 ≤ 40
      · rw [decide_eq_true h40]
        exact treeD_tn (combT_ok k) (by omega) (by omega)
      · rw [decide_eq_false h40]
        refine treeD_no fun t2 h1 h2 h3 h4 => ?_
        have := tnD_inj h1
        rw [← this] at h3
        omega
    walk_at "x"
    refine x_ite (fun hc => ?_) (fun hc => ?_)
    · walk_at "x"
      refine ⟨d, nn, rfl, hD6, ?_⟩
      rintro _ H7 ⟨r, rfl, r0, r1⟩ hD7 k7
      walk_at "x"
      obtain ⟨k, ek, hk1, hk⟩ : ∃ k : Nat, 99 + r % 3 = (k : Int) ∧ 1 ≤ k ∧ k ≤ 200 := ⟨(99 + r % 3).toNat, by omega, by omega, by omega⟩
      rw [ek]
      refine ⟨k, rfl, hk1, hk, fun a2 t2 H8 s8 hr2 ha2 => ?_⟩
      obtain ⟨t3, hr3, hsz⟩ := rowT_root hk1 hk
      rw [hr3] at hr2
      obtain rfl := Option.some.inj (show some t3 = some t2 from hr2)
      obtain ⟨ok3, dp3⟩ := rowT_ok k 8 t3 (by rw [hr3]; exact List.mem_singleton.mpr rfl)
      walk_at "x"
      refine fin (hD7.same s8) (k6.trans (k7.trans (Same.keep s8))) (tn_dat ha2) ((tn_sh t3).sh (by omega)) (.int 2) (valid_nat (m := 2) (by decide) (by decide) ?_)
      by_cases h40 : (k : Int) ≤ 100
      · rw [decide_eq_true h40]
        exact treeD_tn ok3 (by omega) (by omega)
      · rw [decide_eq_false h40]
        refine treeD_no fun t4 h1 h2 h3 h4 => ?_
        have := tnD_inj h1
        rw [← this] at h4
        omega
    have last : ([V.ref a, V.int (m : Int), V.bl true].length ≤ sizeLine ∧ ∀ p, H6 p = none → Q (.ref p) (upd H6 p (.lst [.ref a, .int (m : Int), .bl true]))) := fin hD6 k6 (tn_dat ht6) htd (.int _) (valid_nat m1 m9 (treeD_tn ok (by omega) hts))
    walk_at "x"
    refine x_ite (fun hc => ?_) (fun hc => ?_)
    · walk_at "x"
      cases t with
      | leaf v =>
        have h1 : H6 a = some (.tup [.str "leaf", .int v]) := ht6
        refine x_ixT (st_of h1) (show _ = some (V.str "leaf") from rfl) ?_
        walk_at "x"
        refine x_Eq rfl ?_
        rw [decide_eq_false (by decide)]
        walk_at "x"
        walk_at "f"
        exact last
      | node tb l2 r2 =>
        obtain ⟨ta, xa, ya, h1, h2, h3, h4⟩ := id ht6
        refine x_ixT (st_of h1) (show _ = some (V.str "node") from rfl) ?_
        walk_at "x"
        refine x_Eq rfl ?_
        rw [decide_eq_true rfl]
        walk_at "x"
        walk_at "t"
        refine .inr ⟨_, rfl, ?_⟩
        walk_at "x"
        obtain ⟨u, eu, hu1, hu9, hum⟩ : ∃ u : Nat, (if (m : Int) + 1 < 40 then (m : Int) + 1 else 40) - (if decide ((m : Int) = 40) = true then 1 else 0) = (u : Int) ∧ 1 ≤ u ∧ u ≤ 40 ∧ u ≠ m := by
          by_cases h40 : (m : Int) = 40
          · rw [if_neg (by omega), if_pos (decide_eq_true h40)]
            exact ⟨39, by decide, by decide, by decide, by omega⟩
          · rw [if_neg (show ¬ (decide ((m : Int) = 40) = true) by rw [decide_eq_false h40]; decide)]
            by_cases h39 : (m : Int) + 1 < 40
            · rw [if_pos h39]; exact ⟨m + 1, by omega, by omega, by omega, by omega⟩
            · rw [if_neg h39]; exact ⟨40, by decide, by decide, by decide, by omega⟩
        rw [eu]
        refine fin hD6 k6 (tn_dat ht6) htd (.int _) (valid_nat hu1 hu9 (treeD_no fun t4 h5 h6 _ _ => ?_))
        rw [← tnD_inj h5] at h6
        have a1 := h6.2.1
        have a2 := ok.2.1
        omega
    · walk_at "x"
      walk_at "f"
      exact last


def sp_law (K : PySem.W.Frag) : Sp := fun vs H Q _ => ∃ (a : Addr) (ns : List Int), vs = [.ref a] ∧ SqL K H a (ns.map V.int) ∧ ns.length ≤ 63 ∧ ∀ H', Q (.bl true) H'
theorem ok_law (T : Txt K mg) : FnOk P w K mg base CX0 12 T.a_law T.fd_law ["script"] (sp_law K) := by
  refine T.F_law.ok sc_law (fun vs H Q E h => ?_) (fun cdv A outer s H vs Q E hr h => ?_)
  · obtain ⟨a, ns, rfl, _⟩ := h
    rfl
  · obtain ⟨a, ns, rfl, hS, hl, q0⟩ := h
    have q : ∀ H', Same H H' → Q (.bl true) H' := fun H' _ => q0 H'
    refine ⟨_, (pss_cons (ps_set (i := 1) sc_law.nd rfl (.inl rfl) (pe_lst (pa_cons (pe_call (ok_law_numbers T) (hr.mono (by decide)) (by rfl) T.g_law_numbers T.F_law_numbers.kp T.b_law_numbers .nil pass0 (pa_cons (pv 0) pa_nil)) (pa_cons pe_int pa_nil))))
      (pss_cons (ps_set (i := 2) sc_law.nd rfl (.inl rfl) (pe_call (ok_law_given T) hr (by rfl) T.g_law_given T.F_law_given.kp T.b_law_given .nil pass0 (pa_cons (pv 1) pa_nil)))
      (pss_cons (ps_if (pt_val (pe_ix (r := rIxL K) ix_list (pv 2) pe_int (fun _ _ => rfl)))
      (pss_one (ps_ret (pe_and (pe_not (pe_call (ok_law_refused T) (hr.mono (by decide)) (by rfl) T.g_law_refused T.F_law_refused.kp T.b_law_refused .nil pass0 (pa_cons (pe_ix (r := rIxL K) ix_list (pv 2) pe_int (fun _ _ => rfl)) (pa_cons (pe_ix (r := rIxL K) ix_list (pv 2) pe_int (fun _ _ => rfl)) (pa_cons pe_int pa_nil))))) (pe_one (pe_not (pe_call (ok_law_refused T) (hr.mono (by decide)) (by rfl) T.g_law_refused T.F_law_refused.kp T.b_law_refused .nil pass0 (pa_cons (pe_ix (r := rIxL K) ix_list (pv 2) pe_int (fun _ _ => rfl)) (pa_cons (pe_ix (r := rIxL K) ix_list (pv 2) pe_int (fun _ _ => rfl)) (pa_cons pe_int pa_nil)))))))))
      pss_nil)
      (pss_cons (ps_for PassesOwn.never rfl (pi_range1 (by rfl) T.m_range (pa_cons pe_int pa_nil)) (pg_name (i := 3) sc_law.nd rfl (Or.inl rfl))
      (pss_one (ps_if (pt_not (pt_val (pe_call (ok_law_refused T) (hr.mono (by decide)) (by rfl) T.g_law_refused T.F_law_refused.kp T.b_law_refused .nil pass0 (pa_cons (pe_ix (r := rIxL K) ix_list (pv 2) pe_int (fun _ _ => rfl)) (pa_cons (pe_ix (r := rIxL K) ix_list (pv 2) pe_int (fun _ _ => rfl)) (pa_cons (pv 3) pa_nil))))))
      (pss_one (ps_ret pe_bl))
      pss_nil)))
      (pss_cons (ps_if (PW.pt (pw_or (pt_val (pe_callB (id := "isinstance") (r := rIsi K) call_isi (by rfl) T.m_isinstance (by decide +kernel) (pa_cons (pe_ix (r := rIxL K) ix_list (pv 2) pe_int (fun _ _ => rfl)) (pa_cons (pe_bltn (v := .ty "bool") (by rfl) T.m_bool (by decide +kernel) rfl) pa_nil)))) (pw_or (pt_cmpR op_isN1 (pe_ix (r := rIxL K) ix_list (pv 2) pe_int (fun _ _ => rfl)) pe_non (nomark _)) (pw_or (pt_cmpR op_lt (pe_ix (r := rIxL K) ix_list (pv 2) pe_int (fun _ _ => rfl)) pe_int (nomark _)) (pw_or1 (pt_cmpR op_gt (pe_ix (r := rIxL K) ix_list (pv 2) pe_int (fun _ _ => rfl)) pe_int (nomark _)))))))
      (pss_one (ps_ret (pe_call (ok_law_refused T) (hr.mono (by decide)) (by rfl) T.g_law_refused T.F_law_refused.kp T.b_law_refused .nil pass0 (pa_cons (pe_ix (r := rIxL K) ix_list (pv 2) pe_int (fun _ _ => rfl)) (pa_cons (pe_ix (r := rIxL K) ix_list (pv 2) pe_int (fun _ _ => rfl)) (pa_cons pe_int pa_nil))))))
      pss_nil)
      (pss_one (ps_ret pe_bl))))))), ?_⟩
    walk_at "start"
    walk_at "x"
    refine ⟨_, _, rfl, hS, hl, fun p ms H1 hp s1 e1 r1 l1 => ?_⟩
    walk_at "x"
    refine ⟨by show 2 ≤ sizeLine; decide, fun d hd => ?_⟩
    have hD := Dr.mk e1 r1 l1 hd
    have s2 := s1.trans (same_upd (o := .lst [V.ref p, V.int 0]) hd)
    have hd0 : H d = none := sfree s1 hd
    generalize upd H1 d (.lst [V.ref p, V.int 0]) = H2 at hD s2
    walk_at "x"
    refine ⟨d, p, rfl, hD, ?_⟩
    rintro _ H3 ⟨l, tv, u, e, rfl, hld, hL, hv, hsh, hu⟩ hD3 k3
    have s3 : Same H H3 := same_keep hd0 s2 k3
    walk_at "x"
    refine x_ixL (sq_of hL) (show _ = some (V.bl (validT u e)) from rfl) ?_
    walk_at "x"
    cases hvt : validT u e with
    | true =>
      have hvu : valsV u = true := by
        cases hh : valsV u with
        | true => rfl
        | false => rw [validT_no hh] at hvt; cases hvt
      walk_at "t"
      refine x_ixL (sq_of hL) (show _ = some tv from rfl) ?_
      walk_at "x"
      refine x_ixL (sq_of hL) (show _ = some u from rfl) ?_
      walk_at "x"
      refine ⟨d, tv, u, e, 0, rfl, hv, hsh, hu.odd, by decide, fun h => by omega, fun _ H4 s4 => ?_, fun h => by omega⟩
      rw [hvt]
      have hL4 := s4 _ _ hL
      walk_at "x"
      walk_at "t"
      refine x_ixL (sq_of hL4) (show _ = some tv from rfl) ?_
      walk_at "x"
      refine x_ixL (sq_of hL4) (show _ = some u from rfl) ?_
      walk_at "x"
      refine ⟨d, tv, u, e, 4, rfl, DAt.same s4 _ hv, hsh, hu.odd, by decide, fun _ h => by omega, fun h => by omega, fun _ H5 s5 => ?_⟩
      rw [hvu]
      walk_at "x"
      exact q H5 ((s3.trans s4).trans s5)
    | false =>
      walk_at "x"
      walk_at "f"
      refine x_forR1 4 (fun k σ' H' => ∃ v3, σ' = [some (.ref a), some (.ref d), some (.ref l), v3] ∧ Same H3 H') (fun R r => r) (by decide) (by decide) ⟨_, rfl, Same.refl _⟩ ?_ ?_
      · rintro k σ' H4 hk ⟨v3, rfl, s4⟩
        have hL4 := s4 _ _ hL
        walk_at "x"
        refine x_ixL (sq_of hL4) (show _ = some tv from rfl) ?_
        walk_at "x"
        refine x_ixL (sq_of hL4) (show _ = some u from rfl) ?_
        walk_at "x"
        refine ⟨d, tv, u, e, k, rfl, DAt.same s4 _ hv, hsh, hu.odd, by omega, fun _ _ => hvt, fun _ H5 s5 => ?_, fun h => by omega⟩
        rw [hvt]
        walk_at "x"
        walk_at "f"
        exact ⟨_, rfl, s4.trans s5⟩
      · rintro σ' H4 ⟨v3, rfl, s4⟩
        have hL4 := s4 _ _ hL
        have hu0 := hu
        walk_at "x"
        refine x_ixL (sq_of hL4) (show _ = some u from rfl) ?_
        walk_at "x"
        cases hu with
        | bl =>
          walk_at "is"
          walk_at "t"
          walk_at "t"
          refine x_ixL (sq_of hL4) (show _ = some tv from rfl) ?_
          walk_at "x"
          refine x_ixL (sq_of hL4) (show _ = some _ from rfl) ?_
          walk_at "x"
          refine ⟨d, tv, _, e, 4, rfl, DAt.same s4 _ hv, hsh, hu0.odd, by decide, fun _ h => by omega, fun h => by omega, fun _ H5 s5 => ?_⟩
          rw [show valsV _ = false from rfl]
          exact q H5 ((s3.trans s4).trans s5)
        | non =>
          walk_at "is"
          walk_at "f"
          refine x_ixL (sq_of hL4) (show _ = some V.non from rfl) ?_
          walk_at "x"
          rw [decide_eq_true (show V.non = V.non from rfl)]
          walk_at "t"
          walk_at "t"
          refine x_ixL (sq_of hL4) (show _ = some tv from rfl) ?_
          walk_at "x"
          refine x_ixL (sq_of hL4) (show _ = some _ from rfl) ?_
          walk_at "x"
          refine ⟨d, tv, _, e, 4, rfl, DAt.same s4 _ hv, hsh, hu0.odd, by decide, fun _ h => by omega, fun h => by omega, fun _ H5 s5 => ?_⟩
          rw [show valsV _ = false from rfl]
          exact q H5 ((s3.trans s4).trans s5)
        | int i =>
          walk_at "is"
          walk_at "f"
          refine x_ixL (sq_of hL4) (show _ = some (V.int i) from rfl) ?_
          walk_at "x"
          rw [decide_eq_false (show ¬ V.int i = V.non from fun h => nomatch h)]
          walk_at "f"
          refine x_ixL (sq_of hL4) (show _ = some (V.int i) from rfl) ?_
          walk_at "x"
          refine x_ite (fun h1 => ?_) (fun h1 => ?_)
          · walk_at "t"
            refine x_ixL (sq_of hL4) (show _ = some tv from rfl) ?_
            walk_at "x"
            refine x_ixL (sq_of hL4) (show _ = some _ from rfl) ?_
            walk_at "x"
            refine ⟨d, tv, _, e, 4, rfl, DAt.same s4 _ hv, hsh, hu0.odd, by decide, fun _ h => by omega, fun h => by omega, fun _ H5 s5 => ?_⟩
            rw [show valsV _ = false from (by show (decide (1 ≤ i) && decide (i ≤ 40)) = false; rw [decide_eq_false (by omega), Bool.false_and])]
            exact q H5 ((s3.trans s4).trans s5)
          walk_at "x"
          refine x_ixL (sq_of hL4) (show _ = some (V.int i) from rfl) ?_
          walk_at "x"
          refine x_ite (fun h2 => ?_) (fun h2 => ?_)
          · walk_at "x"
            refine x_ixL (sq_of hL4) (show _ = some tv from rfl) ?_
            walk_at "x"
            refine x_ixL (sq_of hL4) (show _ = some _ from rfl) ?_
            walk_at "x"
            refine ⟨d, tv, _, e, 4, rfl, DAt.same s4 _ hv, hsh, hu0.odd, by decide, fun _ h => by omega, fun h => by omega, fun _ H5 s5 => ?_⟩
            rw [show valsV _ = false from (by show (decide (1 ≤ i) && decide (i ≤ 40)) = false; rw [decide_eq_false (show ¬ i ≤ 40 by omega), Bool.and_false])]
            exact q H5 ((s3.trans s4).trans s5)
          · walk_at "x"
            exact q H4 (s3.trans s4)


theorem all_mk {l : PySem.W.OpenLaw} {w : World} {K : PySem.W.Frag} {h : Heap} {mg : Str → Option Value} {fa : Addr} (X : K.In h) (G : h.Ns mainGlobals mg) (hfa : mg "law" = some (.ref fa))
    {f0 : Addr} {od0 an0 : Option Addr} {sl0 : Array (Option Value)} {oc0 kV0 dc0 pm0 cd0 ct0 : Value}
    {f1 : Addr} {od1 an1 : Option Addr} {sl1 : Array (Option Value)} {oc1 kV1 dc1 pm1 cd1 ct1 : Value}
    {f2 : Addr} {od2 an2 : Option Addr} {sl2 : Array (Option Value)} {oc2 kV2 dc2 pm2 cd2 ct2 : Value}
    {f3 : Addr} {od3 an3 : Option Addr} {sl3 : Array (Option Value)} {oc3 kV3 dc3 pm3 cd3 ct3 : Value}
    {f4 : Addr} {od4 an4 : Option Addr} {sl4 : Array (Option Value)} {oc4 kV4 dc4 pm4 cd4 ct4 : Value}
    {f5 : Addr} {od5 an5 : Option Addr} {sl5 : Array (Option Value)} {oc5 kV5 dc5 pm5 cd5 ct5 : Value}
    {f6 : Addr} {od6 an6 : Option Addr} {sl6 : Array (Option Value)} {oc6 kV6 dc6 pm6 cd6 ct6 : Value}
    {f7 : Addr} {od7 an7 : Option Addr} {sl7 : Array (Option Value)} {oc7 kV7 dc7 pm7 cd7 ct7 : Value}
    {f8 : Addr} {od8 an8 : Option Addr} {sl8 : Array (Option Value)} {oc8 kV8 dc8 pm8 cd8 ct8 : Value}
    {f9 : Addr} {od9 an9 : Option Addr} {sl9 : Array (Option Value)} {oc9 kV9 dc9 pm9 cd9 ct9 : Value}
    {f10 : Addr} {od10 an10 : Option Addr} {sl10 : Array (Option Value)} {oc10 kV10 dc10 pm10 cd10 ct10 : Value}
    {f11 : Addr} {od11 an11 : Option Addr} {sl11 : Array (Option Value)} {oc11 kV11 dc11 pm11 cd11 ct11 : Value}
    {f12 : Addr} {od12 an12 : Option Addr} {sl12 : Array (Option Value)} {oc12 kV12 dc12 pm12 cd12 ct12 : Value}
    {f13 : Addr} {od13 an13 : Option Addr} {sl13 : Array (Option Value)} {oc13 kV13 dc13 pm13 cd13 ct13 : Value}
    {f14 : Addr} {od14 an14 : Option Addr} {sl14 : Array (Option Value)} {oc14 kV14 dc14 pm14 cd14 ct14 : Value}
    {f15 : Addr} {od15 an15 : Option Addr} {sl15 : Array (Option Value)} {oc15 kV15 dc15 pm15 cd15 ct15 : Value}
    {f16 : Addr} {od16 an16 : Option Addr} {sl16 : Array (Option Value)} {oc16 kV16 dc16 pm16 cd16 ct16 : Value}
    {f17 : Addr} {od17 an17 : Option Addr} {sl17 : Array (Option Value)} {oc17 kV17 dc17 pm17 cd17 ct17 : Value}
    {f18 : Addr} {od18 an18 : Option Addr} {sl18 : Array (Option Value)} {oc18 kV18 dc18 pm18 cd18 ct18 : Value}
    {f19 : Addr} {od19 an19 : Option Addr} {sl19 : Array (Option Value)} {oc19 kV19 dc19 pm19 cd19 ct19 : Value}
    {f20 : Addr} {od20 an20 : Option Addr} {sl20 : Array (Option Value)} {oc20 kV20 dc20 pm20 cd20 ct20 : Value}
    {f21 : Addr} {od21 an21 : Option Addr} {sl21 : Array (Option Value)} {oc21 kV21 dc21 pm21 cd21 ct21 : Value}
    {f22 : Addr} {od22 an22 : Option Addr} {sl22 : Array (Option Value)} {oc22 kV22 dc22 pm22 cd22 ct22 : Value}
    {f23 : Addr} {od23 an23 : Option Addr} {sl23 : Array (Option Value)} {oc23 kV23 dc23 pm23 cd23 ct23 : Value}
    {f24 : Addr} {od24 an24 : Option Addr} {sl24 : Array (Option Value)} {oc24 kV24 dc24 pm24 cd24 ct24 : Value}
    {E_BrimfulError : Addr}
    {E_BadMemory : Addr}
    {E_BadSource : Addr}
    {E_BadStep : Addr}
    {E_BadTree : Addr}
    {E_TooLong : Addr}
    {t_CELLS : Tok}
    {t_LEAST_PRIME : Tok}
    {t_MOST_DEPTH : Tok}
    {t_MOST_NODES : Tok}
    {t_MOST_STEPS : Tok}
    {t_MOST_VALUES : Tok}
    (hnE : PySem.W.specialIn K (.builtin "object.__class__") "__get__" = some (some (.builtin "getset_descriptor.__get__"))) (htE : PySem.W.takesIn K (.builtin "object.__class__") = some true)
    (aE_BrimfulError : PySem.W.nsIn K mainGlobals "BrimfulError" = some (some (.ref E_BrimfulError))) (xE_BrimfulError : PySem.W.excIn K E_BrimfulError [.type "ValueError", .type "Exception", .type "BaseException", .type "object"] "ValueError.__new__" = true) (kE_BrimfulError : PySem.W.keepIn K (.ref E_BrimfulError) = true)
    (bE_BrimfulError : PySem.W.subIn K (.ref E_BrimfulError) (.type "BaseException") = some true) (tE_BrimfulError : PySem.W.typeIn K (.ref E_BrimfulError) = some (.type "type")) (dE_BrimfulError : PySem.W.hasDictIn K E_BrimfulError = true)
    (h1E_BrimfulError : PySem.W.findIn K (.ref E_BrimfulError) "__getattribute__" = some (some (.builtin "BaseException.__getattribute__"))) (h2E_BrimfulError : PySem.W.findIn K (.ref E_BrimfulError) "__getattr__" = some none) (h3E_BrimfulError : PySem.W.findIn K (.ref E_BrimfulError) "__class__" = some (some (.builtin "object.__class__"))) (h4E_BrimfulError : PySem.W.mroIn K E_BrimfulError (.type "object") = some true)
    (aE_BadMemory : PySem.W.nsIn K mainGlobals "BadMemory" = some (some (.ref E_BadMemory))) (xE_BadMemory : PySem.W.excIn K E_BadMemory [.type "ValueError", .type "Exception", .type "BaseException", .type "object"] "ValueError.__new__" = true) (kE_BadMemory : PySem.W.keepIn K (.ref E_BadMemory) = true)
    (bE_BadMemory : PySem.W.subIn K (.ref E_BadMemory) (.type "BaseException") = some true) (tE_BadMemory : PySem.W.typeIn K (.ref E_BadMemory) = some (.type "type")) (dE_BadMemory : PySem.W.hasDictIn K E_BadMemory = true)
    (h1E_BadMemory : PySem.W.findIn K (.ref E_BadMemory) "__getattribute__" = some (some (.builtin "BaseException.__getattribute__"))) (h2E_BadMemory : PySem.W.findIn K (.ref E_BadMemory) "__getattr__" = some none) (h3E_BadMemory : PySem.W.findIn K (.ref E_BadMemory) "__class__" = some (some (.builtin "object.__class__"))) (h4E_BadMemory : PySem.W.mroIn K E_BadMemory (.type "object") = some true)
    (aE_BadSource : PySem.W.nsIn K mainGlobals "BadSource" = some (some (.ref E_BadSource))) (xE_BadSource : PySem.W.excIn K E_BadSource [.type "ValueError", .type "Exception", .type "BaseException", .type "object"] "ValueError.__new__" = true) (kE_BadSource : PySem.W.keepIn K (.ref E_BadSource) = true)
    (bE_BadSource : PySem.W.subIn K (.ref E_BadSource) (.type "BaseException") = some true) (tE_BadSource : PySem.W.typeIn K (.ref E_BadSource) = some (.type "type")) (dE_BadSource : PySem.W.hasDictIn K E_BadSource = true)
    (h1E_BadSource : PySem.W.findIn K (.ref E_BadSource) "__getattribute__" = some (some (.builtin "BaseException.__getattribute__"))) (h2E_BadSource : PySem.W.findIn K (.ref E_BadSource) "__getattr__" = some none) (h3E_BadSource : PySem.W.findIn K (.ref E_BadSource) "__class__" = some (some (.builtin "object.__class__"))) (h4E_BadSource : PySem.W.mroIn K E_BadSource (.type "object") = some true)
    (aE_BadStep : PySem.W.nsIn K mainGlobals "BadStep" = some (some (.ref E_BadStep))) (xE_BadStep : PySem.W.excIn K E_BadStep [.type "ValueError", .type "Exception", .type "BaseException", .type "object"] "ValueError.__new__" = true) (kE_BadStep : PySem.W.keepIn K (.ref E_BadStep) = true)
    (bE_BadStep : PySem.W.subIn K (.ref E_BadStep) (.type "BaseException") = some true) (tE_BadStep : PySem.W.typeIn K (.ref E_BadStep) = some (.type "type")) (dE_BadStep : PySem.W.hasDictIn K E_BadStep = true)
    (h1E_BadStep : PySem.W.findIn K (.ref E_BadStep) "__getattribute__" = some (some (.builtin "BaseException.__getattribute__"))) (h2E_BadStep : PySem.W.findIn K (.ref E_BadStep) "__getattr__" = some none) (h3E_BadStep : PySem.W.findIn K (.ref E_BadStep) "__class__" = some (some (.builtin "object.__class__"))) (h4E_BadStep : PySem.W.mroIn K E_BadStep (.type "object") = some true)
    (aE_BadTree : PySem.W.nsIn K mainGlobals "BadTree" = some (some (.ref E_BadTree))) (xE_BadTree : PySem.W.excIn K E_BadTree [.type "ValueError", .type "Exception", .type "BaseException", .type "object"] "ValueError.__new__" = true) (kE_BadTree : PySem.W.keepIn K (.ref E_BadTree) = true)
    (bE_BadTree : PySem.W.subIn K (.ref E_BadTree) (.type "BaseException") = some true) (tE_BadTree : PySem.W.typeIn K (.ref E_BadTree) = some (.type "type")) (dE_BadTree : PySem.W.hasDictIn K E_BadTree = true)
    (h1E_BadTree : PySem.W.findIn K (.ref E_BadTree) "__getattribute__" = some (some (.builtin "BaseException.__getattribute__"))) (h2E_BadTree : PySem.W.findIn K (.ref E_BadTree) "__getattr__" = some none) (h3E_BadTree : PySem.W.findIn K (.ref E_BadTree) "__class__" = some (some (.builtin "object.__class__"))) (h4E_BadTree : PySem.W.mroIn K E_BadTree (.type "object") = some true)
    (aE_TooLong : PySem.W.nsIn K mainGlobals "TooLong" = some (some (.ref E_TooLong))) (xE_TooLong : PySem.W.excIn K E_TooLong [.type "ValueError", .type "Exception", .type "BaseException", .type "object"] "ValueError.__new__" = true) (kE_TooLong : PySem.W.keepIn K (.ref E_TooLong) = true)
    (bE_TooLong : PySem.W.subIn K (.ref E_TooLong) (.type "BaseException") = some true) (tE_TooLong : PySem.W.typeIn K (.ref E_TooLong) = some (.type "type")) (dE_TooLong : PySem.W.hasDictIn K E_TooLong = true)
    (h1E_TooLong : PySem.W.findIn K (.ref E_TooLong) "__getattribute__" = some (some (.builtin "BaseException.__getattribute__"))) (h2E_TooLong : PySem.W.findIn K (.ref E_TooLong) "__getattr__" = some none) (h3E_TooLong : PySem.W.findIn K (.ref E_TooLong) "__class__" = some (some (.builtin "object.__class__"))) (h4E_TooLong : PySem.W.mroIn K E_TooLong (.type "object") = some true)
    (sE_BrimfulError_BrimfulError : PySem.W.subIn K (.ref E_BrimfulError) (.ref E_BrimfulError) = some true)
    (sE_BrimfulError_BadMemory : PySem.W.subIn K (.ref E_BrimfulError) (.ref E_BadMemory) = some false)
    (sE_BrimfulError_BadSource : PySem.W.subIn K (.ref E_BrimfulError) (.ref E_BadSource) = some false)
    (sE_BrimfulError_BadStep : PySem.W.subIn K (.ref E_BrimfulError) (.ref E_BadStep) = some false)
    (sE_BrimfulError_BadTree : PySem.W.subIn K (.ref E_BrimfulError) (.ref E_BadTree) = some false)
    (sE_BrimfulError_TooLong : PySem.W.subIn K (.ref E_BrimfulError) (.ref E_TooLong) = some false)
    (sE_BadMemory_BrimfulError : PySem.W.subIn K (.ref E_BadMemory) (.ref E_BrimfulError) = some true)
    (sE_BadMemory_BadMemory : PySem.W.subIn K (.ref E_BadMemory) (.ref E_BadMemory) = some true)
    (sE_BadMemory_BadSource : PySem.W.subIn K (.ref E_BadMemory) (.ref E_BadSource) = some false)
    (sE_BadMemory_BadStep : PySem.W.subIn K (.ref E_BadMemory) (.ref E_BadStep) = some false)
    (sE_BadMemory_BadTree : PySem.W.subIn K (.ref E_BadMemory) (.ref E_BadTree) = some false)
    (sE_BadMemory_TooLong : PySem.W.subIn K (.ref E_BadMemory) (.ref E_TooLong) = some false)
    (sE_BadSource_BrimfulError : PySem.W.subIn K (.ref E_BadSource) (.ref E_BrimfulError) = some true)
    (sE_BadSource_BadMemory : PySem.W.subIn K (.ref E_BadSource) (.ref E_BadMemory) = some false)
    (sE_BadSource_BadSource : PySem.W.subIn K (.ref E_BadSource) (.ref E_BadSource) = some true)
    (sE_BadSource_BadStep : PySem.W.subIn K (.ref E_BadSource) (.ref E_BadStep) = some false)
    (sE_BadSource_BadTree : PySem.W.subIn K (.ref E_BadSource) (.ref E_BadTree) = some false)
    (sE_BadSource_TooLong : PySem.W.subIn K (.ref E_BadSource) (.ref E_TooLong) = some false)
    (sE_BadStep_BrimfulError : PySem.W.subIn K (.ref E_BadStep) (.ref E_BrimfulError) = some true)
    (sE_BadStep_BadMemory : PySem.W.subIn K (.ref E_BadStep) (.ref E_BadMemory) = some false)
    (sE_BadStep_BadSource : PySem.W.subIn K (.ref E_BadStep) (.ref E_BadSource) = some false)
    (sE_BadStep_BadStep : PySem.W.subIn K (.ref E_BadStep) (.ref E_BadStep) = some true)
    (sE_BadStep_BadTree : PySem.W.subIn K (.ref E_BadStep) (.ref E_BadTree) = some false)
    (sE_BadStep_TooLong : PySem.W.subIn K (.ref E_BadStep) (.ref E_TooLong) = some false)
    (sE_BadTree_BrimfulError : PySem.W.subIn K (.ref E_BadTree) (.ref E_BrimfulError) = some true)
    (sE_BadTree_BadMemory : PySem.W.subIn K (.ref E_BadTree) (.ref E_BadMemory) = some false)
    (sE_BadTree_BadSource : PySem.W.subIn K (.ref E_BadTree) (.ref E_BadSource) = some false)
    (sE_BadTree_BadStep : PySem.W.subIn K (.ref E_BadTree) (.ref E_BadStep) = some false)
    (sE_BadTree_BadTree : PySem.W.subIn K (.ref E_BadTree) (.ref E_BadTree) = some true)
    (sE_BadTree_TooLong : PySem.W.subIn K (.ref E_BadTree) (.ref E_TooLong) = some false)
    (sE_TooLong_BrimfulError : PySem.W.subIn K (.ref E_TooLong) (.ref E_BrimfulError) = some true)
    (sE_TooLong_BadMemory : PySem.W.subIn K (.ref E_TooLong) (.ref E_BadMemory) = some false)
    (sE_TooLong_BadSource : PySem.W.subIn K (.ref E_TooLong) (.ref E_BadSource) = some false)
    (sE_TooLong_BadStep : PySem.W.subIn K (.ref E_TooLong) (.ref E_BadStep) = some false)
    (sE_TooLong_BadTree : PySem.W.subIn K (.ref E_TooLong) (.ref E_BadTree) = some false)
    (sE_TooLong_TooLong : PySem.W.subIn K (.ref E_TooLong) (.ref E_TooLong) = some true)
    (a0 : PySem.W.nsIn K mainGlobals "is_below" = some (some (.ref f0)))
    (l0 : K.lookup f0 = some ⟨oc0, od0, .func (PySem.W.fnOf "is_below" "is_below" (defArgs s_is_below) (defBody s_is_below) (defScope s_is_below) .none kV0 dc0 pm0 an0 cd0 ct0), sl0⟩)
    (c0 : PySem.W.codeIn K cd0 "is_below" = true) (k0 : PySem.W.keepIn K (.ref f0) = true)
    (a1 : PySem.W.nsIn K mainGlobals "is_prime" = some (some (.ref f1)))
    (l1 : K.lookup f1 = some ⟨oc1, od1, .func (PySem.W.fnOf "is_prime" "is_prime" (defArgs s_is_prime) (defBody s_is_prime) (defScope s_is_prime) .none kV1 dc1 pm1 an1 cd1 ct1), sl1⟩)
    (c1 : PySem.W.codeIn K cd1 "is_prime" = true) (k1 : PySem.W.keepIn K (.ref f1) = true)
    (a2 : PySem.W.nsIn K mainGlobals "is_table" = some (some (.ref f2)))
    (l2 : K.lookup f2 = some ⟨oc2, od2, .func (PySem.W.fnOf "is_table" "is_table" (defArgs s_is_table) (defBody s_is_table) (defScope s_is_table) .none kV2 dc2 pm2 an2 cd2 ct2), sl2⟩)
    (c2 : PySem.W.codeIn K cd2 "is_table" = true) (k2 : PySem.W.keepIn K (.ref f2) = true)
    (a3 : PySem.W.nsIn K mainGlobals "_is_row" = some (some (.ref f3)))
    (l3 : K.lookup f3 = some ⟨oc3, od3, .func (PySem.W.fnOf "_is_row" "_is_row" (defArgs s_is_row) (defBody s_is_row) (defScope s_is_row) .none kV3 dc3 pm3 an3 cd3 ct3), sl3⟩)
    (c3 : PySem.W.codeIn K cd3 "_is_row" = true) (k3 : PySem.W.keepIn K (.ref f3) = true)
    (a4 : PySem.W.nsIn K mainGlobals "check_tree" = some (some (.ref f4)))
    (l4 : K.lookup f4 = some ⟨oc4, od4, .func (PySem.W.fnOf "check_tree" "check_tree" (defArgs s_check_tree) (defBody s_check_tree) (defScope s_check_tree) .none kV4 dc4 pm4 an4 cd4 ct4), sl4⟩)
    (c4 : PySem.W.codeIn K cd4 "check_tree" = true) (k4 : PySem.W.keepIn K (.ref f4) = true)
    (a5 : PySem.W.nsIn K mainGlobals "_check_values" = some (some (.ref f5)))
    (l5 : K.lookup f5 = some ⟨oc5, od5, .func (PySem.W.fnOf "_check_values" "_check_values" (defArgs s_check_values) (defBody s_check_values) (defScope s_check_values) .none kV5 dc5 pm5 an5 cd5 ct5), sl5⟩)
    (c5 : PySem.W.codeIn K cd5 "_check_values" = true) (k5 : PySem.W.keepIn K (.ref f5) = true)
    (a6 : PySem.W.nsIn K mainGlobals "_is_tree" = some (some (.ref f6)))
    (l6 : K.lookup f6 = some ⟨oc6, od6, .func (PySem.W.fnOf "_is_tree" "_is_tree" (defArgs s_is_tree) (defBody s_is_tree) (defScope s_is_tree) .none kV6 dc6 pm6 an6 cd6 ct6), sl6⟩)
    (c6 : PySem.W.codeIn K cd6 "_is_tree" = true) (k6 : PySem.W.keepIn K (.ref f6) = true)
    (a7 : PySem.W.nsIn K mainGlobals "_is_part" = some (some (.ref f7)))
    (l7 : K.lookup f7 = some ⟨oc7, od7, .func (PySem.W.fnOf "_is_part" "_is_part" (defArgs s_is_part) (defBody s_is_part) (defScope s_is_part) .none kV7 dc7 pm7 an7 cd7 ct7), sl7⟩)
    (c7 : PySem.W.codeIn K cd7 "_is_part" = true) (k7 : PySem.W.keepIn K (.ref f7) = true)
    (a8 : PySem.W.nsIn K mainGlobals "tree_value" = some (some (.ref f8)))
    (l8 : K.lookup f8 = some ⟨oc8, od8, .func (PySem.W.fnOf "tree_value" "tree_value" (defArgs s_tree_value) (defBody s_tree_value) (defScope s_tree_value) .none kV8 dc8 pm8 an8 cd8 ct8), sl8⟩)
    (c8 : PySem.W.codeIn K cd8 "tree_value" = true) (k8 : PySem.W.keepIn K (.ref f8) = true)
    (a9 : PySem.W.nsIn K mainGlobals "prime_of" = some (some (.ref f9)))
    (l9 : K.lookup f9 = some ⟨oc9, od9, .func (PySem.W.fnOf "prime_of" "prime_of" (defArgs s_prime_of) (defBody s_prime_of) (defScope s_prime_of) .none kV9 dc9 pm9 an9 cd9 ct9), sl9⟩)
    (c9 : PySem.W.codeIn K cd9 "prime_of" = true) (k9 : PySem.W.keepIn K (.ref f9) = true)
    (a10 : PySem.W.nsIn K mainGlobals "tree_cost" = some (some (.ref f10)))
    (l10 : K.lookup f10 = some ⟨oc10, od10, .func (PySem.W.fnOf "tree_cost" "tree_cost" (defArgs s_tree_cost) (defBody s_tree_cost) (defScope s_tree_cost) .none kV10 dc10 pm10 an10 cd10 ct10), sl10⟩)
    (c10 : PySem.W.codeIn K cd10 "tree_cost" = true) (k10 : PySem.W.keepIn K (.ref f10) = true)
    (a11 : PySem.W.nsIn K mainGlobals "compile_tree" = some (some (.ref f11)))
    (l11 : K.lookup f11 = some ⟨oc11, od11, .func (PySem.W.fnOf "compile_tree" "compile_tree" (defArgs s_compile_tree) (defBody s_compile_tree) (defScope s_compile_tree) .none kV11 dc11 pm11 an11 cd11 ct11), sl11⟩)
    (c11 : PySem.W.codeIn K cd11 "compile_tree" = true) (k11 : PySem.W.keepIn K (.ref f11) = true)
    (a12 : PySem.W.nsIn K mainGlobals "_law_mixed" = some (some (.ref f12)))
    (l12 : K.lookup f12 = some ⟨oc12, od12, .func (PySem.W.fnOf "_law_mixed" "_law_mixed" (defArgs s_law_mixed) (defBody s_law_mixed) (defScope s_law_mixed) .none kV12 dc12 pm12 an12 cd12 ct12), sl12⟩)
    (c12 : PySem.W.codeIn K cd12 "_law_mixed" = true) (k12 : PySem.W.keepIn K (.ref f12) = true)
    (a13 : PySem.W.nsIn K mainGlobals "_law_numbers" = some (some (.ref f13)))
    (l13 : K.lookup f13 = some ⟨oc13, od13, .func (PySem.W.fnOf "_law_numbers" "_law_numbers" (defArgs s_law_numbers) (defBody s_law_numbers) (defScope s_law_numbers) .none kV13 dc13 pm13 an13 cd13 ct13), sl13⟩)
    (c13 : PySem.W.codeIn K cd13 "_law_numbers" = true) (k13 : PySem.W.keepIn K (.ref f13) = true)
    (a14 : PySem.W.nsIn K mainGlobals "_law_draw" = some (some (.ref f14)))
    (l14 : K.lookup f14 = some ⟨oc14, od14, .func (PySem.W.fnOf "_law_draw" "_law_draw" (defArgs s_law_draw) (defBody s_law_draw) (defScope s_law_draw) .none kV14 dc14 pm14 an14 cd14 ct14), sl14⟩)
    (c14 : PySem.W.codeIn K cd14 "_law_draw" = true) (k14 : PySem.W.keepIn K (.ref f14) = true)
    (a15 : PySem.W.nsIn K mainGlobals "_law_table" = some (some (.ref f15)))
    (l15 : K.lookup f15 = some ⟨oc15, od15, .func (PySem.W.fnOf "_law_table" "_law_table" (defArgs s_law_table) (defBody s_law_table) (defScope s_law_table) .none kV15 dc15 pm15 an15 cd15 ct15), sl15⟩)
    (c15 : PySem.W.codeIn K cd15 "_law_table" = true) (k15 : PySem.W.keepIn K (.ref f15) = true)
    (a16 : PySem.W.nsIn K mainGlobals "_law_tree" = some (some (.ref f16)))
    (l16 : K.lookup f16 = some ⟨oc16, od16, .func (PySem.W.fnOf "_law_tree" "_law_tree" (defArgs s_law_tree) (defBody s_law_tree) (defScope s_law_tree) .none kV16 dc16 pm16 an16 cd16 ct16), sl16⟩)
    (c16 : PySem.W.codeIn K cd16 "_law_tree" = true) (k16 : PySem.W.keepIn K (.ref f16) = true)
    (a17 : PySem.W.nsIn K mainGlobals "_law_bad_number" = some (some (.ref f17)))
    (l17 : K.lookup f17 = some ⟨oc17, od17, .func (PySem.W.fnOf "_law_bad_number" "_law_bad_number" (defArgs s_law_bad_number) (defBody s_law_bad_number) (defScope s_law_bad_number) .none kV17 dc17 pm17 an17 cd17 ct17), sl17⟩)
    (c17 : PySem.W.codeIn K cd17 "_law_bad_number" = true) (k17 : PySem.W.keepIn K (.ref f17) = true)
    (a18 : PySem.W.nsIn K mainGlobals "_law_bad_table" = some (some (.ref f18)))
    (l18 : K.lookup f18 = some ⟨oc18, od18, .func (PySem.W.fnOf "_law_bad_table" "_law_bad_table" (defArgs s_law_bad_table) (defBody s_law_bad_table) (defScope s_law_bad_table) .none kV18 dc18 pm18 an18 cd18 ct18), sl18⟩)
    (c18 : PySem.W.codeIn K cd18 "_law_bad_table" = true) (k18 : PySem.W.keepIn K (.ref f18) = true)
    (a19 : PySem.W.nsIn K mainGlobals "_law_spoilt" = some (some (.ref f19)))
    (l19 : K.lookup f19 = some ⟨oc19, od19, .func (PySem.W.fnOf "_law_spoilt" "_law_spoilt" (defArgs s_law_spoilt) (defBody s_law_spoilt) (defScope s_law_spoilt) .none kV19 dc19 pm19 an19 cd19 ct19), sl19⟩)
    (c19 : PySem.W.codeIn K cd19 "_law_spoilt" = true) (k19 : PySem.W.keepIn K (.ref f19) = true)
    (a20 : PySem.W.nsIn K mainGlobals "_law_comb" = some (some (.ref f20)))
    (l20 : K.lookup f20 = some ⟨oc20, od20, .func (PySem.W.fnOf "_law_comb" "_law_comb" (defArgs s_law_comb) (defBody s_law_comb) (defScope s_law_comb) .none kV20 dc20 pm20 an20 cd20 ct20), sl20⟩)
    (c20 : PySem.W.codeIn K cd20 "_law_comb" = true) (k20 : PySem.W.keepIn K (.ref f20) = true)
    (a21 : PySem.W.nsIn K mainGlobals "_law_broad" = some (some (.ref f21)))
    (l21 : K.lookup f21 = some ⟨oc21, od21, .func (PySem.W.fnOf "_law_broad" "_law_broad" (defArgs s_law_broad) (defBody s_law_broad) (defScope s_law_broad) .none kV21 dc21 pm21 an21 cd21 ct21), sl21⟩)
    (c21 : PySem.W.codeIn K cd21 "_law_broad" = true) (k21 : PySem.W.keepIn K (.ref f21) = true)
    (a22 : PySem.W.nsIn K mainGlobals "_law_refused" = some (some (.ref f22)))
    (l22 : K.lookup f22 = some ⟨oc22, od22, .func (PySem.W.fnOf "_law_refused" "_law_refused" (defArgs s_law_refused) (defBody s_law_refused) (defScope s_law_refused) .none kV22 dc22 pm22 an22 cd22 ct22), sl22⟩)
    (c22 : PySem.W.codeIn K cd22 "_law_refused" = true) (k22 : PySem.W.keepIn K (.ref f22) = true)
    (a23 : PySem.W.nsIn K mainGlobals "_law_given" = some (some (.ref f23)))
    (l23 : K.lookup f23 = some ⟨oc23, od23, .func (PySem.W.fnOf "_law_given" "_law_given" (defArgs s_law_given) (defBody s_law_given) (defScope s_law_given) .none kV23 dc23 pm23 an23 cd23 ct23), sl23⟩)
    (c23 : PySem.W.codeIn K cd23 "_law_given" = true) (k23 : PySem.W.keepIn K (.ref f23) = true)
    (a24 : PySem.W.nsIn K mainGlobals "law" = some (some (.ref f24)))
    (l24 : K.lookup f24 = some ⟨oc24, od24, .func (PySem.W.fnOf "law" "law" (defArgs s_law) (defBody s_law) (defScope s_law) .none kV24 dc24 pm24 an24 cd24 ct24), sl24⟩)
    (c24 : PySem.W.codeIn K cd24 "law" = true) (k24 : PySem.W.keepIn K (.ref f24) = true)
    (z_all : PySem.W.nsIn K mainGlobals "all" = some none)
    (z_bool : PySem.W.nsIn K mainGlobals "bool" = some none)
    (z_int : PySem.W.nsIn K mainGlobals "int" = some none)
    (z_isinstance : PySem.W.nsIn K mainGlobals "isinstance" = some none)
    (z_len : PySem.W.nsIn K mainGlobals "len" = some none)
    (z_list : PySem.W.nsIn K mainGlobals "list" = some none)
    (z_max : PySem.W.nsIn K mainGlobals "max" = some none)
    (z_min : PySem.W.nsIn K mainGlobals "min" = some none)
    (z_range : PySem.W.nsIn K mainGlobals "range" = some none)
    (z_tuple : PySem.W.nsIn K mainGlobals "tuple" = some none)
    (z_isqrt : PySem.W.nsIn K mainGlobals "isqrt" = some (some (.builtin "math.isqrt")))
    (z_CELLS : PySem.W.nsIn K mainGlobals "CELLS" = some (some (.int 3 t_CELLS)))
    (z_LEAST_PRIME : PySem.W.nsIn K mainGlobals "LEAST_PRIME" = some (some (.int 3 t_LEAST_PRIME)))
    (z_MOST_DEPTH : PySem.W.nsIn K mainGlobals "MOST_DEPTH" = some (some (.int 40 t_MOST_DEPTH)))
    (z_MOST_NODES : PySem.W.nsIn K mainGlobals "MOST_NODES" = some (some (.int 200 t_MOST_NODES)))
    (z_MOST_STEPS : PySem.W.nsIn K mainGlobals "MOST_STEPS" = some (some (.int 20000 t_MOST_STEPS)))
    (z_MOST_VALUES : PySem.W.nsIn K mainGlobals "MOST_VALUES" = some (some (.int 40 t_MOST_VALUES)))
    : ∃ fd : FuncData, (∀ (s : Shared) (v : Value), BindsTo s fd ⟨[v], []⟩ [("script", v)]) ∧ ∀ base : Heap, K.In base → base.Ns mainGlobals mg → FnOk l.prog w K mg base CX0 12 fa fd ["script"] (sp_law K) := by
  have e := hfa.symm.trans (PySem.W.mg_of X G a24)
  cases e
  have F0 := fun_mk (st := s_is_below) l0 c0 k0
  have b0 := F0.binds (ps := ["value", "bound"]) fun _ _ _ _ _ _ us hl => match us, hl with | [_, _], _ => rfl
  have F1 := fun_mk (st := s_is_prime) l1 c1 k1
  have b1 := F1.binds (ps := ["n"]) fun _ _ _ _ _ _ us hl => match us, hl with | [_], _ => rfl
  have F2 := fun_mk (st := s_is_table) l2 c2 k2
  have b2 := F2.binds (ps := ["table", "modulus"]) fun _ _ _ _ _ _ us hl => match us, hl with | [_, _], _ => rfl
  have F3 := fun_mk (st := s_is_row) l3 c3 k3
  have b3 := F3.binds (ps := ["row", "size", "modulus"]) fun _ _ _ _ _ _ us hl => match us, hl with | [_, _, _], _ => rfl
  have F4 := fun_mk (st := s_check_tree) l4 c4 k4
  have b4 := F4.binds (ps := ["tree", "values"]) fun _ _ _ _ _ _ us hl => match us, hl with | [_, _], _ => rfl
  have F5 := fun_mk (st := s_check_values) l5 c5 k5
  have b5 := F5.binds (ps := ["values"]) fun _ _ _ _ _ _ us hl => match us, hl with | [_], _ => rfl
  have F6 := fun_mk (st := s_is_tree) l6 c6 k6
  have b6 := F6.binds (ps := ["tree", "values"]) fun _ _ _ _ _ _ us hl => match us, hl with | [_, _], _ => rfl
  have F7 := fun_mk (st := s_is_part) l7 c7 k7
  have b7 := F7.binds (ps := ["part", "values"]) fun _ _ _ _ _ _ us hl => match us, hl with | [_, _], _ => rfl
  have F8 := fun_mk (st := s_tree_value) l8 c8 k8
  have b8 := F8.binds (ps := ["tree", "values"]) fun _ _ _ _ _ _ us hl => match us, hl with | [_, _], _ => rfl
  have F9 := fun_mk (st := s_prime_of) l9 c9 k9
  have b9 := F9.binds (ps := ["values"]) fun _ _ _ _ _ _ us hl => match us, hl with | [_], _ => rfl
  have F10 := fun_mk (st := s_tree_cost) l10 c10 k10
  have b10 := F10.binds (ps := ["tree", "values"]) fun _ _ _ _ _ _ us hl => match us, hl with | [_, _], _ => rfl
  have F11 := fun_mk (st := s_compile_tree) l11 c11 k11
  have b11 := F11.binds (ps := ["tree", "values"]) fun _ _ _ _ _ _ us hl => match us, hl with | [_, _], _ => rfl
  have F12 := fun_mk (st := s_law_mixed) l12 c12 k12
  have b12 := F12.binds (ps := ["number", "k"]) fun _ _ _ _ _ _ us hl => match us, hl with | [_, _], _ => rfl
  have F13 := fun_mk (st := s_law_numbers) l13 c13 k13
  have b13 := F13.binds (ps := ["script"]) fun _ _ _ _ _ _ us hl => match us, hl with | [_], _ => rfl
  have F14 := fun_mk (st := s_law_draw) l14 c14 k14
  have b14 := F14.binds (ps := ["draws"]) fun _ _ _ _ _ _ us hl => match us, hl with | [_], _ => rfl
  have F15 := fun_mk (st := s_law_table) l15 c15 k15
  have b15 := F15.binds (ps := ["draws", "values"]) fun _ _ _ _ _ _ us hl => match us, hl with | [_, _], _ => rfl
  have F16 := fun_mk (st := s_law_tree) l16 c16 k16
  have b16 := F16.binds (ps := ["draws", "values", "deep", "left"]) fun _ _ _ _ _ _ us hl => match us, hl with | [_, _, _, _], _ => rfl
  have F17 := fun_mk (st := s_law_bad_number) l17 c17 k17
  have b17 := F17.binds (ps := ["draws", "values"]) fun _ _ _ _ _ _ us hl => match us, hl with | [_, _], _ => rfl
  have F18 := fun_mk (st := s_law_bad_table) l18 c18 k18
  have b18 := F18.binds (ps := ["draws", "table", "values"]) fun _ _ _ _ _ _ us hl => match us, hl with | [_, _, _], _ => rfl
  have F19 := fun_mk (st := s_law_spoilt) l19 c19 k19
  have b19 := F19.binds (ps := ["draws", "tree", "values"]) fun _ _ _ _ _ _ us hl => match us, hl with | [_, _, _], _ => rfl
  have F20 := fun_mk (st := s_law_comb) l20 c20 k20
  have b20 := F20.binds (ps := ["levels"]) fun _ _ _ _ _ _ us hl => match us, hl with | [_], _ => rfl
  have F21 := fun_mk (st := s_law_broad) l21 c21 k21
  have b21 := F21.binds (ps := ["leaves"]) fun _ _ _ _ _ _ us hl => match us, hl with | [_], _ => rfl
  have F22 := fun_mk (st := s_law_refused) l22 c22 k22
  have b22 := F22.binds (ps := ["tree", "values", "which"]) fun _ _ _ _ _ _ us hl => match us, hl with | [_, _, _], _ => rfl
  have F23 := fun_mk (st := s_law_given) l23 c23 k23
  have b23 := F23.binds (ps := ["draws"]) fun _ _ _ _ _ _ us hl => match us, hl with | [_], _ => rfl
  have F24 := fun_mk (st := s_law) l24 c24 k24
  have b24 := F24.binds (ps := ["script"]) fun _ _ _ _ _ _ us hl => match us, hl with | [_], _ => rfl
  exact ⟨PySem.W.fnOf "law" "law" (defArgs s_law) (defBody s_law) (defScope s_law) .none kV24 dc24 pm24 an24 cd24 ct24, fun s v => .of_eq rfl, fun base _ _ => ok_law (⟨_, _, F0, b0, PySem.W.mg_of X G a0, _, _, F1, b1, PySem.W.mg_of X G a1, _, _, F2, b2, PySem.W.mg_of X G a2, _, _, F3, b3, PySem.W.mg_of X G a3, _, _, F4, b4, PySem.W.mg_of X G a4, _, _, F5, b5, PySem.W.mg_of X G a5, _, _, F6, b6, PySem.W.mg_of X G a6, _, _, F7, b7, PySem.W.mg_of X G a7, _, _, F8, b8, PySem.W.mg_of X G a8, _, _, F9, b9, PySem.W.mg_of X G a9, _, _, F10, b10, PySem.W.mg_of X G a10, _, _, F11, b11, PySem.W.mg_of X G a11, _, _, F12, b12, PySem.W.mg_of X G a12, _, _, F13, b13, PySem.W.mg_of X G a13, _, _, F14, b14, PySem.W.mg_of X G a14, _, _, F15, b15, PySem.W.mg_of X G a15, _, _, F16, b16, PySem.W.mg_of X G a16, _, _, F17, b17, PySem.W.mg_of X G a17, _, _, F18, b18, PySem.W.mg_of X G a18, _, _, F19, b19, PySem.W.mg_of X G a19, _, _, F20, b20, PySem.W.mg_of X G a20, _, _, F21, b21, PySem.W.mg_of X G a21, _, _, F22, b22, PySem.W.mg_of X G a22, _, _, F23, b23, PySem.W.mg_of X G a23, _, _, F24, b24, PySem.W.mg_of X G a24, E_BrimfulError, PySem.W.mg_of X G aE_BrimfulError, xE_BrimfulError, kE_BrimfulError, bE_BrimfulError, tE_BrimfulError, dE_BrimfulError, ⟨h1E_BrimfulError, h2E_BrimfulError, bE_BrimfulError, dE_BrimfulError, h3E_BrimfulError, hnE, htE, h4E_BrimfulError⟩, E_BadMemory, PySem.W.mg_of X G aE_BadMemory, xE_BadMemory, kE_BadMemory, bE_BadMemory, tE_BadMemory, dE_BadMemory, ⟨h1E_BadMemory, h2E_BadMemory, bE_BadMemory, dE_BadMemory, h3E_BadMemory, hnE, htE, h4E_BadMemory⟩, E_BadSource, PySem.W.mg_of X G aE_BadSource, xE_BadSource, kE_BadSource, bE_BadSource, tE_BadSource, dE_BadSource, ⟨h1E_BadSource, h2E_BadSource, bE_BadSource, dE_BadSource, h3E_BadSource, hnE, htE, h4E_BadSource⟩, E_BadStep, PySem.W.mg_of X G aE_BadStep, xE_BadStep, kE_BadStep, bE_BadStep, tE_BadStep, dE_BadStep, ⟨h1E_BadStep, h2E_BadStep, bE_BadStep, dE_BadStep, h3E_BadStep, hnE, htE, h4E_BadStep⟩, E_BadTree, PySem.W.mg_of X G aE_BadTree, xE_BadTree, kE_BadTree, bE_BadTree, tE_BadTree, dE_BadTree, ⟨h1E_BadTree, h2E_BadTree, bE_BadTree, dE_BadTree, h3E_BadTree, hnE, htE, h4E_BadTree⟩, E_TooLong, PySem.W.mg_of X G aE_TooLong, xE_TooLong, kE_TooLong, bE_TooLong, tE_TooLong, dE_TooLong, ⟨h1E_TooLong, h2E_TooLong, bE_TooLong, dE_TooLong, h3E_TooLong, hnE, htE, h4E_TooLong⟩, sE_BrimfulError_BrimfulError, sE_BrimfulError_BadMemory, sE_BrimfulError_BadSource, sE_BrimfulError_BadStep, sE_BrimfulError_BadTree, sE_BrimfulError_TooLong, sE_BadMemory_BrimfulError, sE_BadMemory_BadMemory, sE_BadMemory_BadSource, sE_BadMemory_BadStep, sE_BadMemory_BadTree, sE_BadMemory_TooLong, sE_BadSource_BrimfulError, sE_BadSource_BadMemory, sE_BadSource_BadSource, sE_BadSource_BadStep, sE_BadSource_BadTree, sE_BadSource_TooLong, sE_BadStep_BrimfulError, sE_BadStep_BadMemory, sE_BadStep_BadSource, sE_BadStep_BadStep, sE_BadStep_BadTree, sE_BadStep_TooLong, sE_BadTree_BrimfulError, sE_BadTree_BadMemory, sE_BadTree_BadSource, sE_BadTree_BadStep, sE_BadTree_BadTree, sE_BadTree_TooLong, sE_TooLong_BrimfulError, sE_TooLong_BadMemory, sE_TooLong_BadSource, sE_TooLong_BadStep, sE_TooLong_BadTree, sE_TooLong_TooLong, PySem.W.mg_none_of X G z_all, PySem.W.mg_none_of X G z_bool, PySem.W.mg_none_of X G z_int, PySem.W.mg_none_of X G z_isinstance, PySem.W.mg_none_of X G z_len, PySem.W.mg_none_of X G z_list, PySem.W.mg_none_of X G z_max, PySem.W.mg_none_of X G z_min, PySem.W.mg_none_of X G z_range, PySem.W.mg_none_of X G z_tuple, PySem.W.mg_of X G z_isqrt, _, PySem.W.mg_of X G z_CELLS, _, PySem.W.mg_of X G z_LEAST_PRIME, _, PySem.W.mg_of X G z_MOST_DEPTH, _, PySem.W.mg_of X G z_MOST_NODES, _, PySem.W.mg_of X G z_MOST_STEPS, _, PySem.W.mg_of X G z_MOST_VALUES⟩ : Txt K mg)⟩
end
end Br
open PySem PySem.W PyProof.Rows
set_option maxRecDepth 100000 in
set_option maxHeartbeats 0 in
theorem PySem.Challenge.cw_brimful_k37_trees_are_checked_holds : PySem.Challenge.rw_brimful_k37_trees_are_checked.Holds := by
  w_on; o_law; k_head; (case hw => w_witness2)
  k_fill
  refine L2.walk_of (l := PySem.Challenge.rw_brimful_k37_trees_are_checked) (n := 63) (k := 12) (x := "script") (CX := fun _ => L2.CX0) (sp := fun w => Br.sp_law _) rfl (by decide) rfl ⟨rfl, by decide, by decide⟩ (fun w h Y => PySem.W.kIn_of Y) ?F (fun _ _ a ns hl _ hS => ⟨a, ns, rfl, hS, hl, fun _ => rfl⟩) (fun _ _ _ _ _ h => h)
  case F =>
    intro w mg fa h KX G hmg
    refine' Br.all_mk KX G hmg ?hnE ?htE ?aE_BrimfulError ?xE_BrimfulError ?kE_BrimfulError ?bE_BrimfulError ?tE_BrimfulError ?dE_BrimfulError ?h1E_BrimfulError ?h2E_BrimfulError ?h3E_BrimfulError ?h4E_BrimfulError ?aE_BadMemory ?xE_BadMemory ?kE_BadMemory ?bE_BadMemory ?tE_BadMemory ?dE_BadMemory ?h1E_BadMemory ?h2E_BadMemory ?h3E_BadMemory ?h4E_BadMemory ?aE_BadSource ?xE_BadSource ?kE_BadSource ?bE_BadSource ?tE_BadSource ?dE_BadSource ?h1E_BadSource ?h2E_BadSource ?h3E_BadSource ?h4E_BadSource ?aE_BadStep ?xE_BadStep ?kE_BadStep ?bE_BadStep ?tE_BadStep ?dE_BadStep ?h1E_BadStep ?h2E_BadStep ?h3E_BadStep ?h4E_BadStep ?aE_BadTree ?xE_BadTree ?kE_BadTree ?bE_BadTree ?tE_BadTree ?dE_BadTree ?h1E_BadTree ?h2E_BadTree ?h3E_BadTree ?h4E_BadTree ?aE_TooLong ?xE_TooLong ?kE_TooLong ?bE_TooLong ?tE_TooLong ?dE_TooLong ?h1E_TooLong ?h2E_TooLong ?h3E_TooLong ?h4E_TooLong ?sE_BrimfulError_BrimfulError ?sE_BrimfulError_BadMemory ?sE_BrimfulError_BadSource ?sE_BrimfulError_BadStep ?sE_BrimfulError_BadTree ?sE_BrimfulError_TooLong ?sE_BadMemory_BrimfulError ?sE_BadMemory_BadMemory ?sE_BadMemory_BadSource ?sE_BadMemory_BadStep ?sE_BadMemory_BadTree ?sE_BadMemory_TooLong ?sE_BadSource_BrimfulError ?sE_BadSource_BadMemory ?sE_BadSource_BadSource ?sE_BadSource_BadStep ?sE_BadSource_BadTree ?sE_BadSource_TooLong ?sE_BadStep_BrimfulError ?sE_BadStep_BadMemory ?sE_BadStep_BadSource ?sE_BadStep_BadStep ?sE_BadStep_BadTree ?sE_BadStep_TooLong ?sE_BadTree_BrimfulError ?sE_BadTree_BadMemory ?sE_BadTree_BadSource ?sE_BadTree_BadStep ?sE_BadTree_BadTree ?sE_BadTree_TooLong ?sE_TooLong_BrimfulError ?sE_TooLong_BadMemory ?sE_TooLong_BadSource ?sE_TooLong_BadStep ?sE_TooLong_BadTree ?sE_TooLong_TooLong ?a0 ?l0 ?c0 ?k0 ?a1 ?l1 ?c1 ?k1 ?a2 ?l2 ?c2 ?k2 ?a3 ?l3 ?c3 ?k3 ?a4 ?l4 ?c4 ?k4 ?a5 ?l5 ?c5 ?k5 ?a6 ?l6 ?c6 ?k6 ?a7 ?l7 ?c7 ?k7 ?a8 ?l8 ?c8 ?k8 ?a9 ?l9 ?c9 ?k9 ?a10 ?l10 ?c10 ?k10 ?a11 ?l11 ?c11 ?k11 ?a12 ?l12 ?c12 ?k12 ?a13 ?l13 ?c13 ?k13 ?a14 ?l14 ?c14 ?k14 ?a15 ?l15 ?c15 ?k15 ?a16 ?l16 ?c16 ?k16 ?a17 ?l17 ?c17 ?k17 ?a18 ?l18 ?c18 ?k18 ?a19 ?l19 ?c19 ?k19 ?a20 ?l20 ?c20 ?k20 ?a21 ?l21 ?c21 ?k21 ?a22 ?l22 ?c22 ?k22 ?a23 ?l23 ?c23 ?k23 ?a24 ?l24 ?c24 ?k24 ?z_all ?z_bool ?z_int ?z_isinstance ?z_len ?z_list ?z_max ?z_min ?z_range ?z_tuple ?z_isqrt ?z_CELLS ?z_LEAST_PRIME ?z_MOST_DEPTH ?z_MOST_NODES ?z_MOST_STEPS ?z_MOST_VALUES
    (case hnE => k_is)
    (case htE => k_is)
    (case aE_BrimfulError => k_is)
    (case xE_BrimfulError => k_exc)
    (case kE_BrimfulError => k_is)
    (case bE_BrimfulError => k_is)
    (case tE_BrimfulError => k_is)
    (case dE_BrimfulError => k_is)
    (case h1E_BrimfulError => k_is)
    (case h2E_BrimfulError => k_is)
    (case h3E_BrimfulError => k_is)
    (case h4E_BrimfulError => k_is)
    (case aE_BadMemory => k_is)
    (case xE_BadMemory => k_exc)
    (case kE_BadMemory => k_is)
    (case bE_BadMemory => k_is)
    (case tE_BadMemory => k_is)
    (case dE_BadMemory => k_is)
    (case h1E_BadMemory => k_is)
    (case h2E_BadMemory => k_is)
    (case h3E_BadMemory => k_is)
    (case h4E_BadMemory => k_is)
    (case aE_BadSource => k_is)
    (case xE_BadSource => k_exc)
    (case kE_BadSource => k_is)
    (case bE_BadSource => k_is)
    (case tE_BadSource => k_is)
    (case dE_BadSource => k_is)
    (case h1E_BadSource => k_is)
    (case h2E_BadSource => k_is)
    (case h3E_BadSource => k_is)
    (case h4E_BadSource => k_is)
    (case aE_BadStep => k_is)
    (case xE_BadStep => k_exc)
    (case kE_BadStep => k_is)
    (case bE_BadStep => k_is)
    (case tE_BadStep => k_is)
    (case dE_BadStep => k_is)
    (case h1E_BadStep => k_is)
    (case h2E_BadStep => k_is)
    (case h3E_BadStep => k_is)
    (case h4E_BadStep => k_is)
    (case aE_BadTree => k_is)
    (case xE_BadTree => k_exc)
    (case kE_BadTree => k_is)
    (case bE_BadTree => k_is)
    (case tE_BadTree => k_is)
    (case dE_BadTree => k_is)
    (case h1E_BadTree => k_is)
    (case h2E_BadTree => k_is)
    (case h3E_BadTree => k_is)
    (case h4E_BadTree => k_is)
    (case aE_TooLong => k_is)
    (case xE_TooLong => k_exc)
    (case kE_TooLong => k_is)
    (case bE_TooLong => k_is)
    (case tE_TooLong => k_is)
    (case dE_TooLong => k_is)
    (case h1E_TooLong => k_is)
    (case h2E_TooLong => k_is)
    (case h3E_TooLong => k_is)
    (case h4E_TooLong => k_is)
    (case sE_BrimfulError_BrimfulError => first | rfl | k_is)
    (case sE_BrimfulError_BadMemory => first | rfl | k_is)
    (case sE_BrimfulError_BadSource => first | rfl | k_is)
    (case sE_BrimfulError_BadStep => first | rfl | k_is)
    (case sE_BrimfulError_BadTree => first | rfl | k_is)
    (case sE_BrimfulError_TooLong => first | rfl | k_is)
    (case sE_BadMemory_BrimfulError => first | rfl | k_is)
    (case sE_BadMemory_BadMemory => first | rfl | k_is)
    (case sE_BadMemory_BadSource => first | rfl | k_is)
    (case sE_BadMemory_BadStep => first | rfl | k_is)
    (case sE_BadMemory_BadTree => first | rfl | k_is)
    (case sE_BadMemory_TooLong => first | rfl | k_is)
    (case sE_BadSource_BrimfulError => first | rfl | k_is)
    (case sE_BadSource_BadMemory => first | rfl | k_is)
    (case sE_BadSource_BadSource => first | rfl | k_is)
    (case sE_BadSource_BadStep => first | rfl | k_is)
    (case sE_BadSource_BadTree => first | rfl | k_is)
    (case sE_BadSource_TooLong => first | rfl | k_is)
    (case sE_BadStep_BrimfulError => first | rfl | k_is)
    (case sE_BadStep_BadMemory => first | rfl | k_is)
    (case sE_BadStep_BadSource => first | rfl | k_is)
    (case sE_BadStep_BadStep => first | rfl | k_is)
    (case sE_BadStep_BadTree => first | rfl | k_is)
    (case sE_BadStep_TooLong => first | rfl | k_is)
    (case sE_BadTree_BrimfulError => first | rfl | k_is)
    (case sE_BadTree_BadMemory => first | rfl | k_is)
    (case sE_BadTree_BadSource => first | rfl | k_is)
    (case sE_BadTree_BadStep => first | rfl | k_is)
    (case sE_BadTree_BadTree => first | rfl | k_is)
    (case sE_BadTree_TooLong => first | rfl | k_is)
    (case sE_TooLong_BrimfulError => first | rfl | k_is)
    (case sE_TooLong_BadMemory => first | rfl | k_is)
    (case sE_TooLong_BadSource => first | rfl | k_is)
    (case sE_TooLong_BadStep => first | rfl | k_is)
    (case sE_TooLong_BadTree => first | rfl | k_is)
    (case sE_TooLong_TooLong => first | rfl | k_is)
    (case a0 => k_is)
    (case l0 => k_is)
    (case c0 => k_is)
    (case k0 => k_is)
    (case a1 => k_is)
    (case l1 => k_is)
    (case c1 => k_is)
    (case k1 => k_is)
    (case a2 => k_is)
    (case l2 => k_is)
    (case c2 => k_is)
    (case k2 => k_is)
    (case a3 => k_is)
    (case l3 => k_is)
    (case c3 => k_is)
    (case k3 => k_is)
    (case a4 => k_is)
    (case l4 => k_is)
    (case c4 => k_is)
    (case k4 => k_is)
    (case a5 => k_is)
    (case l5 => k_is)
    (case c5 => k_is)
    (case k5 => k_is)
    (case a6 => k_is)
    (case l6 => k_is)
    (case c6 => k_is)
    (case k6 => k_is)
    (case a7 => k_is)
    (case l7 => k_is)
    (case c7 => k_is)
    (case k7 => k_is)
    (case a8 => k_is)
    (case l8 => k_is)
    (case c8 => k_is)
    (case k8 => k_is)
    (case a9 => k_is)
    (case l9 => k_is)
    (case c9 => k_is)
    (case k9 => k_is)
    (case a10 => k_is)
    (case l10 => k_is)
    (case c10 => k_is)
    (case k10 => k_is)
    (case a11 => k_is)
    (case l11 => k_is)
    (case c11 => k_is)
    (case k11 => k_is)
    (case a12 => k_is)
    (case l12 => k_is)
    (case c12 => k_is)
    (case k12 => k_is)
    (case a13 => k_is)
    (case l13 => k_is)
    (case c13 => k_is)
    (case k13 => k_is)
    (case a14 => k_is)
    (case l14 => k_is)
    (case c14 => k_is)
    (case k14 => k_is)
    (case a15 => k_is)
    (case l15 => k_is)
    (case c15 => k_is)
    (case k15 => k_is)
    (case a16 => k_is)
    (case l16 => k_is)
    (case c16 => k_is)
    (case k16 => k_is)
    (case a17 => k_is)
    (case l17 => k_is)
    (case c17 => k_is)
    (case k17 => k_is)
    (case a18 => k_is)
    (case l18 => k_is)
    (case c18 => k_is)
    (case k18 => k_is)
    (case a19 => k_is)
    (case l19 => k_is)
    (case c19 => k_is)
    (case k19 => k_is)
    (case a20 => k_is)
    (case l20 => k_is)
    (case c20 => k_is)
    (case k20 => k_is)
    (case a21 => k_is)
    (case l21 => k_is)
    (case c21 => k_is)
    (case k21 => k_is)
    (case a22 => k_is)
    (case l22 => k_is)
    (case c22 => k_is)
    (case k22 => k_is)
    (case a23 => k_is)
    (case l23 => k_is)
    (case c23 => k_is)
    (case k23 => k_is)
    (case a24 => k_is)
    (case l24 => k_is)
    (case c24 => k_is)
    (case k24 => k_is)
    (case z_all => k_is)
    (case z_bool => k_is)
    (case z_int => k_is)
    (case z_isinstance => k_is)
    (case z_len => k_is)
    (case z_list => k_is)
    (case z_max => k_is)
    (case z_min => k_is)
    (case z_range => k_is)
    (case z_tuple => k_is)
    (case z_isqrt => k_is)
    (case z_CELLS => k_is)
    (case z_LEAST_PRIME => k_is)
    (case z_MOST_DEPTH => k_is)
    (case z_MOST_NODES => k_is)
    (case z_MOST_STEPS => k_is)
    (case z_MOST_VALUES => k_is)
