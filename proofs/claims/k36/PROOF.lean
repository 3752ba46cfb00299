import PyProof.Rows.All
import Wide.All
import OpenK.AllK
import Wide.FinOn
import HandS.ForMost
import HandS.Gcd
import HandS.Wide
import HandS.IsInst
import HandS.Steps
import HandS.SortKw
import HandS.Style
import HandS.Star
import HandS.SetFor
import HandS.TupAny
import PyProof.SetRoads
import PyProof.Rows.SetFrom
import KE.DataMinMax
import HandS.Evl
import HandS.Walk
import HandS.ForExc
import HandS.ExcIs
import HandS.RaiseMore
import HandS.FStr
import KE.GoesEnum
import PyProof.Rows.MatchSeqLen
import Flt.RightSqrt
import PySem.Challenge.RW_brimful_k36_whole_sources_on_borrowed_bi
set_option Elab.async false
set_option linter.all false
set_option maxRecDepth 100000
set_option maxHeartbeats 4000000

namespace Br
open PySem PySem.Spec PyProof.Rows L2

/-! ### readings with names -/
def rLen (K : PySem.W.Frag) : List V → Hp → VK → Prop := fun xs H Q => ∃ p ys, xs = [.ref p] ∧ (SqL K H p ys ∨ SqT K H p ys) ∧ Q (.int ys.length) H
theorem cr_len {X : Cx} : CallR X (.builtin "len") (rLen X.K) := call_len_seq
def rInt1 : List V → Hp → VK → Prop := fun xs H Q => (∃ i, xs = [.int i] ∧ Q (.int i) H) ∨ ∃ k, xs = [.bl k] ∧ Q (.int (if k then 1 else 0)) H
theorem cr_int1 {X : Cx} : CallR X (.type "int") rInt1 := call_int1
def rMin2 : List V → Hp → VK → Prop := fun xs H Q => ∃ i j, xs = [.int i, .int j] ∧ Q (.int (if j < i then j else i)) H
theorem cr_min2 {X : Cx} (hc : X.calm = true) : CallR X (.builtin "min") rMin2 := call_min2 hc
def rMax2 : List V → Hp → VK → Prop := fun xs H Q => ∃ i j, xs = [.int i, .int j] ∧ Q (.int (if j > i then j else i)) H
theorem cr_max2 {X : Cx} (hc : X.calm = true) : CallR X (.builtin "max") rMax2 := call_max2 hc
def rListOf (K : PySem.W.Frag) : List V → Hp → VK → Prop := fun xs H Q => ∃ p ys, xs = [.ref p] ∧ (SqL K H p ys ∨ SqT K H p ys) ∧ ∀ l, H l = none → Q (.ref l) (upd H l (.lst ys))
theorem cr_list_of {X : Cx} : CallR X (.type "list") (rListOf X.K) := call_list_of
def rTupOf (K : PySem.W.Frag) : List V → Hp → VK → Prop := fun xs H Q => ∃ p ys, xs = [.ref p] ∧ ((SqL K H p ys ∧ ∀ l, H l = none → Q (.ref l) (upd H l (.tup ys))) ∨ (SqT K H p ys ∧ Q (.ref p) H))
theorem cr_tup_of {X : Cx} : CallR X (.type "tuple") (rTupOf X.K) := call_tuple_of
def cr_isqrt_r : List V → Hp → VK → Prop := fun vs H Q => ∃ i : Int, vs = [.int i] ∧ 0 ≤ i ∧ i < 2 ^ 64 ∧ Q (.int ((Float64.isqrt i.toNat : Nat) : Int)) H
/-! ### steps of a reading -/
section
variable {σ : L2.St} {H : Hp} {D : Ends} {Q : VK} {QT : Bool → Hp → Prop} {QA : List V → Hp → Prop} {K : PySem.W.Frag}
theorem x_seq {a u : TS} (h : a ⟨u D, D.rt, D.bk, D.ct⟩ σ H) : tSeq a u D σ H := h
theorem x_cut {a u : TS} (M : L2.St → Hp → Prop) (h : a ⟨M, D.rt, D.bk, D.ct⟩ σ H) (k : ∀ σ' H', M σ' H' → u D σ' H') : Evl.tCut a u D σ H := ⟨M, h, k⟩
theorem x_next (h : D.nx σ H) : tNext D σ H := h
theorem x_set {te : TE} {i : Nat} (h : te σ H fun x H1 => D.nx (σ.set i (some x)) H1) : tAsg te (gName i) D σ H := h
theorem x_asg {te : TE} {g : TG} (h : te σ H fun x H1 => g x σ H1 D.nx) : tAsg te g D σ H := h
/-- what a field's reading asks of the object -/
def FldR (K : PySem.W.Frag) (f : Str) (x : V) (H : Hp) (Q : VK) : Prop := ∃ a C dx fs v, x = .ref a ∧ H a = some (.ins C dx fs) ∧ Cls K C ∧ NoAttr K C f ∧ fs.lookup f = some v ∧ Q v H
theorem x_fld {ta : TE} {f : Str} (h : ta σ H fun x H1 => FldR K f x H1 Q) : tFld K ta f σ H Q := h
theorem x_fldR {a C dx : Addr} {fs : List (Str × V)} {f : Str} {v : V} (h : H a = some (.ins C dx fs)) (c : Cls K C) (n : NoAttr K C f) (l : fs.lookup f = some v) (q : Q v H) : FldR K f (.ref a) H Q := ⟨a, C, dx, fs, v, rfl, h, c, n, l, q⟩
/-- what storing a field asks -/
def FldS (K : PySem.W.Frag) (f : Str) (y x : V) (H : Hp) (R : Hp → Prop) : Prop := ∃ a C dx fs, x = .ref a ∧ H a = some (.ins C dx fs) ∧ Cls K C ∧ NoAttr K C f ∧ fs.length < 1000 ∧ R (upd H a (.ins C dx (putF f y fs)))
theorem x_fldS {ta tv : TE} {f : Str} (h : tv σ H fun y H1 => ta σ H1 fun x H2 => FldS K f y x H2 fun H3 => D.nx σ H3) : sFld K ta tv f D σ H := h
theorem x_gName {i : Nat} {v : V} {R : L2.St → Hp → Prop} (h : R (σ.set i (some v)) H) : gName i v σ H R := h
theorem x_par {i j : Nat} {ta tb : TE} (h : ta σ H fun x H1 => tb σ H1 fun y H2 => D.nx ((σ.set i (some x)).set j (some y)) H2) : tPar i j (tCons ta (tCons tb tNil)) D σ H :=
  (congrArg (fun (f : (V → Hp → Prop)) => ta σ H f) (funext fun x => funext fun H1 => congrArg (fun (f : (V → Hp → Prop)) => tb σ H1 f) (funext fun y => funext fun H2 => propext
    ⟨fun h => ⟨x, y, rfl, h⟩, fun ⟨v, w, e, h⟩ => by cases e; exact h⟩))).mp h
theorem x_ret {te : TE} (h : te σ H D.rt) : tRet te D σ H := h
theorem x_retN (h : D.rt .non H) : tRetN D σ H := h
theorem x_drop {te : TE} (h : te σ H fun _ H1 => D.nx σ H1) : tDrop te D σ H := h
theorem x_if {c : TT} {t u : TS} (h : c σ H fun b H1 => if b = true then t D σ H1 else u D σ H1) : tIfS c t u D σ H := h
theorem x_brk (h : D.bk σ H) : tBreak D σ H := h
theorem x_cont (h : D.ct σ H) : tCont D σ H := h
theorem x_var {i : Nat} {v : V} (h : σ[i]? = some (some v)) (q : Q v H) : tVar i σ H Q := ⟨v, h, q⟩
theorem x_c {v : V} (q : Q v H) : tC v σ H Q := q
theorem x_op {r : R2} {ta tb : TE} (h : ta σ H fun x H1 => tb σ H1 fun y H2 => r x y H2 Q) : tOp r ta tb σ H Q := h
theorem x_un {r : V → Hp → VK → Prop} {ta : TE} (h : ta σ H fun x H1 => r x H1 Q) : tUn r ta σ H Q := h
theorem x_I0 {g : Int → Int → V} {i j : Int} (q : Q (g i j) H) : rI0 g (.int i) (.int j) H Q := ⟨i, j, rfl, rfl, q⟩
theorem x_I {C : Int → Int → Prop} {g : Int → Int → V} {i j : Int} (c : C i j) (q : Q (g i j) H) : rI C g (.int i) (.int j) H Q := ⟨i, j, rfl, rfl, c, q⟩
theorem x_U {g : Int → V} {i : Int} (q : Q (g i) H) : rU g (.int i) H Q := ⟨i, rfl, q⟩
theorem v_int {i j : Int} : decide (V.int i = V.int j) = decide (i = j) := decide_eq_decide.mpr ⟨fun h => V.int.inj h, fun h => h ▸ rfl⟩
theorem x_EqI {i j : Int} (q : Q (.bl (decide (i = j))) H) : rEq (.int i) (.int j) H Q := ⟨rfl, v_int ▸ q⟩
theorem x_NeI {i j : Int} (q : Q (.bl (!decide (i = j))) H) : rNe (.int i) (.int j) H Q := ⟨rfl, by rw [v_int]; exact q⟩
theorem x_EqB {i j : Bool} (q : Q (.bl (decide (i = j))) H) : rEq (.bl i) (.bl j) H Q := ⟨rfl, by
  have e : decide (V.bl i = V.bl j) = decide (i = j) := decide_eq_decide.mpr ⟨fun h => V.bl.inj h, fun h => h ▸ rfl⟩
  rw [e]; exact q⟩
theorem x_Eq {x y : V} (s : scal x y = true) (q : Q (.bl (decide (x = y))) H) : rEq x y H Q := ⟨s, q⟩
theorem x_Ne {x y : V} (s : scal x y = true) (q : Q (.bl (!decide (x = y))) H) : rNe x y H Q := ⟨s, q⟩
theorem x_isN {x : V} (q : Q (.bl (decide (x = .non))) H) : (fun (x y : V) (H : Hp) (Q : VK) => y = V.non ∧ Q (.bl (decide (x = .non))) H) x .non H Q := ⟨rfl, q⟩
theorem x_ifE {t : TT} {ta tb : TE} (h : t σ H fun c H1 => if c = true then ta σ H1 Q else tb σ H1 Q) : tIf t ta tb σ H Q := h
theorem x_test {te : TE} {b : Unit} (h : te σ H fun x H1 => ∃ k, x = .bl k ∧ QT k H1) : tTest te σ H QT := h
theorem x_tB {te : TE} (h : te σ H fun x H1 => ∃ k, x = .bl k ∧ QT k H1) : tB te σ H QT := h
theorem x_bl {k : Bool} (q : QT k H) : ∃ k', V.bl k = .bl k' ∧ QT k' H := ⟨k, rfl, q⟩
theorem x_and {t u : TT} (h : t σ H fun c H1 => if c = true then u σ H1 QT else QT false H1) : tAnd t u σ H QT := h
theorem x_or {t u : TT} (h : t σ H fun c H1 => if c = true then QT true H1 else u σ H1 QT) : tOr t u σ H QT := h
theorem x_not {t : TT} (h : t σ H fun c H1 => QT (!c) H1) : tNot t σ H QT := h
theorem x_andV {ta tb : TE} (h : ta σ H fun x H1 => ∃ c, x = .bl c ∧ if c = true then tb σ H1 Q else Q (.bl false) H1) : tAndV ta tb σ H Q := h
theorem x_orV {ta tb : TE} (h : ta σ H fun x H1 => ∃ c, x = .bl c ∧ if c = true then Q (.bl true) H1 else tb σ H1 Q) : tOrV ta tb σ H Q := h
theorem x_notV {ta : TE} (h : ta σ H fun x H1 => ∃ c, x = .bl c ∧ Q (.bl (!c)) H1) : tNotV ta σ H Q := h
theorem x_blP {k : Bool} {P : Bool → Prop} (q : P k) : ∃ k', V.bl k = .bl k' ∧ P k' := ⟨k, rfl, q⟩
theorem x_nil (q : QA [] H) : tNil σ H QA := q
theorem x_cons {ta : TE} {tr : TA} (h : ta σ H fun x H1 => tr σ H1 fun xs H2 => QA (x :: xs) H2) : tCons ta tr σ H QA := h
theorem x_call {sp : Sp} {dvs : List V} {E : XK} {t : TA} (h : t σ H fun vs H1 => sp (vs ++ dvs) H1 Q E) : tCall sp dvs E t σ H Q := h
theorem x_CB {r : List V → Hp → VK → Prop} {t : TA} (h : t σ H fun vs H1 => r vs H1 Q) : tCB r t σ H Q := h
theorem x_BM {T : String} {r : V → List V → Hp → VK → Prop} {to : TE} {t : TA} (h : to σ H fun x H1 => tyV K T x H1 ∧ t σ H1 fun xs H2 => r x xs H2 Q) : tBM K T r to t σ H Q := h
theorem x_tup {t : TA} (h : t σ H fun xs H1 => xs.length ≤ sizeLine ∧ ∀ p, H1 p = none → Q (.ref p) (upd H1 p (.tup xs))) : tTup t σ H Q := h
theorem x_lst {t : TA} (h : t σ H fun xs H1 => xs.length ≤ sizeLine ∧ ∀ p, H1 p = none → Q (.ref p) (upd H1 p (.lst xs))) : tLst t σ H Q := h
theorem x_chain {r r' : R2} {ta tb tc : TE} (h : ta σ H fun x H1 => tb σ H1 fun y H2 => r x y H2 fun z H3 => ∃ k, z = .bl k ∧
  (if k = true then tc σ H3 fun w' H4 => r' y w' H4 Q else Q (.bl false) H3)) : tChain r r' ta tb tc σ H Q := h
theorem x_isi {x : V} {T S : String} {b : Bool} (ty : TyX K H x (.type S)) (h : kitB S T = some b) (q : Q (.bl b) H) : rIsi K [x, .ty T] H Q := ⟨x, .ty T, .type S, .type T, b, rfl, .ty T, ty, kit_ty h, q⟩
theorem x_iN {x : V} (q : Q (.bl (decide (x = .non))) H) : rIsN x .non H Q := ⟨rfl, q⟩
theorem x_nN {x : V} (q : Q (.bl (!decide (x = .non))) H) : rNotN x .non H Q := ⟨rfl, q⟩
theorem x_int1 {i : Int} (q : Q (.int i) H) : rInt1 [.int i] H Q := .inl ⟨i, rfl, q⟩
theorem x_min2 {i j : Int} (q : Q (.int (if j < i then j else i)) H) : rMin2 [.int i, .int j] H Q := ⟨i, j, rfl, q⟩
theorem x_max2 {i j : Int} (q : Q (.int (if j > i then j else i)) H) : rMax2 [.int i, .int j] H Q := ⟨i, j, rfl, q⟩
theorem x_listL {p : Addr} {xs : List V} (hp : SqL K H p xs) (q : ∀ l, H l = none → Q (.ref l) (upd H l (.lst xs))) : rListOf K [.ref p] H Q := ⟨p, xs, rfl, .inl hp, q⟩
theorem x_tupL {p : Addr} {xs : List V} (hp : SqL K H p xs) (q : ∀ l, H l = none → Q (.ref l) (upd H l (.tup xs))) : rTupOf K [.ref p] H Q := ⟨p, xs, rfl, .inl ⟨hp, q⟩⟩
theorem x_ite {p : Prop} [Decidable p] {A B : Prop} (h1 : p → A) (h2 : ¬ p → B) : if decide p = true then A else B := by
  by_cases h : p
  · rw [if_pos (decide_eq_true h)]; exact h1 h
  · rw [if_neg (by rw [decide_eq_false h]; exact Bool.false_ne_true)]; exact h2 h
theorem x_iteN {p : Prop} [Decidable p] {A B : Prop} (h1 : ¬ p → A) (h2 : p → B) : if (!decide p) = true then A else B := by
  by_cases h : p
  · rw [if_neg (by rw [decide_eq_true h]; decide)]; exact h2 h
  · rw [if_pos (by rw [decide_eq_false h]; rfl)]; exact h1 h
theorem x_iteB {b : Bool} {A B : Prop} (h1 : b = true → A) (h2 : b = false → B) : if b = true then A else B := by
  cases b with
  | true => rw [if_pos rfl]; exact h1 rfl
  | false => rw [if_neg Bool.false_ne_true]; exact h2 rfl
theorem x_iteBN {b : Bool} {A B : Prop} (h1 : b = false → A) (h2 : b = true → B) : if (!b) = true then A else B := by
  cases b with
  | true => rw [if_neg (by decide)]; exact h2 rfl
  | false => rw [if_pos (by decide)]; exact h1 rfl
theorem x_subL {i : Int} {x : V} {xs : List V} {p : Addr} {k : Nat} {q : Hp → Prop} (hp : H p = some (.lst xs)) (hk : ixN xs.length i = some k) (h : q (upd H p (.lst (xs.set k x)))) : rSetL (.ref p) (.int i) x H q :=
  ⟨p, xs, i, k, rfl, rfl, hp, hk, h⟩
theorem x_gSub {to ti : TE} {t : TSet} {v : V} {q : L2.St → Hp → Prop} (h : to σ H fun o H1 => ti σ H1 fun i H2 => t o i v H2 fun H3 => q σ H3) : gSub to ti t v σ H q := h
theorem x_for {wi : TI} {g : TG} {tb : TS} (h : wi σ H fun J H1 => ∃ W : Nat → Nat → L2.St → Hp → Prop, (∃ m, W 0 m σ H1) ∧ ∀ i m σ H, W i m σ H →
  (J.stop i H ∧ D.nx σ H) ∨ (J.go i H ∧ ∃ N : L2.St → Hp → Prop, (∀ σ' H', N σ' H' → ∃ m', m' < m ∧ W (i + 1) m' σ' H') ∧ ∀ x H', J.yld i H x H' → g x σ H' fun σ2 H2 => tb { D with nx := N, ct := N, bk := D.nx } σ2 H2)) : tFor wi g tb D σ H := h
theorem x_ixL {xs : List V} {i : Int} {v : V} {p : Addr} (hp : SqL K H p xs) (hi : atI xs i = some v) (q : Q v H) : rIxL K (.ref p) (.int i) H Q := ⟨p, xs, i, v, rfl, rfl, hp, hi, q⟩
theorem x_ixT {xs : List V} {i : Int} {v : V} {p : Addr} (hp : SqT K H p xs) (hi : atI xs i = some v) (q : Q v H) : rIxT K (.ref p) (.int i) H Q := ⟨p, xs, i, v, rfl, rfl, hp, hi, q⟩
/-- over a range from nought, of at most so many turns; the target a name -/
theorem x_forR1 {ta : TE} {j : Nat} {tb : TS} (n : Int) (P : Nat → L2.St → Hp → Prop) (hn : ∀ R : V → Hp → Prop, R (.int n) H → ta σ H R) (h1 : -(2 ^ 62) ≤ n) (h2 : n < 2 ^ 62) (h0 : P 0 σ H)
    (hs : ∀ (i : Nat) σ' H', (i : Int) < n → P i σ' H' → tb ⟨P (i + 1), D.rt, D.nx, P (i + 1)⟩ (σ'.set j (some (.int (i : Int)))) H') (hd : ∀ σ' H', P n.toNat σ' H' → D.nx σ' H') : tFor (iRng1 (tCons ta tNil)) (gName j) tb D σ H := by
  refine hn _ ⟨n, rfl, h1, h2, ?_⟩
  refine for_range (lo := 0) P h0 (fun i σ' H' hi p => ?_) hd
  have e : (0 : Int) + (i : Int) = (i : Int) := Int.zero_add _
  rw [e]
  exact hs i σ' H' (by omega) p
theorem x_forR2 {ta tc : TE} {j : Nat} {tb : TS} (lo n : Int) (P : Nat → L2.St → Hp → Prop) (hn : ∀ R : V → Hp → Prop, R (.int lo) H → ta σ H R) (hn2 : ∀ R : V → Hp → Prop, R (.int n) H → tc σ H R) (h1 : -(2 ^ 62) ≤ lo) (h2 : lo < 2 ^ 62) (h3 : -(2 ^ 62) ≤ n) (h4 : n < 2 ^ 62) (h0 : P 0 σ H)
    (hs : ∀ (i : Nat) σ' H', lo + (i : Int) < n → P i σ' H' → tb ⟨P (i + 1), D.rt, D.nx, P (i + 1)⟩ (σ'.set j (some (.int (lo + (i : Int))))) H') (hd : ∀ σ' H', P (n - lo).toNat σ' H' → D.nx σ' H') : tFor (iRng2 (tCons ta (tCons tc tNil))) (gName j) tb D σ H := by
  refine hn _ (hn2 _ ⟨lo, n, rfl, ⟨h1, h2, h3, h4⟩, ?_⟩)
  refine for_range (lo := lo) P h0 (fun i σ' H' hi p => ?_) hd
  exact hs i σ' H' (by omega) p
theorem rgC_up {i j c : Int} (hc : 0 < c) (hc2 : c < 1000000) (ha : 0 ≤ i) (ha' : i < 2 ^ 60) (hb : 0 ≤ j) (hb' : j < 2 ^ 60) : RgC i j c ((if i < j then (j - i - 1) / c + 1 else 0 : Int)).toNat := by
  have hd : 0 ≤ (j - i - 1) / c ∨ ¬ i < j := by
    by_cases h : i < j
    · exact .inl (Int.ediv_nonneg (by omega) (by omega))
    · exact .inr h
  have hd2 : i < j → (j - i - 1) / c * c ≤ j - i - 1 := fun _ => Int.ediv_mul_le _ (by omega)
  have hd3 : i < j → (j - i - 1) / c ≤ j - i - 1 := fun h => by
    have h0 : 0 ≤ (j - i - 1) / c := Int.ediv_nonneg (by omega) (by omega)
    have := hd2 h
    have h1 : (j - i - 1) / c * 1 ≤ (j - i - 1) / c * c := Int.mul_le_mul_of_nonneg_left (by omega) h0
    omega
  refine ⟨by omega, by omega, ?_, ?_⟩
  · unfold Builtin.Range.small Builtin.Range.rangeSize
    simp only [Builtin.Range.rangeFitsLong, Bool.and_eq_true, Bool.or_eq_true, decide_eq_true_eq, beq_iff_eq, show (c > 0) from hc, if_true]
    split
    · rename_i h
      have := hd3 h
      have h0 : 0 ≤ (j - i - 1) / c := Int.ediv_nonneg (by omega) (by omega)
      have := hd2 h
      generalize (j - i - 1) / c = q at *
      have e : (q + 1) * c = q * c + c := by rw [Int.add_mul, Int.one_mul]
      have e2 : (q + 1 - 1) * c = q * c := by rw [Int.add_sub_cancel]
      refine ⟨?_, ?_⟩ <;> (try rw [e]) <;> (try rw [e2]) <;> omega
    · omega
  · unfold Builtin.Range.rangeSize
    rw [if_pos hc]
    split
    · rcases hd with h | h
      · omega
      · omega
    · rfl
theorem x_forR3 {ta tc te : TE} {j : Nat} {tb : TS} (lo n c : Int) (P : Nat → L2.St → Hp → Prop) (hn : ∀ R : V → Hp → Prop, R (.int lo) H → ta σ H R) (hn2 : ∀ R : V → Hp → Prop, R (.int n) H → tc σ H R) (hn3 : ∀ R : V → Hp → Prop, R (.int c) H → te σ H R) (hc : 0 < c) (hc2 : c < 1000000) (h1 : 0 ≤ lo) (h2 : lo < 2 ^ 60) (h3 : 0 ≤ n) (h4 : n < 2 ^ 60) (h0 : P 0 σ H)
    (hs : ∀ (i : Nat) σ' H', lo + (i : Int) * c < n → P i σ' H' → tb ⟨P (i + 1), D.rt, D.nx, P (i + 1)⟩ (σ'.set j (some (.int (lo + (i : Int) * c)))) H') (hd : ∀ (i : Nat) σ' H', n ≤ lo + (i : Int) * c → P i σ' H' → D.nx σ' H') : tFor (iRng3 (tCons ta (tCons tc (tCons te tNil)))) (gName j) tb D σ H := by
  refine hn _ (hn2 _ (hn3 _ ⟨lo, n, c, _, rfl, rgC_up hc hc2 h1 h2 h3 h4, ?_⟩))
  refine for_rangeC (lo := lo) P h0 (fun i σ' H' hi p => hs i σ' H' ?_ p) (fun σ' H' p => hd _ σ' H' ?_ p)
  · split at hi
    · have hq : (i : Int) ≤ (n - lo - 1) / c := by omega
      have h5 : (n - lo - 1) / c * c ≤ n - lo - 1 := Int.ediv_mul_le _ (by omega)
      have h6 : (i : Int) * c ≤ (n - lo - 1) / c * c := Int.mul_le_mul_of_nonneg_right hq (by omega)
      omega
    · omega
  · split
    · have h5 : n - lo - 1 < ((n - lo - 1) / c + 1) * c := Int.lt_ediv_add_one_mul_self _ hc
      have h0 : 0 ≤ (n - lo - 1) / c := Int.ediv_nonneg (by omega) (by omega)
      rw [show ((((n - lo - 1) / c + 1).toNat : Nat) : Int) = (n - lo - 1) / c + 1 by omega]
      omega
    · have : (((0 : Int).toNat : Nat) : Int) * c = 0 := by simp
      omega
theorem isq_spec {i : Int} (h0 : 0 ≤ i) : ∃ r : Int, ((Float64.isqrt i.toNat : Nat) : Int) = r ∧ 0 ≤ r ∧ r * r ≤ i ∧ i < (r + 1) * (r + 1) := by
  refine ⟨_, rfl, Int.natCast_nonneg _, ?_, ?_⟩
  · have := (PySem.Float64.isqrt_spec i.toNat).1
    have e : ((Float64.isqrt i.toNat * Float64.isqrt i.toNat : Nat) : Int) ≤ (i.toNat : Int) := Int.ofNat_le.mpr this
    rw [Int.natCast_mul] at e
    omega
  · have := (PySem.Float64.isqrt_spec i.toNat).2
    have e : (i.toNat : Int) < (((Float64.isqrt i.toNat + 1) * (Float64.isqrt i.toNat + 1) : Nat) : Int) := Int.ofNat_lt.mpr this
    rw [Int.natCast_mul, Int.natCast_add] at e
    have e2 : ((1 : Nat) : Int) = 1 := rfl
    rw [e2] at e
    omega
theorem x_isqrt0 {i r : Int} (h0 : 0 ≤ i) (h1 : i < 2 ^ 64) (e : ((Float64.isqrt i.toNat : Nat) : Int) = r) (q : Q (.int r) H) : cr_isqrt_r [.int i] H Q := ⟨i, rfl, h0, h1, by rw [e]; exact q⟩
theorem x_forL {ta : TE} {g : TG} {tb : TS} {p : Addr} (xs : List V) (P : Nat → L2.St → Hp → Prop) (hn : ∀ R : V → Hp → Prop, R (.ref p) H → ta σ H R) (hp : SqL K H p xs) (h0 : P 0 σ H) (hl : ∀ i σ' H', i ≤ xs.length → P i σ' H' → SqL K H' p xs)
    (hs : ∀ i x σ' H', xs[i]? = some x → P i σ' H' → g x σ' H' fun σ2 H2 => tb ⟨P (i + 1), D.rt, D.nx, P (i + 1)⟩ σ2 H2) (hd : ∀ σ' H', P xs.length σ' H' → D.nx σ' H') : tFor (iList K ta) g tb D σ H :=
  hn _ ⟨p, rfl, ⟨xs, hp⟩, for_list (xs := xs) P h0 hl hs hd⟩
theorem x_app {p : Addr} {xs : List V} {y : V} (hp : H p = some (.lst xs)) (hl : xs.length < 1000000) (q : Q .non (upd H p (.lst (xs ++ [y])))) : rAppend (.ref p) [y] H Q :=
  ⟨p, xs, y, rfl, rfl, hp, Nat.lt_of_lt_of_le hl (by decide), q⟩
theorem x_tyL {p : Addr} {xs : List V} {R : Prop} (hp : H p = some (.lst xs)) (h : R) : tyV K "list" (.ref p) H ∧ R := ⟨.inl ⟨rfl, _, .inl (.inl hp)⟩, h⟩
theorem x_len {p : Addr} {xs : List V} (hp : SqL K H p xs) (q : Q (.int (xs.length : Int)) H) : rLen K [.ref p] H Q := ⟨p, xs, rfl, .inl hp, q⟩
theorem x_lenT {p : Addr} {xs : List V} (hp : SqT K H p xs) (q : Q (.int (xs.length : Int)) H) : rLen K [.ref p] H Q := ⟨p, xs, rfl, .inr hp, q⟩
theorem x_cat {p q : Addr} {xs ys : List V} (hp : H p = some (.lst xs)) (hq : H q = some (.lst ys)) (hl : xs.length + ys.length ≤ 1000000) (k : ∀ r, H r = none → Q (.ref r) (upd H r (.lst (xs ++ ys)))) : rCat (.ref p) (.ref q) H Q :=
  ⟨p, q, xs, ys, rfl, rfl, hp, hq, Nat.le_trans hl (by decide), k⟩
/-- while: a word by a measure -/
theorem x_while {c : TT} {tb : TS} (W : Nat → L2.St → Hp → Prop) (m0 : Nat) (h0 : W m0 σ H)
    (hs : ∀ m σ' H', W m σ' H' → ∃ b : Bool, (∀ R : Bool → Hp → Prop, R b H' → c σ' H' R) ∧ (b = true → tb ⟨fun σ2 H2 => ∃ m', m' < m ∧ W m' σ2 H2, D.rt, D.nx, fun σ2 H2 => ∃ m', m' < m ∧ W m' σ2 H2⟩ σ' H') ∧ (b = false → D.nx σ' H')) : tWhile c tb D σ H :=
  ⟨W, ⟨m0, h0⟩, fun m σ' H' w => by
    obtain ⟨b, h, h1, h2⟩ := hs m σ' H' w
    refine h _ ?_
    cases b with
    | true => exact iteT ⟨_, fun _ _ z => z, h1 rfl⟩
    | false => exact iteF (h2 rfl)⟩
theorem x_lcR1 {ta : TE} {j : Nat} {te : TE} {vs : List Nat} (n : Int) (P : Addr → Nat → Hp → Prop) (hn : ∀ R : V → Hp → Prop, R (.int n) H → ta σ H R) (h1 : -(2 ^ 62) ≤ n) (h2 : n < 2 ^ 62) (h0 : ∀ p, H p = none → P p 0 (upd H p (.lst [])))
    (hw : ∀ x, wipe ((wipe σ vs).set j (some x)) vs = wipe σ vs)
    (hs : ∀ p (i : Nat) H', H p = none → (i : Int) < n → P p i H' → te ((wipe σ vs).set j (some (.int (i : Int)))) H' fun y H4 => ∃ acc, H4 p = some (.lst acc) ∧ acc.length < sizeLine ∧ P p (i + 1) (upd H4 p (.lst (acc ++ [y]))))
    (hd : ∀ p H', H p = none → P p n.toNat H' → Q (.ref p) H') : tLc (iRng1 (tCons ta tNil)) (gName j) tYes te vs σ H Q := by
  refine hn _ ⟨n, rfl, h1, h2, fun p hp => ?_⟩
  refine lc_range (lo := 0) (Qd := fun H' => Q (.ref p) H') (P p) (h0 p hp) (fun i H' hi q => ?_) fun H' q => hd p H' hp q
  have e : (0 : Int) + (i : Int) = (i : Int) := Int.zero_add _
  rw [e]
  refine ⟨hw _, ?_⟩
  unfold tYes
  exact iteT (hs p i H' hp (by omega) q)
theorem x_lcL {ta : TE} {j : Nat} {te : TE} {vs : List Nat} {a : Addr} (xs : List V) (P : Addr → Nat → Hp → Prop) (hn : ∀ R : V → Hp → Prop, R (.ref a) H → ta σ H R) (ha : SqL K H a xs) (h0 : ∀ p, H p = none → P p 0 (upd H p (.lst [])))
    (hl : ∀ p i H', H p = none → i ≤ xs.length → P p i H' → SqL K H' a xs) (hw : ∀ x, wipe ((wipe σ vs).set j (some x)) vs = wipe σ vs)
    (hs : ∀ p (i : Nat) x H', H p = none → xs[i]? = some x → P p i H' → te ((wipe σ vs).set j (some x)) H' fun y H4 => ∃ acc, H4 p = some (.lst acc) ∧ acc.length < sizeLine ∧ P p (i + 1) (upd H4 p (.lst (acc ++ [y]))))
    (hd : ∀ p H', H p = none → P p xs.length H' → Q (.ref p) H') : tLc (iList K ta) (gName j) tYes te vs σ H Q := by
  refine hn _ ⟨a, rfl, ⟨xs, ha⟩, fun p hp => ?_⟩
  refine lc_list (xs := xs) (Qd := fun H' => Q (.ref p) H') (P p) (h0 p hp) (fun i H' hi q => hl p i H' hp hi q) (fun i x H' hi q => ?_) fun H' q => hd p H' hp q
  refine ⟨hw _, ?_⟩
  unfold tYes
  exact iteT (hs p i x H' hp hi q)
end
theorem x_gTup2 {K : PySem.W.Frag} {σ : L2.St} {H : Hp} {p : Addr} {x y : V} {i j : Nat} {R : L2.St → Hp → Prop} (hp : SqT K H p [x, y]) (h : R ((σ.set i (some x)).set j (some y)) H) : gTup K 2 (gCons (gName i) (gCons (gName j) gNil)) (.ref p) σ H R :=
  ⟨p, [x, y], rfl, hp, rfl, x, [y], rfl, y, [], rfl, rfl, h⟩
theorem sq_of {K : PySem.W.Frag} {H : Hp} {a : Addr} {xs : List V} (h : H a = some (.lst xs)) : SqL K H a xs := .inl (.inl h)
theorem st_of {K : PySem.W.Frag} {H : Hp} {a : Addr} {xs : List V} (h : H a = some (.tup xs)) : SqT K H a xs := .inl (.inl h)
theorem mul_r {i j : Int} (h1 : -(2 ^ 64) < j) (h2 : j < 2 ^ 64) : CMul i j := .inr ⟨h1, h2⟩
theorem mul_l {i j : Int} (h1 : -(2 ^ 64) < i) (h2 : i < 2 ^ 64) : CMul i j := .inl ⟨h1, h2⟩
theorem cr_isqrt {X : Cx} : CallR X (.builtin "math.isqrt") cr_isqrt_r := by
  intro pins s σ H vs us Q I r h
  obtain ⟨i, rfl, h0, h1, q⟩ := h
  cases r with
  | cons r1 rr =>
    cases rr
    obtain ⟨t, rfl⟩ := r1
    exact PySem.W.mg_isqrt h0 h1 ⟨.int _, H, I.tok _, ⟨_, rfl⟩, q⟩
/-- all but what stands at d is as it was -/
def Keep (d : Addr) (H H' : Hp) : Prop := ∀ b o, H b = some o → b ≠ d → H' b = some o
theorem Keep.refl (d : Addr) (H : Hp) : Keep d H H := fun _ _ h _ => h
theorem Keep.trans {d : Addr} {H H1 H2 : Hp} (a : Keep d H H1) (b : Keep d H1 H2) : Keep d H H2 := fun c o h n => b c o (a c o h n) n
theorem seqT {K : PySem.W.Frag} {H H' : Hp} {a : Addr} {xs : List V} (e : Same H H') (h : SqT K H a xs) : SqT K H' a xs := by
  rcases h with (h | ⟨o, h⟩) | h
  · exact .inl (.inl (e _ _ h))
  · exact .inl (.inr ⟨o, e _ _ h⟩)
  · exact .inr h
theorem sfree {H H' : Hp} (e : Same H H') {p : Addr} (h : H' p = none) : H p = none := e.free h
theorem sput {H H' : Hp} {p : Addr} {o : HO} (s : Same H H') (h : H p = none) : Same H (upd H' p o) := fun b x e => by
  rw [upd_ne (ne_of_none e h)]
  exact s b x e
theorem Same.tr {H H1 H2 : Hp} (a : Same H H1) (b : Same H1 H2) : Same H H2 := fun c o h => b c o (a c o h)
theorem Same.keep {d : Addr} {H H' : Hp} (a : Same H H') : Keep d H H' := fun c o h _ => a c o h
theorem same_upd {H : Hp} {p : Addr} {o : HO} (h : H p = none) : Same H (upd H p o) := fun b x e => by
  rw [upd_ne (ne_of_none e h)]
  exact e
theorem keep_upd {H : Hp} {p : Addr} {o : HO} : Keep p H (upd H p o) := fun b x e n => by
  rw [upd_ne n]
  exact e
/-- what is new may change -/
theorem Same.put {H H' : Hp} {p : Addr} {o : HO} (s : Same H H') (h : H p = none) : Same H (upd H' p o) := fun b x e => by
  rw [upd_ne (ne_of_none e h)]
  exact s b x e
theorem Keep.put {d : Addr} {H H' : Hp} {p : Addr} {o : HO} (s : Keep d H H') (h : H p = none) : Keep d H (upd H' p o) := fun b x e n => by
  rw [upd_ne (ne_of_none e h)]
  exact s b x e n
theorem Keep.seq {K : PySem.W.Frag} {d : Addr} {H H' : Hp} {a : Addr} {xs : List V} (e : Keep d H H') (n : a ≠ d) (h : SqL K H a xs) : SqL K H' a xs := by
  rcases h with (h | ⟨o, h⟩) | h
  · exact .inl (.inl (e _ _ h n))
  · exact .inl (.inr ⟨o, e _ _ h n⟩)
  · exact .inr h
/-- ints within bounds -/
def Rg (lo hi : Int) (ns : List Int) : Prop := ∀ z, z ∈ ns → lo ≤ z ∧ z < hi
theorem Rg.nil {lo hi : Int} : Rg lo hi [] := fun _ h => absurd h (by simp)
theorem Rg.app {lo hi : Int} {xs ys : List Int} (a : Rg lo hi xs) (b : Rg lo hi ys) : Rg lo hi (xs ++ ys) := fun z h => (List.mem_append.mp h).elim (a z) (b z)
theorem Rg.one {lo hi x : Int} (h1 : lo ≤ x) (h2 : x < hi) : Rg lo hi [x] := fun z h => by
  have e : z = x := by simpa using h
  subst e
  exact ⟨h1, h2⟩
theorem Rg.snoc {lo hi x : Int} {xs : List Int} (a : Rg lo hi xs) (h1 : lo ≤ x) (h2 : x < hi) : Rg lo hi (xs ++ [x]) := a.app (.one h1 h2)
theorem Rg.get {lo hi x : Int} {xs : List Int} {i : Nat} (a : Rg lo hi xs) (h : xs[i]? = some x) : lo ≤ x ∧ x < hi := a x (List.mem_of_getElem? h)
theorem map_get {ns : List Int} {i : Nat} {y : V} (h : (ns.map V.int)[i]? = some y) : ∃ z, ns[i]? = some z ∧ y = .int z := by
  rw [List.getElem?_map] at h
  cases e : ns[i]? with
  | none => rw [e] at h; cases h
  | some z => rw [e] at h; exact ⟨z, rfl, (Option.some.inj h).symm⟩
theorem gcd_step {a b : Int} : Int.gcd b (a % b) = Int.gcd a b := by
  rw [Int.emod_def, Int.gcd_sub_mul_left_right, Int.gcd_comm]
theorem half_step {a b : Int} (hb : 0 < b) (h : b < a) : b * (a % b) * 2 ≤ a * b := by
  have h1 := Int.emod_lt_of_pos a hb
  have h0 := Int.emod_nonneg a (show b ≠ 0 by omega)
  have h2 : b * (a / b) + a % b = a := Int.mul_ediv_add_emod a b
  have h3 : 1 ≤ a / b := (Int.le_ediv_iff_mul_le hb).mpr (by omega)
  have h4 : b * 1 ≤ b * (a / b) := Int.mul_le_mul_of_nonneg_left h3 (by omega)
  have h5 : a % b * 2 ≤ a := by omega
  have h6 : a % b * 2 * b ≤ a * b := Int.mul_le_mul_of_nonneg_right h5 (by omega)
  have e : b * (a % b) * 2 = a % b * 2 * b := by
    rw [Int.mul_comm b, Int.mul_assoc, Int.mul_assoc, Int.mul_comm b 2]
  omega
/-- an item of a written list -/
theorem at_lt {xs : List V} {i : Int} (h0 : 0 ≤ i) (h1 : i < (xs.length : Int)) : ∃ v, atI xs i = some v ∧ v ∈ xs := by
  obtain ⟨j, rfl⟩ : ∃ j : Nat, i = (j : Int) := ⟨i.toNat, by omega⟩
  have hj : j < xs.length := by omega
  exact ⟨xs[j], atI_nat (List.getElem?_eq_getElem hj), List.getElem_mem hj⟩
theorem map_getR {as : List Addr} {i : Nat} {v : V} (h : (as.map V.ref)[i]? = some v) : ∃ b, as[i]? = some b ∧ v = .ref b := by
  rw [List.getElem?_map] at h
  cases e : as[i]? with
  | none => rw [e] at h; cases h
  | some b => rw [e] at h; exact ⟨b, rfl, (Option.some.inj h).symm⟩
theorem kput {d : Addr} {H H' : Hp} {p : Addr} {o : HO} (s : Keep d H H') (h : H p = none) : Keep d H (upd H' p o) := s.put h
theorem snoc_at {α : Type} {xs : List α} {y z : α} {i j : Nat} (hl : xs.length = i) (h : (xs ++ [y])[j]? = some z) : (j < i ∧ xs[j]? = some z) ∨ (j = i ∧ z = y) := by
  by_cases hj : j < xs.length
  · rw [List.getElem?_append_left hj] at h
    exact .inl ⟨by omega, h⟩
  · have hlt := (List.getElem?_eq_some_iff.mp h).1
    rw [List.length_append] at hlt
    have e : j = xs.length := by simp at hlt; omega
    subst e
    rw [List.getElem?_append_right (Nat.le_refl _), Nat.sub_self] at h
    exact .inr ⟨hl, (Option.some.inj h).symm⟩
theorem lt_line {n : Nat} (h : n < 1000000) : n < sizeLine := Nat.lt_of_lt_of_le h (by decide)
/-- what is fresh may change -/
theorem same_keep {H H1 H2 : Hp} {l : Addr} (hl : H l = none) (s : Same H H1) (k : Keep l H1 H2) : Same H H2 := fun b o e => k b o (s b o e) (ne_of_none e hl)
theorem ixN_nat {n i : Nat} (h : i < n) : ixN n (i : Int) = some i := by
  unfold ixN
  grind
theorem cast_lt {x : Int} {c : Nat} (h0 : 0 ≤ x) (h1 : x < c) : ∃ t : Nat, x = (t : Int) ∧ t < c := ⟨x.toNat, by omega, by omega⟩
section
variable {σ : L2.St} {H : Hp} {Q : VK} {R : Option Int → Hp → Prop}
theorem x_sl2 {r : V → Option Int → Option Int → Hp → VK → Prop} {te : TE} {tl th : TO} (h : te σ H fun x H1 => tl σ H1 fun l H2 => th σ H2 fun u H3 => r x l u H3 Q) : tSl r te tl th σ H Q := h
theorem x_part0 (h : R none H) : tNoPart σ H R := h
theorem x_part1 {te : TE} (h : te σ H fun x H1 => ∃ i, x = .int i ∧ R (some i) H1) : tPart te σ H R := h
theorem x_cutL {K : PySem.W.Frag} {p : Addr} {xs : List V} {lo hi : Option Int} (hp : SqL K H p xs) (q : ∀ r, H r = none → Q (.ref r) (upd H r (.lst (cutV xs lo hi)))) : rSlL K (.ref p) lo hi H Q := ⟨p, xs, rfl, hp, q⟩
end
end Br

/-! ### Fermat's little theorem, by the products of the rests -/
namespace Br.F
def noDiv (p : Nat) (n : Nat) : Bool := Nat.rec true (fun k ih => (p % (k + 2) != 0) && ih) n
theorem noDiv_at {p : Nat} : ∀ {n : Nat}, noDiv p n = true → ∀ d, 2 ≤ d → d < n + 2 → ¬ d ∣ p
  | 0, _, d, h1, h2, _ => by omega
  | n + 1, h, d, h1, h2, hd => by
    have h' : ((p % (n + 2) != 0) && noDiv p n) = true := h
    rw [Bool.and_eq_true] at h'
    by_cases e : d < n + 2
    · exact noDiv_at h'.2 d h1 e hd
    · have e2 : d = n + 2 := by omega
      subst e2
      have := Nat.mod_eq_zero_of_dvd hd
      simp [this] at h'
def IsPrime (p : Nat) : Prop := 2 ≤ p ∧ ∀ d, d ∣ p → d = 1 ∨ d = p
theorem prime_of {p k : Nat} (h2 : 2 ≤ p) (hk : p < (k + 2) * (k + 2)) (h : noDiv p k = true) : IsPrime p := by
  refine ⟨h2, fun d hd => ?_⟩
  by_cases h1 : d = 1
  · exact .inl h1
  by_cases hp : d = p
  · exact .inr hp
  exfalso
  obtain ⟨e, he⟩ := hd
  have d0 : d ≠ 0 := fun z => by subst z; simp at he; omega
  have e0 : e ≠ 0 := fun z => by subst z; simp at he; omega
  have e1 : e ≠ 1 := fun z => by subst z; simp at he; exact hp he.symm
  by_cases hlt : d < k + 2
  · exact noDiv_at h d (by omega) hlt ⟨e, he⟩
  · by_cases hlt2 : e < k + 2
    · exact noDiv_at h e (by omega) hlt2 ⟨d, by rw [he, Nat.mul_comm]⟩
    · have : (k + 2) * (k + 2) ≤ d * e := Nat.mul_le_mul (by omega) (by omega)
      omega
theorem IsPrime.coprime {p a : Nat} (hp : IsPrime p) (h : ¬ p ∣ a) : Nat.Coprime p a := by
  rcases hp.2 _ (Nat.gcd_dvd_left p a) with e | e
  · exact e
  · exact absurd (e ▸ Nat.gcd_dvd_right p a) h
theorem IsPrime.mul {p a b : Nat} (hp : IsPrime p) (h : p ∣ a * b) : p ∣ a ∨ p ∣ b := by
  by_cases h1 : p ∣ a
  · exact .inl h1
  · exact .inr ((hp.coprime h1).dvd_of_dvd_mul_left h)
theorem dvd_sub_of {p x y : Nat} (h : x % p = y % p) : p ∣ y - x := Nat.dvd_of_mod_eq_zero (Nat.sub_mod_eq_zero_of_mod_eq h.symm)
theorem mod_of_dvd_sub {p x y : Nat} (hl : x ≤ y) (h : p ∣ y - x) : x % p = y % p := by
  obtain ⟨q, hq⟩ := h
  have e : y = x + p * q := by omega
  rw [e, Nat.add_mul_mod_self_left]
theorem perm_of : ∀ {M L : List Nat}, M.Nodup → (∀ x, x ∈ M → x ∈ L) → L.length = M.length → M.Perm L
  | [], L, _, _, hl => by
    have : L = [] := List.length_eq_zero_iff.mp hl
    rw [this]
  | a :: M, L, hn, hs, hl => by
    have ha : a ∈ L := hs a List.mem_cons_self
    have hn' := List.nodup_cons.mp hn
    have h2 : M.Perm (L.erase a) := perm_of hn'.2 (fun x hx => (List.mem_erase_of_ne (fun e => hn'.1 (by rw [← e]; exact hx))).mpr (hs x (List.mem_cons_of_mem _ hx))) (by
      rw [List.length_erase_of_mem ha]
      rw [List.length_cons] at hl
      omega)
    exact (List.Perm.cons a h2).trans (List.perm_cons_erase ha).symm
def prod : List Nat → Nat
  | [] => 1
  | a :: l => a * prod l
theorem prod_perm {a b : List Nat} (h : a.Perm b) : prod a = prod b := by
  induction h with
  | nil => rfl
  | cons x _ ih => show x * _ = x * _; rw [ih]
  | swap x y l => show y * (x * _) = x * (y * _); rw [← Nat.mul_assoc, ← Nat.mul_assoc, Nat.mul_comm y x]
  | trans _ _ h1 h2 => rw [h1, h2]
theorem prod_map {p a : Nat} : ∀ l : List Nat, prod (l.map fun x => a * x % p) % p = a ^ l.length * prod l % p
  | [] => by simp [prod]
  | x :: l => by
    show (a * x % p) * prod (l.map fun x => a * x % p) % p = a ^ (l.length + 1) * (x * prod l) % p
    rw [Nat.mul_mod, Nat.mod_mod, prod_map l, ← Nat.mul_mod, Nat.pow_succ]
    congr 1
    rw [Nat.mul_assoc (a ^ l.length) a, Nat.mul_left_comm a x, Nat.mul_comm a x, Nat.mul_assoc x a, ← Nat.mul_assoc (a ^ l.length) x, Nat.mul_comm (a ^ l.length) x, Nat.mul_assoc x (a ^ l.length), ← Nat.mul_assoc (a ^ l.length), Nat.mul_comm (a ^ l.length) a, Nat.mul_assoc a]
theorem prod_not {p : Nat} (hp : IsPrime p) : ∀ l : List Nat, (∀ x, x ∈ l → ¬ p ∣ x) → ¬ p ∣ prod l
  | [], _, h => by
    have : p = 1 := Nat.dvd_one.mp h
    have := hp.1
    omega
  | x :: l, h, hd => by
    rcases hp.mul (show p ∣ x * prod l from hd) with h1 | h1
    · exact h x List.mem_cons_self h1
    · exact prod_not hp l (fun y hy => h y (List.mem_cons_of_mem _ hy)) h1
theorem fermat {p a : Nat} (hp : IsPrime p) (ha : ¬ p ∣ a) : a ^ (p - 1) % p = 1 % p := by
  have hp2 := hp.1
  let L := List.range' 1 (p - 1)
  have hL : ∀ x, x ∈ L ↔ 1 ≤ x ∧ x < p := fun x => by
    show x ∈ List.range' 1 (p - 1) ↔ _
    rw [List.mem_range'_1]
    omega
  have hnL : L.Nodup := List.nodup_range'
  have hLn : ∀ x, x ∈ L → ¬ p ∣ x := fun x hx hd => by
    have := (hL x).mp hx
    have := Nat.le_of_dvd (by omega) hd
    omega
  have hM : (L.map fun x => a * x % p).Perm L := by
    refine perm_of ?_ ?_ (by rw [List.length_map])
    · refine List.pairwise_map.mpr (List.Pairwise.imp_of_mem ?_ hnL)
      intro x y hx hy hne he
      have bx := (hL x).mp hx
      have bY := (hL y).mp hy
      have key : ∀ u v, 1 ≤ u → u < p → v < p → u ≤ v → a * u % p = a * v % p → u = v := fun u v h1 h2 h3 h4 h5 => by
        have hd : p ∣ a * (v - u) := by
          rw [Nat.mul_sub]
          exact dvd_sub_of h5
        rcases hp.mul hd with h6 | h6
        · exact absurd h6 ha
        · by_cases h7 : v - u = 0
          · omega
          · have := Nat.le_of_dvd (by omega) h6
            omega
      rcases Nat.le_total x y with h | h
      · exact hne (key x y bx.1 bx.2 bY.2 h he)
      · exact hne (key y x bY.1 bY.2 bx.2 h he.symm).symm
    · intro z hz
      obtain ⟨x, hx, rfl⟩ := List.mem_map.mp hz
      refine (hL _).mpr ⟨?_, Nat.mod_lt _ (by omega)⟩
      by_cases h0 : a * x % p = 0
      · rcases hp.mul (Nat.dvd_of_mod_eq_zero h0) with h6 | h6
        · exact absurd h6 ha
        · exact absurd h6 (hLn x hx)
      · omega
  have e1 := prod_perm hM
  have e2 : a ^ L.length * prod L % p = prod L % p := by rw [← prod_map, e1]
  have hlen : L.length = p - 1 := List.length_range'
  rw [hlen] at e2
  have hpos : 1 ≤ a ^ (p - 1) := Nat.one_le_iff_ne_zero.mpr fun z => by
    have : a = 0 := Nat.pow_eq_zero.mp z |>.1
    subst this
    exact ha (Nat.dvd_zero p)
  have hd : p ∣ (a ^ (p - 1) - 1) * prod L := by
    rw [Nat.sub_mul, Nat.one_mul]
    exact dvd_sub_of e2.symm
  rcases hp.mul hd with h | h
  · exact (mod_of_dvd_sub hpos h).symm
  · exact absurd h (prod_not hp L hLn)
theorem p2 : IsPrime 2 := prime_of (k := 0) (by decide) (by decide) (by decide)
theorem p3 : IsPrime 3 := prime_of (k := 0) (by decide) (by decide) (by decide)
theorem p5 : IsPrime 5 := prime_of (k := 1) (by decide) (by decide) (by decide +kernel)
theorem p7 : IsPrime 7 := prime_of (k := 1) (by decide) (by decide) (by decide +kernel)
theorem p11 : IsPrime 11 := prime_of (k := 2) (by decide) (by decide) (by decide +kernel)
theorem p13 : IsPrime 13 := prime_of (k := 2) (by decide) (by decide) (by decide +kernel)
theorem p101 : IsPrime 101 := prime_of (k := 9) (by decide) (by decide) (by decide +kernel)
theorem pBig : IsPrime 999999937 := prime_of (k := 31622) (by decide) (by decide +kernel) (by decide +kernel)
end Br.F

/-! ### tables' polynomials: the shares of Lagrange's formula modulo a prime -/
namespace Br.F
def Tp (x : Int) : Nat → Int
  | 0 => 1
  | n + 1 => Tp x n * (x - (n : Int))
def Ab (x : Int) (at_ : Nat) : Nat → Int
  | 0 => 1
  | n + 1 => if n = at_ then Ab x at_ n else Ab x at_ n * (x - (n : Int))
def fct : Nat → Int
  | 0 => 1
  | n + 1 => fct n * ((n : Int) + 1)
def sg (m : Nat) : Int := if m % 2 = 0 then 1 else -1
theorem sg_succ (m : Nat) : sg (m + 1) = - sg m := by
  unfold sg
  split <;> split <;> first | omega | rfl
theorem Ab_eq {x : Int} {at_ n : Nat} (h : n ≠ at_) : Ab x at_ (n + 1) = Ab x at_ n * (x - (n : Int)) := if_neg h
theorem Ab_at {x : Int} {at_ : Nat} : Ab x at_ (at_ + 1) = Ab x at_ at_ := if_pos rfl
theorem Ab_lt {x : Int} {at_ : Nat} : ∀ {n : Nat}, n ≤ at_ → Ab x at_ n = Tp x n
  | 0, _ => rfl
  | n + 1, h => by
    rw [Ab_eq (by omega), Ab_lt (by omega)]
    rfl
theorem Tp_split {x : Int} {at_ : Nat} : ∀ {n : Nat}, at_ < n → Tp x n = (x - (at_ : Int)) * Ab x at_ n
  | 0, h => by omega
  | n + 1, h => by
    by_cases e : n = at_
    · subst e
      rw [Ab_at, Ab_lt (Nat.le_refl _), Int.mul_comm]
      rfl
    · rw [Ab_eq e]
      show Tp x n * (x - (n : Int)) = _
      rw [Tp_split (at_ := at_) (by omega), Int.mul_assoc]
theorem Ab_zero {x at_ : Nat} (hx : x ≠ at_) : ∀ {n : Nat}, x < n → Ab (x : Int) at_ n = 0
  | 0, h => by omega
  | n + 1, h => by
    by_cases e : n = at_
    · subst e
      rw [Ab_at, Ab_zero hx (by omega)]
    · rw [Ab_eq e]
      by_cases e2 : x = n
      · subst e2
        rw [Int.sub_self, Int.mul_zero]
      · rw [Ab_zero hx (by omega), Int.zero_mul]
theorem Tp_low {at_ : Nat} : ∀ {n : Nat}, n ≤ at_ → Tp (at_ : Int) n * fct (at_ - n) = fct at_
  | 0, _ => by rw [Nat.sub_zero]; exact Int.one_mul _
  | n + 1, h => by
    have ih := Tp_low (at_ := at_) (n := n) (by omega)
    obtain ⟨k, hk⟩ : ∃ k, at_ - n = k + 1 := ⟨at_ - n - 1, by omega⟩
    have e : at_ - (n + 1) = k := by omega
    rw [hk] at ih
    rw [e]
    show Tp (at_ : Int) n * ((at_ : Int) - (n : Int)) * fct k = _
    have e2 : (at_ : Int) - (n : Int) = (k : Int) + 1 := by omega
    rw [e2, Int.mul_assoc, Int.mul_comm ((k : Int) + 1)]
    exact ih
theorem Ab_hi {at_ : Nat} : ∀ m : Nat, Ab (at_ : Int) at_ (at_ + 1 + m) = fct at_ * (sg m * fct m)
  | 0 => by
    show Ab (at_ : Int) at_ (at_ + 1) = _
    rw [Ab_at, Ab_lt (Nat.le_refl _)]
    have h := Tp_low (at_ := at_) (Nat.le_refl at_)
    rw [Nat.sub_self] at h
    have e : fct 0 = 1 := rfl
    have e2 : sg 0 = 1 := rfl
    rw [e, Int.mul_one] at h
    rw [h, e, e2, Int.mul_one, Int.mul_one]
  | m + 1 => by
    show Ab (at_ : Int) at_ (at_ + 1 + m + 1) = _
    rw [Ab_eq (by omega), Ab_hi m, sg_succ]
    show _ = fct at_ * (-sg m * (fct m * ((m : Int) + 1)))
    have e : (at_ : Int) - ((at_ + 1 + m : Nat) : Int) = -((m : Int) + 1) := by omega
    rw [e]
    grind
theorem IsPrime.mulI {p : Nat} {a b : Int} (hp : IsPrime p) (h : (p : Int) ∣ a * b) : (p : Int) ∣ a ∨ (p : Int) ∣ b := by
  have h' : p ∣ a.natAbs * b.natAbs := by
    rw [← Int.natAbs_mul]
    exact Int.natAbs_dvd_natAbs.mpr h
  rcases hp.mul h' with h1 | h1
  · exact .inl (Int.ofNat_dvd_left.mpr h1)
  · exact .inr (Int.ofNat_dvd_left.mpr h1)
theorem small_dvd {p : Nat} {z : Int} (h : (p : Int) ∣ z) (h1 : -(p : Int) < z) (h2 : z < p) : z = 0 := by
  obtain ⟨q, hq⟩ := h
  have hp : 0 < (p : Int) := by omega
  by_cases h0 : q = 0
  · rw [hq, h0, Int.mul_zero]
  · exfalso
    rcases Int.lt_or_gt_of_ne h0 with hl | hl
    · have : (p : Int) * q ≤ p * (-1) := Int.mul_le_mul_of_nonneg_left (by omega) (by omega)
      omega
    · have : (p : Int) * 1 ≤ p * q := Int.mul_le_mul_of_nonneg_left (by omega) (by omega)
      omega
theorem one_not {p : Nat} (hp : IsPrime p) : ¬ (p : Int) ∣ 1 := fun h => by
  have := small_dvd h (by have := hp.1; omega) (by have := hp.1; omega)
  omega
theorem Ab_not {p at_ : Nat} {x : Int} (hp : IsPrime p) : ∀ {n : Nat}, (∀ o : Nat, o < n → o ≠ at_ → ¬ (p : Int) ∣ x - (o : Int)) → ¬ (p : Int) ∣ Ab x at_ n
  | 0, _ => one_not hp
  | n + 1, h => by
    have ih := Ab_not (n := n) hp fun o ho => h o (by omega)
    by_cases e : n = at_
    · subst e
      rw [Ab_at]
      exact ih
    · rw [Ab_eq e]
      intro hd
      rcases hp.mulI hd with h1 | h1
      · exact ih h1
      · exact h n (by omega) e h1
theorem Ab_own {p at_ n : Nat} (hp : IsPrime p) (ha : at_ < n) (hn : n ≤ p) : ¬ (p : Int) ∣ Ab (at_ : Int) at_ n :=
  Ab_not hp fun o ho hne hd => by
    have := small_dvd hd (by omega) (by omega)
    omega
/-- the share of the index at_ at x -/
def Bas (p n at_ : Nat) (x v : Int) : Prop := 0 ≤ v ∧ v < p ∧ (p : Int) ∣ v * Ab (at_ : Int) at_ n - Ab x at_ n
theorem Bas.uniq {p n at_ : Nat} {x u v : Int} (hp : IsPrime p) (ha : at_ < n) (hn : n ≤ p) (hu : Bas p n at_ x u) (hv : Bas p n at_ x v) : u = v := by
  have h : (p : Int) ∣ (u - v) * Ab (at_ : Int) at_ n := by
    have := Int.dvd_sub hu.2.2 hv.2.2
    have e : (u - v) * Ab (at_ : Int) at_ n = u * Ab (at_ : Int) at_ n - Ab x at_ n - (v * Ab (at_ : Int) at_ n - Ab x at_ n) := by grind
    rw [e]
    exact this
  rcases hp.mulI h with h1 | h1
  · have := small_dvd h1 (by have := hu.1; have := hv.2.1; omega) (by have := hv.1; have := hu.2.1; omega)
    omega
  · exact absurd h1 (Ab_own hp ha hn)
theorem Bas.ind {p n at_ x : Nat} (hp : IsPrime p) (hx : x < n) : Bas p n at_ (x : Int) (if at_ = x then 1 else 0) := by
  have hp2 := hp.1
  refine ⟨by split <;> omega, by split <;> omega, ?_⟩
  by_cases e : at_ = x
  · subst e
    rw [if_pos rfl, Int.one_mul, Int.sub_self]
    exact Int.dvd_zero _
  · rw [if_neg e, Int.zero_mul, Ab_zero (fun z => e z.symm) hx, Int.sub_self]
    exact Int.dvd_zero _
/-- by the inverse of the whole bottom -/
theorem Bas.inv {p n at_ : Nat} {x tp bot y : Int} (ha : at_ < n) (hp2 : 2 ≤ p) (ht : (p : Int) ∣ tp - Tp x n) (hb : (p : Int) ∣ bot - Ab (at_ : Int) at_ n) (hy : y * ((x - (at_ : Int)) * bot) % p = 1) : Bas p n at_ x (tp * y % p) := by
  refine ⟨Int.emod_nonneg _ (by omega), Int.emod_lt_of_pos _ (by omega), ?_⟩
  rw [Tp_split ha] at ht
  generalize Ab (at_ : Int) at_ n = A at *
  generalize Ab x at_ n = U at *
  generalize x - (at_ : Int) = D at *
  obtain ⟨t1, h1⟩ := ht
  obtain ⟨t2, h2⟩ := hb
  have h3 := Int.mul_ediv_add_emod (y * (D * bot)) p
  rw [hy] at h3
  have h4 := Int.mul_ediv_add_emod (tp * y) p
  generalize y * (D * bot) / (p : Int) = t3 at *
  generalize tp * y / (p : Int) = t4 at *
  generalize tp * y % (p : Int) = v at *
  refine ⟨t1 * y * A - t4 * A + U * (t3 - D * y * t2), ?_⟩
  have e1 : tp = D * U + p * t1 := by omega
  have e2 : bot = A + p * t2 := by omega
  have e3 : v = tp * y - p * t4 := by omega
  subst e1 e2 e3
  have e5 : y * (D * (A + p * t2)) = p * t3 + 1 := by omega
  have e6 : U * (y * (D * (A + p * t2))) = U * (p * t3 + 1) := by rw [e5]
  grind
theorem pow_dvd {p a b : Int} (h : p ∣ a - b) : ∀ k : Nat, p ∣ a ^ k - b ^ k
  | 0 => by rw [Int.pow_zero, Int.pow_zero, Int.sub_self]; exact Int.dvd_zero _
  | k + 1 => by
    obtain ⟨u, hu⟩ := pow_dvd h k
    obtain ⟨v, hv⟩ := h
    refine ⟨u * a + b ^ k * v, ?_⟩
    rw [Int.pow_succ, Int.pow_succ]
    have e1 : a ^ k = b ^ k + p * u := by omega
    have e2 : a = b + p * v := by omega
    rw [e1]
    generalize b ^ k = B
    subst e2
    grind
/-- by Fermat's power -/
theorem Bas.pow {p n at_ : Nat} {x ab be pw : Int} (hp : IsPrime p) (hat : at_ < n) (hn : n ≤ p) (hbe0 : 0 ≤ be) (ha : (p : Int) ∣ ab - Ab x at_ n) (hb : (p : Int) ∣ be - Ab (at_ : Int) at_ n) (hw : (p : Int) ∣ pw - be ^ (p - 2)) : Bas p n at_ x (ab * pw % p) := by
  have hp2 := hp.1
  refine ⟨Int.emod_nonneg _ (by omega), Int.emod_lt_of_pos _ (by omega), ?_⟩
  have hA := Ab_own hp hat hn
  generalize Ab (at_ : Int) at_ n = A at *
  generalize Ab x at_ n = U at *
  have hbn : ¬ (p : Int) ∣ be := fun h => hA (by
    have e : A = be - (be - A) := by omega
    rw [e]
    exact Int.dvd_sub h hb)
  obtain ⟨bn, rfl⟩ : ∃ bn : Nat, be = (bn : Int) := ⟨be.toNat, by omega⟩
  have hf : bn ^ (p - 1) % p = 1 % p := fermat hp fun h => hbn (Int.ofNat_dvd.mpr h)
  have hf2 : ((bn : Int) ^ (p - 1)) % (p : Int) = 1 := by
    have h1 : 1 % p = 1 := Nat.mod_eq_of_lt (by omega)
    rw [h1] at hf
    have e : (((bn ^ (p - 1) % p : Nat)) : Int) = 1 := by rw [hf]; rfl
    rw [Int.natCast_emod, Int.natCast_pow] at e
    exact e
  have h3 := Int.mul_ediv_add_emod ((bn : Int) ^ (p - 1)) p
  rw [hf2] at h3
  obtain ⟨k, hk⟩ : ∃ k, p = k + 2 := ⟨p - 2, by omega⟩
  have e1 : p - 1 = k + 1 := by omega
  have e2 : p - 2 = k := by omega
  rw [e1, Int.pow_succ] at h3
  rw [e2] at hw
  generalize (bn : Int) ^ k = W at *
  generalize (W * (bn : Int)) / (p : Int) = t3 at *
  obtain ⟨t1, h1⟩ := ha
  obtain ⟨t2, h2⟩ := hb
  obtain ⟨t5, h5⟩ := hw
  have h4 := Int.mul_ediv_add_emod (ab * pw) p
  generalize ab * pw / (p : Int) = t4 at *
  generalize ab * pw % (p : Int) = v at *
  have g1 : ab = U + p * t1 := by omega
  have g2 : A = (bn : Int) - p * t2 := by omega
  have g3 : v = ab * pw - p * t4 := by omega
  have g5 : pw = W + p * t5 := by omega
  have g6 : W * (bn : Int) = 1 + p * t3 := by omega
  subst g1 g5
  subst g3
  subst g2
  refine ⟨t1 * (W + p * t5) * ((bn : Int) - p * t2) - t4 * ((bn : Int) - p * t2) + U * t3 + U * t5 * ((bn : Int) - p * t2) - U * W * t2, ?_⟩
  have g7 : U * (W * (bn : Int)) = U * (1 + p * t3) := by rw [g6]
  grind
/-- sums -/
def S1 (f : Nat → Int) : Nat → Int
  | 0 => 0
  | n + 1 => S1 f n + f n
theorem S1_congr {f g : Nat → Int} : ∀ {n : Nat}, (∀ i, i < n → f i = g i) → S1 f n = S1 g n
  | 0, _ => rfl
  | n + 1, h => by
    show S1 f n + f n = S1 g n + g n
    rw [S1_congr fun i hi => h i (by omega), h n (by omega)]
theorem S1_mul {f : Nat → Int} {c : Int} : ∀ {n : Nat}, S1 (fun i => c * f i) n = c * S1 f n
  | 0 => (Int.mul_zero c).symm
  | n + 1 => by
    show S1 (fun i => c * f i) n + c * f n = c * (S1 f n + f n)
    rw [S1_mul, Int.mul_add]
theorem S1_one {n k : Nat} {f : Nat → Int} (h : ∀ i, i ≠ k → f i = 0) : k < n → S1 f n = f k := by
  induction n with
  | zero => intro hk; omega
  | succ n ih =>
    intro hk
    show S1 f n + f n = f k
    by_cases e : k = n
    · subst e
      have z : ∀ m, m ≤ k → S1 f m = 0 := fun m => by
        induction m with
        | zero => intro _; rfl
        | succ m ih => intro hm; show S1 f m + f m = 0; rw [ih (by omega), h m (by omega)]; rfl
      rw [z k (Nat.le_refl _), Int.zero_add]
    · rw [ih (by omega), h n (fun z => e z.symm), Int.add_zero]
/-- the value of the table's polynomial -/
def Itp (p : Nat) (t : List (List Int)) (x y v : Int) : Prop := ∃ R C : Nat → Int, (∀ i, i < t.length → Bas p t.length i x (R i)) ∧ (∀ j, j < t.length → Bas p t.length j y (C j)) ∧
  v = S1 (fun i => R i * S1 (fun j => C j * (t.getD i []).getD j 0) t.length) t.length % p
theorem Itp.uniq {p : Nat} {t : List (List Int)} {x y u v : Int} (hp : IsPrime p) (hn : t.length ≤ p) (hu : Itp p t x y u) (hv : Itp p t x y v) : u = v := by
  obtain ⟨R, C, h1, h2, h3⟩ := hu
  obtain ⟨R', C', h1', h2', h3'⟩ := hv
  rw [h3, h3']
  congr 1
  refine S1_congr fun i hi => ?_
  rw [(h1 i hi).uniq hp hi hn (h1' i hi)]
  congr 1
  exact S1_congr fun j hj => by rw [(h2 j hj).uniq hp hj hn (h2' j hj)]
theorem Itp.own {p : Nat} {t : List (List Int)} {x y : Nat} (hp : IsPrime p) (hx : x < t.length) (hy : y < t.length) (h0 : 0 ≤ (t.getD x []).getD y 0) (h1 : (t.getD x []).getD y 0 < p) : Itp p t x y ((t.getD x []).getD y 0) := by
  refine ⟨fun i => if i = x then 1 else 0, fun j => if j = y then 1 else 0, fun i _ => .ind hp hx, fun j _ => .ind hp hy, ?_⟩
  rw [S1_one (k := x) (fun i hi => by show (if i = x then (1 : Int) else 0) * _ = 0; rw [if_neg hi, Int.zero_mul]) hx]
  show _ = (if x = x then (1 : Int) else 0) * S1 _ _ % _
  rw [if_pos rfl, Int.one_mul, S1_one (k := y) (fun j hj => by show (if j = y then (1 : Int) else 0) * _ = 0; rw [if_neg hj, Int.zero_mul]) hy]
  show _ = (if y = y then (1 : Int) else 0) * _ % _
  rw [if_pos rfl, Int.one_mul, Int.emod_eq_of_lt h0 h1]
/-- the share, written out -/
def BsV (p n i : Nat) (x : Int) : Int := Ab x i n * (Ab (i : Int) i n % p) ^ (p - 2) % p
theorem BsV.ok {p n i : Nat} {x : Int} (hp : IsPrime p) (hi : i < n) (hn : n ≤ p) : Bas p n i x (BsV p n i x) := by
  have hp2 := hp.1
  refine Bas.pow (be := Ab (i : Int) i n % p) hp hi hn (Int.emod_nonneg _ (by omega)) ⟨0, by omega⟩ ?_ ⟨0, by omega⟩
  have := Int.mul_ediv_add_emod (Ab (i : Int) i n) p
  exact ⟨-(Ab (i : Int) i n / p), by rw [Int.mul_neg]; omega⟩
theorem Itp.mk' {p : Nat} {t : List (List Int)} {x y v : Int} (hp : IsPrime p) (hn : t.length ≤ p) (h0 : 0 ≤ v) (h1 : v < p) (hd : (p : Int) ∣ v - S1 (fun i => BsV p t.length i x * S1 (fun j => BsV p t.length j y * (t.getD i []).getD j 0) t.length) t.length) : Itp p t x y v := by
  refine ⟨fun i => BsV p t.length i x, fun j => BsV p t.length j y, fun i hi => BsV.ok hp hi hn, fun j hj => BsV.ok hp hj hn, ?_⟩
  generalize S1 _ _ = s at *
  have hp2 := hp.1
  have h4 := Int.mul_ediv_add_emod s p
  have h5 := Int.emod_nonneg s (show (p : Int) ≠ 0 by omega)
  have h6 := Int.emod_lt_of_pos s (show (0 : Int) < p by omega)
  have h7 : (p : Int) ∣ v - s % p := by
    have e : v - s % p = v - s + p * (s / p) := by omega
    rw [e]
    exact Int.dvd_add hd (Int.dvd_mul_right _ _)
  have := small_dvd h7 (by omega) (by omega)
  omega
end Br.F

/-! ### zip of a list and a tuple -/
namespace Br
open PySem PySem.Spec PyProof.Rows L2
def ItzM (K : PySem.W.Frag) (a b : Addr) : It where
  go := fun i H => ∃ (xs ys : List V), SqL K H a xs ∧ SqT K H b ys ∧ i < xs.length ∧ i < ys.length
  yld := fun i H v H' => ∃ (p : Addr) (x y : V), v = .ref p ∧ H p = none ∧ H' = upd H p (.tup [x, y]) ∧ (∀ xs, SqL K H a xs → xs[i]? = some x) ∧ (∀ ys, SqT K H b ys → ys[i]? = some y)
  stop := fun i H => ∃ (xs ys : List V), SqL K H a xs ∧ SqT K H b ys ∧ i ≤ xs.length ∧ i ≤ ys.length ∧ (i = xs.length ∨ i = ys.length)
def MixSt (a b z p q i1 i2 : Addr) (i : Nat) (h : Heap) : Prop :=
  IsZip h z p q .none ∧ IsTupOf2 h p (.ref i1) (.ref i2) ∧ (∃ u v, IsTupOf2 h q u v) ∧ h.IsListIter i1 a i ∧ h.IsTupleIter i2 b i
theorem MixSt.sizes {a b z p q i1 i2 : Addr} {i : Nat} {h : Heap} (m : MixSt a b z p q i1 i2 i h) : z < h.objs.size ∧ p < h.objs.size ∧ q < h.objs.size ∧ i1 < h.objs.size ∧ i2 < h.objs.size := by
  obtain ⟨e1, e2, ⟨_, _, e3⟩, ⟨_, e4, _⟩, ⟨_, e5, _⟩⟩ := m
  exact ⟨Heap.lt_size e1, Heap.lt_size e2, Heap.lt_size e3, Heap.lt_size e4, Heap.lt_size e5⟩
theorem in5 {c z p q i1 i2 : Addr} (h : c ∈ [z, p, q, i1, i2]) : c = z ∨ c = p ∨ c = q ∨ c = i1 ∨ c = i2 := by simpa using h
theorem turn_mix {P : Program} {w : World} {K : PySem.W.Frag} {elts : List Expr} {kk : Nat} {tpos : Pos} {a b z p q i1 i2 : Addr} (S : ZipSep2 z p q i1 i2 [i1, a] [i2, b]) :
    Turn P w K (.Tuple elts kk tpos) (ItzM K a b) [z, p, q, i1, i2] z (MixSt a b z p q i1 i2) := by
  have ha : a ≠ i1 ∧ b ≠ i2 ∨ True := .inr trivial
  refine ⟨by simp, ?obj, ?keep, ?item, ?done, ?self⟩
  case obj =>
    intro i h st c hc
    obtain ⟨e1, e2, ⟨_, _, e3⟩, ⟨o4, e4, _, d4⟩, ⟨o5, e5, _, d5⟩⟩ := st
    rcases in5 hc with rfl | rfl | rfl | rfl | rfl
    · exact ⟨_, e1, fun _ z => nomatch z⟩
    · exact ⟨_, e2, fun _ z => nomatch z⟩
    · exact ⟨_, e3, fun _ z => nomatch z⟩
    · exact ⟨_, e4, fun _ z => by rw [d4] at z; cases z⟩
    · exact ⟨_, e5, fun _ z => by rw [d5] at z; cases z⟩
  case keep =>
    intro i h h' st k
    obtain ⟨e1, e2, ⟨u, v, e3⟩, e4, e5⟩ := st
    exact ⟨k _ (by simp) _ e1, k _ (by simp) _ e2, ⟨u, v, k _ (by simp) _ e3⟩, e4.at fun o => k _ (by simp) o, e5.at fun o => k _ (by simp) o⟩
  case item =>
    intro X hP hw hK hc i pins s σ H E I hf st hg
    subst hP hw hK
    have sz := st.sizes
    obtain ⟨e1, e2, ⟨u, v, e3⟩, e4, e5⟩ := st
    obtain ⟨xs, ys, hx, hy, lx, ly⟩ := hg
    obtain ⟨us, rx, p1, _⟩ := I.list hx
    obtain ⟨ws, ry, p2, _⟩ := I.tuple hy
    have nx := rx.length
    have ny := ry.length
    have hd : X.A.in1.handled = none := I.ok.hd hc
    have na : a ≠ i1 := fun e => by
      obtain ⟨o, eo, co, _⟩ := e4
      obtain ⟨o', _, eo', co', _⟩ := p1
      rw [e, eo] at eo'
      cases eo'
      rw [co] at co'
      simp at co'
    have nb : b ≠ i2 := fun e => by
      obtain ⟨o, eo, co, _⟩ := e5
      obtain ⟨o', eo', co', _⟩ := p2
      rw [e, eo] at eo'
      cases eo'
      rw [co] at co'
      simp at co'
    refine wpAny_pyNext_zipD2_item S (Draws.list hd i1 a na us.toArray) (Draws.tuple hd i2 b nb ws.toArray) e1 e2 e3 ⟨e4, p1.isList⟩ ⟨e5, p2⟩ (by simp; omega) (by simp; omega) ?_
    intro x1 x2 h1 tk q1 q2 z1 t1 s1 s2 nw hs hk
    refine ⟨_, rfl, wpAny_letOwnedTupleGo_zip (s := { s with heap := h1, toks := tk }) z1 fun h2 z2 sb => ?_⟩
    obtain ⟨x, gx⟩ : ∃ x, xs[i]? = some x := ⟨_, List.getElem?_eq_getElem lx⟩
    obtain ⟨y, gy⟩ : ∃ y, ys[i]? = some y := ⟨_, List.getElem?_eq_getElem ly⟩
    obtain ⟨ux, gux, rux⟩ := rx.get gx
    obtain ⟨uy, guy, ruy⟩ := ry.get gy
    have ex : x1 = ux := by
      rw [List.getElem?_toArray, gux] at q1
      exact (Option.some.inj q1).symm
    have ey : x2 = uy := by
      rw [List.getElem?_toArray, guy] at q2
      exact (Option.some.inj q2).symm
    subst ex ey
    have ne : ∀ {c : Addr}, c < s.heap.objs.size → s.heap.objs.size ≠ c := fun h => Nat.ne_of_gt h
    have new2 : h2.get? s.heap.objs.size = some { cls := .type "tuple", data := .seq #[x1, x2] } := (sb.2 _ (ne sz.1)).trans nw
    have kp : ∀ c o, c ∉ [z, p, q, i1, i2] → s.heap.get? c = some o → h2.get? c = some o := fun c o hc e => by
      have m : ∀ d, d ∈ [z, p, q, i1, i2] → c ≠ d := fun d hd e => hc (e ▸ hd)
      exact (sb.2 c (m z (by simp))).trans (hk c o (m z (by simp)) (m q (by simp)) (m i1 (by simp)) (m i2 (by simp)) e)
    have ok : ObjOk X.prog X.w (upd H s.heap.objs.size (.tup [x, y])) h2 s.heap.objs.size (.tup [x, y]) :=
      ⟨(show 2 ≤ sizeLine by decide), [x1, x2], .cons rux (.cons ruy .nil), ⟨_, new2, rfl, 0, rfl⟩⟩
    have J := I.turnedNew (t' := tk) kp hf (Nat.le_refl _) ok
    refine ⟨.ref s.heap.objs.size, _, J, rfl, ⟨_, x, y, rfl, I.hok.fresh (Nat.le_refl _), rfl, fun l hl => by rw [I.list_inj hl hx]; exact gx, fun l hl => by rw [I.tuple_inj hl hy]; exact gy⟩, ?_, fun c hcm => ?_⟩
    · refine ⟨z2, (sb.2 _ S.TIz).trans (hk _ _ S.TIz S.TITO S.TIi1 S.TIi2 e2), ⟨_, _, (sb.2 _ S.TOz).trans t1⟩, s1.1.at fun o e => (sb.2 _ S.zi1.symm).trans e, s2.1.at fun o e => (sb.2 _ S.zi2.symm).trans e⟩
    · rw [upd_ne]
      · exact (hf c hcm).1
      · rcases in5 hcm with rfl | rfl | rfl | rfl | rfl
        · exact (ne sz.1).symm
        · exact (ne sz.2.1).symm
        · exact (ne sz.2.2.1).symm
        · exact (ne sz.2.2.2.1).symm
        · exact (ne sz.2.2.2.2).symm
  case done =>
    intro X hP hw hK hc i pins s σ H E I hf st hg
    subst hP hw hK
    obtain ⟨e1, e2, ⟨u, v, e3⟩, e4, e5⟩ := st
    obtain ⟨xs, ys, hx, hy, lx, ly, hend⟩ := hg
    obtain ⟨us, rx, p1, _⟩ := I.list hx
    obtain ⟨ws, ry, p2, _⟩ := I.tuple hy
    have nx := rx.length
    have ny := ry.length
    have hd : X.A.in1.handled = none := I.ok.hd hc
    have na : a ≠ i1 := fun e => by
      obtain ⟨o, eo, co, _⟩ := e4
      obtain ⟨o', _, eo', co', _⟩ := p1
      rw [e, eo] at eo'
      cases eo'
      rw [co] at co'
      simp at co'
    have nb : b ≠ i2 := fun e => by
      obtain ⟨o, eo, co, _⟩ := e5
      obtain ⟨o', eo', co', _⟩ := p2
      rw [e, eo] at eo'
      cases eo'
      rw [co] at co'
      simp at co'
    refine wpAny_pyNext_zipD2_end S (Draws.list hd i1 a na us.toArray) (Draws.tuple hd i2 b nb ws.toArray) e1 e2 e3 ⟨e4, p1.isList⟩ ⟨e5, p2⟩ (by simp; omega) (by simp; omega) (by simp; omega) ?_
    intro h1 tk hk
    exact ⟨rfl, I.turnedL (t' := tk) (ch := [z, p, q, i1, i2]) (fun c o hc e => by
      have m : ∀ d, d ∈ [z, p, q, i1, i2] → c ≠ d := fun d hd e => hc (e ▸ hd)
      exact hk c o (m z (by simp)) (m q (by simp)) (m i1 (by simp)) (m i2 (by simp)) e) hf⟩
  case self => exact fun A i s Q E st h => wpAny_pyIter_zip st.1 h
def iZipM (K : PySem.W.Frag) (ta : TA) : TI := fun σ H R => ta σ H fun vs H1 => ∃ a b xs ys, vs = [.ref a, .ref b] ∧ SqL K H1 a xs ∧ SqT K H1 b ys ∧ R (ItzM K a b) H1
theorem pi_zipM {X : Cx} {e e2 : Expr} {ta : TA} {p pos tpos : Pos} {elts : List Expr} {kk : Nat} (hg : Gl X "zip") (hm : X.mg "zip" = none) (ha : PA X [e, e2] ta)
    (hs : starEach [e, e2] X.env = (false, eval e X.env) :: starEach [e2] X.env := by rfl) (hpl : (backTo pos (starEach [e2] X.env)).any (·.1) = false := by rfl) :
    PI X (.Tuple elts kk tpos) (.Call (.Name "zip" p) [e, e2] [] pos) (iZipM X.K ta) := by
  refine ⟨fun pins s σ H R I h => Call_ (ld_blt I hg hm PyProof.Rows.boot_zip (PyProof.Rows.callWith_type1 (thn (ha.run pos pins s σ H _ I h) ?_) hs hpl))⟩
  rintro us s1 ⟨vs, H1, I1, r1, a, b, xs, ys, rfl, hx, hy, go⟩
  obtain ⟨u1, u2, rfl, ra, rb⟩ : ∃ u1 u2, us = [u1, u2] ∧ RelV (.ref a) u1 ∧ RelV (.ref b) u2 := by
    cases r1 with
    | cons r rr =>
      cases rr with
      | cons r' rr =>
        cases rr
        exact ⟨_, _, rfl, r, r'⟩
  cases (show u1 = Value.ref a from ra)
  cases (show u2 = Value.ref b from rb)
  obtain ⟨us, rx, p1, _⟩ := I1.list hx
  obtain ⟨ws, ry, p2, _⟩ := I1.tuple hy
  have la : a < s1.heap.objs.size := p1.lt
  have lb : b < s1.heap.objs.size := by
    obtain ⟨_, e, _⟩ := id p2
    exact Heap.lt_size e
  refine zip_begins2 (begins_list a us.toArray) (begins_tuple b ws.toArray) p1.isList p2 ?_
  intro h1 hz hp hq g1 g2 hsz hk
  refine wpAny_pyIter_zip hz ?_
  have sep := zip_sep2 (N := s1.heap.objs.size) (fp1 := [a]) (fp2 := [b]) (fun c hc => by
    have e : c = a := by simpa using hc
    rw [e]; exact la) (fun c hc => by
    have e : c = b := by simpa using hc
    rw [e]; exact lb)
  refine ⟨_, _, _, _, H1, rfl, I1.kept (t' := s1.toks) hk, turn_mix sep, ⟨hz, hp, ⟨_, _, hq⟩, ⟨_, g1, rfl, rfl⟩, ⟨_, g2, rfl, rfl⟩⟩, fun c hc => ?_, go⟩
  have hle : s1.heap.objs.size ≤ c := by
    rcases in5 hc with e | e | e | e | e
    · rw [e]; exact Nat.le_add_right _ _
    · rw [e]; exact Nat.le_add_right _ _
    · rw [e]; exact Nat.le_add_right _ _
    · rw [e]; exact Nat.le_refl _
    · rw [e]; exact Nat.le_add_right _ _
  exact I1.fpOk hle (I1.hok.fresh hle)
theorem walk_mix {K : PySem.W.Frag} {a b : Addr} {xs ys : List V} {n : Nat} (h1 : xs.length = n) (h2 : ys.length = n) : Walk (ItzM K a b) n (fun H => SqL K H a xs ∧ SqT K H b ys) (YPair (fun i => xs[i]?) (fun i => ys[i]?)) := by
  refine ⟨fun i H hi q => ⟨xs, ys, q.1, q.2, by omega, by omega⟩, fun H q => ⟨xs, ys, q.1, q.2, by omega, by omega, by omega⟩, fun i H v H' hi q y => ?_⟩
  obtain ⟨p, x, y, e1, e2, e3, e4, e5⟩ := y
  exact ⟨p, x, y, e1, e2, e3, e4 _ q.1, e5 _ q.2⟩
/-- a for, a comprehension by a walk -/
theorem x_forI {wi : TI} {g : TG} {tb : TS} {D : Ends} {σ : L2.St} {H : Hp} {J : It} {n : Nat} {G : Hp → Prop} {Y : Nat → Hp → V → Hp → Prop} (hw : ∀ R : It → Hp → Prop, R J H → wi σ H R) (w : Walk J n G Y) (P : Nat → L2.St → Hp → Prop) (h0 : P 0 σ H)
    (hG : ∀ i σ' H', i ≤ n → P i σ' H' → G H') (hs : ∀ i x σ' H' H2, i < n → P i σ' H' → Y i H' x H2 → g x σ' H2 fun σ2 H3 => tb ⟨P (i + 1), D.rt, D.nx, P (i + 1)⟩ σ2 H3) (hd : ∀ σ' H', P n σ' H' → D.nx σ' H') : tFor wi g tb D σ H :=
  hw _ (for_it w P h0 hG hs hd)
theorem x_lcI {wi : TI} {g : TG} {te : TE} {vs : List Nat} {Q : VK} {σ : L2.St} {H : Hp} {J : It} {n : Nat} {G : Hp → Prop} {Y : Nat → Hp → V → Hp → Prop} (hw : ∀ R : It → Hp → Prop, R J H → wi σ H R) (w : Walk J n G Y) (P : Addr → Nat → Hp → Prop) (h0 : ∀ p, H p = none → P p 0 (upd H p (.lst [])))
    (hG : ∀ p i H', i ≤ n → H p = none → P p i H' → G H')
    (hs : ∀ p i x H' H2, i < n → H p = none → P p i H' → Y i H' x H2 → g x (wipe σ vs) H2 fun σ2 H3 => wipe σ2 vs = wipe σ vs ∧ te σ2 H3 fun y H4 => ∃ acc, H4 p = some (.lst acc) ∧ acc.length < sizeLine ∧ P p (i + 1) (upd H4 p (.lst (acc ++ [y]))))
    (hg : ∀ x σ' H' (R R' : L2.St → Hp → Prop), (∀ σ2 H2, R σ2 H2 → R' σ2 H2) → g x σ' H' R → g x σ' H' R') (hd : ∀ p H', H p = none → P p n H' → Q (.ref p) H') : tLc wi g tYes te vs σ H Q := by
  refine hw _ fun p hp => ?_
  refine lc_it w (Qd := fun H' => Q (.ref p) H') (P p) (h0 p hp) (fun i H' hi q => hG p i H' hi hp q) (fun i x H' H2 hi q y => ?_) fun H' q => hd p H' hp q
  refine hg _ _ _ _ _ (fun σ2 H3 z => ?_) (hs p i x H' H2 hi hp q y)
  refine ⟨z.1, ?_⟩
  unfold tYes
  exact iteT z.2
/-- a comprehension of truths, item by item -/
theorem x_lcB {wi : TI} {te : TE} {vs : List Nat} {j : Nat} {Q : VK} {σ : L2.St} {H : Hp} {J : It} {G : Hp → Prop} {xs : List V} (f : Nat → Bool) (hw : ∀ R : It → Hp → Prop, R J H → wi σ H R) (w : Walk J xs.length G (YAt xs)) (hn : xs.length ≤ 100000)
    (hG : ∀ H', Same H H' → G H') (hv : ∀ x, wipe ((wipe σ vs).set j (some x)) vs = wipe σ vs)
    (he : ∀ (i : Nat) x H', Same H H' → xs[i]? = some x → ∀ R : VK, (∀ H2, Same H' H2 → R (.bl (f i)) H2) → te ((wipe σ vs).set j (some x)) H' R)
    (hd : ∀ p H', H p = none → Same H H' → H' p = some (.lst (((List.range xs.length).map f).map V.bl)) → Q (.ref p) H') : tLc wi (gName j) tYes te vs σ H Q := by
  refine x_lcI hw w (fun p i H' => Same H H' ∧ H' p = some (.lst (((List.range i).map f).map V.bl))) (fun p hp => ⟨same_upd hp, upd_same⟩) (fun p i H' _ _ z => hG H' z.1) ?_ (fun x σ' H' R R' hr h => hr _ _ h) fun p H' hp z => hd p H' hp z.1 z.2
  rintro p i x H' H2 hi hp ⟨hs, hl⟩ ⟨rfl, hx⟩
  refine x_gName ⟨hv x, he i x _ hs hx _ fun H3 hs3 => ?_⟩
  refine ⟨_, hs3 _ _ hl, lt_line (by simp; omega), sput (hs.trans hs3) hp, ?_⟩
  rw [upd_same, List.range_succ, List.map_append, List.map_append]
  rfl
theorem x_all {K : PySem.W.Frag} {Q : VK} {H : Hp} {p : Addr} {bs : List Bool} (h : H p = some (.lst (bs.map V.bl))) (q : Q (.bl (bs.all id)) H) : rAll K [.ref p] H Q := ⟨p, bs, rfl, sq_of h, q⟩
theorem x_any {K : PySem.W.Frag} {Q : VK} {H : Hp} {p : Addr} {bs : List Bool} (h : H p = some (.lst (bs.map V.bl))) (q : Q (.bl (bs.any id)) H) : rAny K [.ref p] H Q := ⟨p, bs, rfl, sq_of h, q⟩
theorem all_range {n : Nat} {f : Nat → Bool} (h : ∀ i, i < n → f i = true) : ((List.range n).map f).all id = true := by
  rw [List.all_eq_true]
  intro b hb
  obtain ⟨i, hi, rfl⟩ := List.mem_map.mp hb
  exact h i (List.mem_range.mp hi)
/-- the same, over something made on the way -/
theorem x_lcB0 {wi : TI} {te : TE} {vs : List Nat} {j : Nat} {Q : VK} {σ : L2.St} {H : Hp} {xs : List V} (f : Nat → Bool) (hn : xs.length ≤ 100000)
    (hw : ∀ R : It → Hp → Prop, (∀ (J : It) (G : Hp → Prop) (H1 : Hp), Same H H1 → Walk J xs.length G (YAt xs) → (∀ H', Same H1 H' → G H') → R J H1) → wi σ H R) (hv : ∀ x, wipe ((wipe σ vs).set j (some x)) vs = wipe σ vs)
    (he : ∀ (i : Nat) x H', Same H H' → xs[i]? = some x → ∀ R : VK, (∀ H2, Same H' H2 → R (.bl (f i)) H2) → te ((wipe σ vs).set j (some x)) H' R)
    (hd : ∀ p H', Same H H' → H' p = some (.lst (((List.range xs.length).map f).map V.bl)) → Q (.ref p) H') : tLc wi (gName j) tYes te vs σ H Q := by
  refine hw _ fun J G H1 s1 w hG => ?_
  exact x_lcB (wi := fun _ H R => R J H) (H := H1) f (fun R r => r) w hn hG hv (fun i x H' s hx R hR => he i x H' (s1.trans s) hx R hR) fun p H' _ s h => hd p H' (s1.trans s) h
end Br

/-! ### tables in the heap -/
namespace Br
open PySem PySem.Spec PyProof.Rows L2 Br.F
theorem map_app {xs : List Int} {y : Int} {H : Hp} {a : Addr} : (L2.upd H a (.lst (xs.map V.int ++ [.int y]))) a = some (.lst ((xs ++ [y]).map V.int)) := by rw [upd_same, List.map_append]; rfl
def TabAt (K : PySem.W.Frag) (H : Hp) (a : Addr) (t : List (List Int)) : Prop := ∃ as : List Addr, SqT K H a (as.map V.ref) ∧ as.length = t.length ∧ ∀ (i : Nat) r b, t[i]? = some r → as[i]? = some b → SqT K H b (r.map V.int)
theorem TabAt.same {K : PySem.W.Frag} {H H' : Hp} {a : Addr} {t : List (List Int)} (h : TabAt K H a t) (s : Same H H') : TabAt K H' a t := by
  obtain ⟨as, h1, h2, h3⟩ := h
  exact ⟨as, seqT s h1, h2, fun i r b e1 e2 => seqT s (h3 i r b e1 e2)⟩
structure IsTab (p : Nat) (t : List (List Int)) : Prop where
  pos : 1 ≤ t.length
  le : t.length ≤ p
  rows : ∀ (i : Nat) r, t[i]? = some r → r.length = t.length ∧ Rg 0 p r
theorem get_getD {l : List Int} {i : Nat} (h : i < l.length) : l[i]? = some (l.getD i 0) := by rw [List.getD_eq_getElem?_getD, List.getElem?_eq_getElem h]; rfl
theorem getD_of {l : List Int} {i : Nat} {z : Int} (h : l[i]? = some z) : l.getD i 0 = z := by rw [List.getD_eq_getElem?_getD, h]; rfl
theorem dvd_step {p ab U d : Int} (h : p ∣ ab - U) : p ∣ ab * d % p - U * d := by
  obtain ⟨u, hu⟩ := h
  have h4 := Int.mul_ediv_add_emod (ab * d) p
  refine ⟨u * d - ab * d / p, ?_⟩
  have e : ab = U + p * u := by omega
  grind
theorem TabAt.get {K : PySem.W.Frag} {H : Hp} {a : Addr} {t : List (List Int)} {as : List Addr} (h : as.length = t.length) (h3 : ∀ (i : Nat) r b, t[i]? = some r → as[i]? = some b → SqT K H b (r.map V.int)) {i : Nat} (hi : i < t.length) : ∃ r b, t[i]? = some r ∧ as[i]? = some b ∧ SqT K H b (r.map V.int) :=
  ⟨_, _, List.getElem?_eq_getElem hi, List.getElem?_eq_getElem (by omega), h3 i _ _ (List.getElem?_eq_getElem hi) (List.getElem?_eq_getElem (by omega))⟩
end Br

/-! ### match over tuples that begin with a word -/
namespace Br
open PySem PySem.Spec PyProof.Rows L2
/-- the values that captures bind, by name -/
def capB : List Pattern → List Value → List (Str × Value)
  | .MatchAs none (some x) _ :: ps, u :: us => (x, u) :: capB ps us
  | .MatchAs none none _ :: ps, _ :: us => capB ps us
  | _, _ => []
def isCaps : List Pattern → Bool
  | [] => true
  | .MatchAs none _ _ :: ps => isCaps ps
  | _ => false
/-- the slots behind captures -/
def bindS : List (Option Nat) → List V → L2.St → L2.St
  | some i :: is, v :: vs, σ => bindS is vs (σ.set i (some v))
  | none :: is, _ :: vs, σ => bindS is vs σ
  | _, _, σ => σ
theorem each_caps {M : Model} {A : Around} {E : Value → Shared → Prop} {s : Shared} {env : Env} : ∀ {ps : List Pattern} {us : List Value} {Q : Option (List (Str × Value)) → Shared → Prop}, isCaps ps = true → us.length = ps.length → Q (some (capB ps us)) s → wpAny M A (matchEach ps env us) Q E s
  | [], us, Q, _, _, h => by
    have e : capB [] us = [] := by cases us <;> rfl
    rw [e] at h
    exact wpAny_matchEach_nil h
  | .MatchAs none nm pos :: ps, u :: us, Q, hc, hl, h => by
    refine wpAny_matchEach_cons (wpAny_matchPattern_Capture (each_caps (ps := ps) hc (by simpa using hl) ?_)) rfl
    cases nm with
    | none => exact h
    | some x => exact h
  | .MatchAs none nm pos :: ps, [], Q, hc, hl, h => by simp at hl
  | .MatchAs (some p) nm pos :: ps, us, Q, hc, hl, h => by simp [isCaps] at hc
  | .MatchValue .. :: ps, us, Q, hc, hl, h => by simp [isCaps] at hc
  | .MatchSingleton .. :: ps, us, Q, hc, hl, h => by simp [isCaps] at hc
  | .MatchSequence .. :: ps, us, Q, hc, hl, h => by simp [isCaps] at hc
  | .MatchMapping .. :: ps, us, Q, hc, hl, h => by simp [isCaps] at hc
  | .MatchClass .. :: ps, us, Q, hc, hl, h => by simp [isCaps] at hc
  | .MatchStar .. :: ps, us, Q, hc, hl, h => by simp [isCaps] at hc
  | .MatchOr .. :: ps, us, Q, hc, hl, h => by simp [isCaps] at hc
/-- captures into slots -/
structure PCap (X : Cx) (ps : List Pattern) (is : List (Option Nat)) : Prop where
  caps : isCaps ps = true
  run : ∀ (pins : List (Addr × Obj)) (s : Shared) (σ : L2.St) (H : Hp) (vs : List V) (us : List Value), Inv X pins σ H s → Vals vs us → us.length = ps.length →
    wpAny (model X.prog X.w) X.A (assignInOrder ((capB ps us).map fun (n, _) => bindName X.env n) ((capB ps us).map (·.2))) (fun _ s' => Inv X pins (bindS is vs σ) H s') X.xe s
section
variable {X : Cx}
theorem pcap_nil : PCap X [] [] := ⟨rfl, fun pins s σ H vs us I r hl => by
  have e : us = [] := List.length_eq_zero_iff.mp hl
  subst e
  cases r
  exact wpAny_assignInOrder_none I⟩
theorem pcap_name (i : Nat) {x : Str} {pos : Pos} {ps : List Pattern} {is : List (Option Nat)} (hN : X.N.Nodup) (hi : X.N[i]? = some x) (hx : Loc X.env.scope x) (h : PCap X ps is) (hf : X.fn x = true ∨ X.env.scope.names.lookup x = some .local := by first | exact .inl rfl | exact .inr rfl) :
    PCap X (.MatchAs none (some x) pos :: ps) (some i :: is) := ⟨h.caps, fun pins s σ H vs us I r hl => by
  cases r with
  | nil => simp at hl
  | cons rv rr =>
    refine wpAny_assignInOrder_more (wpAny_bindName (store_ok I hN hi hx rv (fun s' I' => ?_) hf))
    exact h.run pins s' _ H _ _ I' rr (by simpa using hl)⟩
theorem pcap_wild {pos : Pos} {ps : List Pattern} {is : List (Option Nat)} (h : PCap X ps is) : PCap X (.MatchAs none none pos :: ps) (none :: is) := ⟨h.caps, fun pins s σ H vs us I r hl => by
  cases r with
  | nil => simp at hl
  | cons rv rr => exact h.run pins s _ H _ _ I rr (by simpa using hl)⟩
/-- the cases of a match, asked of a value -/
structure PCs (X : Cx) (cs : List MatchCase) (t : V → TS) : Prop where
  run : ∀ (first : Bool) (pins : List (Addr × Obj)) (s : Shared) (σ : L2.St) (H : Hp) (D : Ends) (v : V) (u : Value), Inv X pins σ H s → RelV v u → t v D σ H → wpAny (model X.prog X.w) X.A (matchCases cs X.env u first) (SP X pins D) X.xe s
def tMatch (te : TE) (t : V → TS) : TS := fun D σ H => te σ H fun v H1 => t v D σ H1
theorem ps_match {e : Expr} {te : TE} {cs : List MatchCase} {t : V → TS} {pos : Pos} (he : PE X e te) (hc : PCs X cs t) : PS X (.Match e cs pos) (tMatch te t) :=
  ⟨fun pins s σ H D I h => wpAny_Match (thn (he.run pins s σ H _ I h) fun u s1 ⟨v, H1, I1, r, q⟩ => hc.run true pins s1 σ H1 D v u I1 r q)⟩
def tNoCase : V → TS := fun _ D σ H => D.nx σ H
theorem pcs_nil : PCs X [] tNoCase := ⟨fun _ _ _ σ H _ _ _ I _ h => wpAny_matchCases_nil ⟨σ, H, I, h⟩⟩
def tElse (t : TS) : V → TS := fun _ => t
theorem pcs_else {pos : Pos} {body : List Stmt} {rest : List MatchCase} {t : TS} (hb : PSs X body t) : PCs X (⟨.MatchAs none none pos, none, body⟩ :: rest) (tElse t) :=
  ⟨fun _ pins s σ H D v u I r h => wpAny_matchCases_cons (wpAny_matchPattern_Capture (wpAny_assignInOrder_none (hb.run pins s σ H D I h)))⟩
/-- a tuple of n parts that begins with the word -/
def tSeqW (K : PySem.W.Frag) (r : R2) (n : Nat) (word : Str) (is : List (Option Nat)) (body : TS) (rest : V → TS) : V → TS := fun v D σ H => ∃ (a : Addr) (xs : List V), v = .ref a ∧ SqT K H a xs ∧
  ((xs.length ≠ n ∧ rest v D σ H) ∨ ∃ y ys, xs = y :: ys ∧ xs.length = n ∧ r y (.str word) H fun z H1 => ∃ k, z = .bl k ∧ if k = true then body D (bindS is ys σ) H1 else rest v D σ H1)
theorem pcs_seq {r : R2} {n : Nat} {word : Str} {j : Nat} {p1 p2 p3 : Pos} {ps : List Pattern} {is : List (Option Nat)} {body : List Stmt} {rest : List MatchCase} {tb : TS} {tr : V → TS} (hc : X.calm = true) (ho : OpR X (compareOp .Eq) r) (hp : PCap X ps is) (hb : PSs X body tb) (hr : PCs X rest tr) (hn : ps.length + 1 = n := by rfl)
    (hs : (Pattern.MatchValue (.Constant (.str word) j p1) p2 :: ps).findIdx? (·.isStar) = none := by rfl) (hw : ((Pattern.MatchValue (.Constant (.str word) j p1) p2 :: ps).all fun p => p.isWildcard || (p.isStar && p.names.isEmpty)) = false := by rfl) :
    PCs X (⟨.MatchSequence (.MatchValue (.Constant (.str word) j p1) p2 :: ps) p3, none, body⟩ :: rest) (tSeqW X.K r n word is tb tr) := by
  refine ⟨fun first pins s σ H D v u I rv h => ?_⟩
  obtain ⟨a, xs, rfl, hx, h⟩ := h
  cases (show u = Value.ref a from rv)
  obtain ⟨its, ri, ht, hz⟩ := I.tuple hx
  have hl := ri.length
  have hfit : ((its.toArray.size : Nat) : Int) < 2 ^ 63 := by
    have h1 : its.length ≤ sizeLine := by rw [← hl]; exact hz
    have h2 : sizeLine < 2 ^ 63 := by decide
    have h3 : its.toArray.size < 2 ^ 63 := Nat.lt_of_le_of_lt (by simpa using h1) h2
    omega
  rcases h with ⟨hne, q⟩ | ⟨y, ys, rfl, hxl, q⟩
  · refine wpAny_matchCases_cons (matchSeq_tuple_miss ht hfit (by simp; omega) ?_ hs hw)
    exact hr.run false pins _ σ H D (.ref a) _ (I.tok _) rfl q
  · cases ri with
    | cons ry rys =>
      rename_i uy uys
      have hly := rys.length
      have sz : (uy :: uys).toArray.size = ps.length + 1 := by simp at hxl ⊢; omega
      refine wpAny_matchCases_cons (matchSeq_tuple_hit ht hfit (by simpa using sz) ?_ hs hw)
      have e : (Pattern.MatchValue (.Constant (.str word) j p1) p2 :: ps).length = (uy :: uys).toArray.size := sz.symm
      rw [e]
      refine unpackItems_tuple (I.ok.hd hc) ht fun h' hk => ?_
      have I2 : Inv X pins σ H { s with heap := h', toks := s.toks + 1 + 1 } := I.kept fun b o e => hk b o (Nat.ne_of_lt (Heap.lt_size e)) e
      refine wpAny_matchEach_cons (wpAny_matchPattern_Value ?_) rfl
      refine Calls.Constant_str ?_
      refine thn (ho pins _ σ H y (.str word) uy _ _ (I2.tok _) ry ⟨_, rfl⟩ q) fun c s3 ⟨z, H3, I3, rz, k, ez, q3⟩ => ?_
      subst ez
      cases rz
      refine wpAny_truthy_bool ?_
      cases k with
      | false =>
        rw [if_neg Bool.false_ne_true] at q3 ⊢
        exact hr.run false pins s3 σ H3 D (.ref a) _ I3 rfl q3
      | true =>
        rw [if_pos rfl] at q3 ⊢
        refine each_caps hp.caps (by simp at sz; exact sz) ?_
        refine thn (hp.run pins s3 σ H3 ys uys I3 rys (by simp at sz; exact sz)) fun _ s4 I4 => ?_
        exact hb.run pins s4 _ H3 D I4 q3
end
/-! ### steps of the reading -/
section
variable {σ : L2.St} {H : Hp} {D : Ends} {K : PySem.W.Frag} {v : V} {te : TE} {t : V → TS}
theorem x_match (h : te σ H fun v H1 => t v D σ H1) : tMatch te t D σ H := h
theorem x_else {t : TS} (h : t D σ H) : tElse t v D σ H := h
theorem x_noCase (h : D.nx σ H) : tNoCase v D σ H := h
theorem x_caseNo {r : R2} {n : Nat} {word : Str} {is : List (Option Nat)} {body : TS} {a : Addr} {xs : List V} (ha : SqT K H a xs) (hl : xs.length ≠ n) (h : t (.ref a) D σ H) : tSeqW K r n word is body t (.ref a) D σ H :=
  ⟨a, xs, rfl, ha, .inl ⟨hl, h⟩⟩
theorem x_caseW {n : Nat} {word w : Str} {is : List (Option Nat)} {body : TS} {a : Addr} {ys : List V} (ha : SqT K H a (.str w :: ys)) (hl : ys.length + 1 = n) (hw : w ≠ word) (h : t (.ref a) D σ H) : tSeqW K rEq n word is body t (.ref a) D σ H :=
  ⟨a, _, rfl, ha, .inr ⟨_, ys, rfl, hl, rfl, false, by rw [decide_eq_false (fun e => hw (V.str.inj e))], iteF h⟩⟩
theorem x_caseY {n : Nat} {word : Str} {is : List (Option Nat)} {body : TS} {a : Addr} {ys : List V} (ha : SqT K H a (.str word :: ys)) (hl : ys.length + 1 = n) (h : body D (bindS is ys σ) H) : tSeqW K rEq n word is body t (.ref a) D σ H :=
  ⟨a, _, rfl, ha, .inr ⟨_, ys, rfl, hl, rfl, true, by rw [decide_eq_true rfl], iteT h⟩⟩
end
end Br

/-! ### a case of a word, something, a whole number, something -/
namespace Br
open PySem PySem.Spec PyProof.Rows L2
section
variable {X : Cx}
def tSeqL (K : PySem.W.Frag) (r : R2) (word : Str) (lit : Int) (body : TS) (rest : V → TS) : V → TS := fun v D σ H => ∃ (a : Addr) (xs : List V), v = .ref a ∧ SqT K H a xs ∧
  ((xs.length ≠ 4 ∧ rest v D σ H) ∨ ∃ y y1 y2 y3, xs = [y, y1, y2, y3] ∧ r y (.str word) H fun z H1 => ∃ k, z = .bl k ∧ if k = true then r y2 (.int lit) H1 (fun z2 H2 => ∃ k2, z2 = .bl k2 ∧ if k2 = true then body D σ H2 else rest v D σ H2) else rest v D σ H1)
theorem pcs_lit {r : R2} {word : Str} {lit : Int} {j j2 : Nat} {p1 p2 p3 p4 p5 p6 p7 : Pos} {body : List Stmt} {rest : List MatchCase} {tb : TS} {tr : V → TS} (hc : X.calm = true) (ho : OpR X (compareOp .Eq) r) (hb : PSs X body tb) (hr : PCs X rest tr) :
    PCs X (⟨.MatchSequence [.MatchValue (.Constant (.str word) j p1) p2, .MatchAs none none p4, .MatchValue (.Constant (.int lit) j2 p5) p6, .MatchAs none none p7] p3, none, body⟩ :: rest) (tSeqL X.K r word lit tb tr) := by
  refine ⟨fun first pins s σ H D v u I rv h => ?_⟩
  obtain ⟨a, xs, rfl, hx, h⟩ := h
  cases (show u = Value.ref a from rv)
  obtain ⟨its, ri, ht, hz⟩ := I.tuple hx
  have hl := ri.length
  have hfit : ((its.toArray.size : Nat) : Int) < 2 ^ 63 := by
    have h1 : its.length ≤ sizeLine := by rw [← hl]; exact hz
    have h2 : sizeLine < 2 ^ 63 := by decide
    have h3 : its.toArray.size < 2 ^ 63 := Nat.lt_of_le_of_lt (by simpa using h1) h2
    omega
  rcases h with ⟨hne, q⟩ | ⟨y, y1, y2, y3, rfl, q⟩
  · refine wpAny_matchCases_cons (matchSeq_tuple_miss ht hfit (by simp; omega) ?_ (by rfl) (by rfl))
    exact hr.run false pins _ σ H D (.ref a) _ (I.tok _) rfl q
  · cases ri with
    | cons ry rys =>
    cases rys with
    | cons ry1 rys =>
    cases rys with
    | cons ry2 rys =>
    cases rys with
    | cons ry3 rys =>
    cases rys with
    | nil =>
      rename_i uy uy1 uy2 uy3
      refine wpAny_matchCases_cons (matchSeq_tuple_hit ht hfit (by simp) ?_ (by rfl) (by rfl))
      have e : ([Pattern.MatchValue (.Constant (.str word) j p1) p2, .MatchAs none none p4, .MatchValue (.Constant (.int lit) j2 p5) p6, .MatchAs none none p7] : List Pattern).length = [uy, uy1, uy2, uy3].toArray.size := rfl
      rw [e]
      refine unpackItems_tuple (I.ok.hd hc) ht fun h' hk => ?_
      have I2 : Inv X pins σ H { s with heap := h', toks := s.toks + 1 + 1 } := I.kept fun b o e => hk b o (Nat.ne_of_lt (Heap.lt_size e)) e
      refine wpAny_matchEach_cons (wpAny_matchPattern_Value ?_) rfl
      refine Calls.Constant_str ?_
      refine thn (ho pins _ σ H y (.str word) uy _ _ (I2.tok _) ry ⟨_, rfl⟩ q) fun c s3 ⟨z, H3, I3, rz, k, ez, q3⟩ => ?_
      subst ez
      cases rz
      refine wpAny_truthy_bool ?_
      cases k with
      | false =>
        rw [if_neg Bool.false_ne_true] at q3 ⊢
        exact hr.run false pins s3 σ H3 D (.ref a) _ I3 rfl q3
      | true =>
        rw [if_pos rfl] at q3 ⊢
        refine wpAny_matchEach_cons (wpAny_matchPattern_Capture ?_) rfl
        refine wpAny_matchEach_cons (wpAny_matchPattern_Value ?_) rfl
        refine thn ((pe_int (X := X)).run pins s3 σ H3 (fun v H => v = .int lit ∧ H3 = H) I3 ⟨rfl, rfl⟩) fun x s4 ⟨v4, H4, I4, r4, e4, e5⟩ => ?_
        subst e4 e5
        refine thn (ho pins _ σ H3 y2 (.int lit) uy2 x _ I4 ry2 r4 q3) fun c s5 ⟨z, H5, I5, rz, k2, ez, q5⟩ => ?_
        subst ez
        cases rz
        refine wpAny_truthy_bool ?_
        cases k2 with
        | false =>
          rw [if_neg Bool.false_ne_true] at q5 ⊢
          exact hr.run false pins s5 σ H5 D (.ref a) _ I5 rfl q5
        | true =>
          rw [if_pos rfl] at q5 ⊢
          refine wpAny_matchEach_cons (wpAny_matchPattern_Capture ?_) rfl
          refine wpAny_matchEach_nil ?_
          refine wpAny_assignInOrder_none ?_
          exact hb.run pins s5 _ H5 D I5 q5
end
section
variable {σ : L2.St} {H : Hp} {D : Ends} {K : PySem.W.Frag} {t : V → TS}
theorem x_litNo {r : R2} {word : Str} {lit : Int} {body : TS} {a : Addr} {xs : List V} (ha : SqT K H a xs) (hl : xs.length ≠ 4) (h : t (.ref a) D σ H) : tSeqL K r word lit body t (.ref a) D σ H :=
  ⟨a, xs, rfl, ha, .inl ⟨hl, h⟩⟩
theorem x_litW {word w : Str} {lit : Int} {body : TS} {a : Addr} {y1 y2 y3 : V} (ha : SqT K H a [.str w, y1, y2, y3]) (hw : w ≠ word) (h : t (.ref a) D σ H) : tSeqL K rEq word lit body t (.ref a) D σ H :=
  ⟨a, _, rfl, ha, .inr ⟨_, y1, y2, y3, rfl, rfl, false, by rw [decide_eq_false (fun e => hw (V.str.inj e))], iteF h⟩⟩
theorem x_litI {word : Str} {lit i : Int} {body : TS} {a : Addr} {y1 y3 : V} (ha : SqT K H a [.str word, y1, .int i, y3]) (h1 : i = lit → body D σ H) (h2 : i ≠ lit → t (.ref a) D σ H) : tSeqL K rEq word lit body t (.ref a) D σ H := by
  refine ⟨a, _, rfl, ha, .inr ⟨_, y1, .int i, y3, rfl, rfl, true, by rw [decide_eq_true rfl], iteT ?_⟩⟩
  refine x_EqI ⟨_, rfl, ?_⟩
  by_cases e : i = lit
  · rw [decide_eq_true e]
    exact iteT (h1 e)
  · rw [decide_eq_false e]
    exact iteF (h2 e)
end
end Br

/-! ### sorted(set(xs)), xs a short list of areI -/
namespace Br
open PySem PySem.Spec PyProof.Rows L2
/-- an empty set as set() makes it -/
abbrev emptyS (w : World) : Obj := { cls := .type "set", dict := none, data := .set #[] 0 (.fresh 0 0 (!w.params.followText "set-order")) }
section
variable {P : Program} {w : World} {A : Around} {E : Value → Shared → Prop} {s : Shared}
set_option maxRecDepth 100000 in
set_option maxHeartbeats 3200000 in
theorem set_of_list {p : Addr} {us : Array Value} (zs : List Int) {Q : Value → Shared → Prop} (calm : A.handled = none) (isL : s.heap.IsList p us) (areI : IntsAre us.toList zs) (small : zs.length + 1 < scanBound)
    (fin : ∀ (g : Heap) (tk c : Nat), SetR w g s.heap.objs.size (fun j => decide (j ∈ zs)) c → c ≤ zs.length → (∀ b o, s.heap.get? b = some o → g.get? b = some o) → Q (.ref s.heap.objs.size) { s with heap := g, toks := tk }) :
    wpAny (model P w) A (call (.type "set") [.ref p]) Q E s := by
  have size : us.size = zs.length := (Array.length_toList (xs := us)).symm.trans areI.length
  obtain ⟨cm, tm, mroS⟩ := F.called_set.mro
  have madeS := F.called_set.made
  have subS := F.called_set.sub
  refine wpAny_call (codeAny_of_tree ?_)
  show wpAny (model P w) A.in1 (callAny (.type "set") _) _ _ s
  refine wpAny_pure (And.intro (Code.quiet_builtin _ (by decide +kernel)) (codeAny_builtin F.entry_type_call ?_))
  rw [Around.under_plain (weight_type_call_type "set" [.ref p] []) rfl]
  have nt := F.called_set.notType
  have cc := F.called_set.canCreate
  have tc := F.typeCall_set_1 (.ref p)
  repeat (any_goals first | assumption | wp_step)
  refine codeAny_mono (code_set_led1 (.ref p) (E := E) (Q₁ := fun obj t => obj = .ref s.heap.objs.size ∧ t = { s with heap := s.heap.push (emptyS w) }) ⟨rfl, rfl⟩) fun r t hr => ?_
  match r, hr with
  | .error e, hr => exact hr
  | .ok (.ret obj), ⟨e1, e2⟩ =>
    subst e1 e2
    have got : (s.heap.push (emptyS w)).get? s.heap.objs.size = some (emptyS w) := Heap.get?_push_size _ rfl
    have typ : Shared.TypeIs { s with heap := s.heap.push (emptyS w) } (.ref s.heap.objs.size) "set" := ⟨_, got, rfl⟩
    have il := F.called_set.init.lookup
    have ib := F.called_set.init.bind (.ref s.heap.objs.size)
    repeat (any_goals first | assumption | wp_step)
    refine codeAny_mono (codeAny_call_builtin (R := wants (fun r u => r = .none ∧ ∃ g tk c, u = { s with heap := g, toks := tk } ∧ SetR w g s.heap.objs.size (fun j => decide (j ∈ zs)) c ∧ c ≤ zs.length ∧ (∀ b o, s.heap.get? b = some o → g.get? b = some o)) E) F.called_set.init.plain F.entry_set_init (check_set_init_1 typ ?_)) fun r2 u hr2 => ?_
    · obtain ⟨⟨oc, od, oD, oS⟩, atP, hc, nl, hd⟩ := isL
      dsimp only at hc hd
      subst hc
      subst hd
      have atP2 : (s.heap.push (emptyS w)).get? p = some { cls := .type "list", dict := od, data := .seq us nl, slots := oS } := Heap.get?_push_of_some _ atP
      have s1 := F.sub_list_set
      have s2 := F.sub_list_frozenset
      have nd : (Value.type "list" == Value.type "dict") = false := by decide
      have isL2 : (s.heap.push (emptyS w)).IsList p us := ⟨_, atP2, rfl, nl, rfl⟩
      unfold Builtin.«set.__init__» noKeywords Builtin.Frozenset.updateFrom
      generalize hIt : pyIter = It
      wp_walk
      subst hIt
      refine wpAny_pyIter_list isL2 (wpAny_bind (wpAny_runValue ?_))
      have below : p < s.heap.objs.size := Heap.lt_size atP
      have calm3 : A.in1.in1.in1.handled = none := by simp [calm]
      have nz : (s.heap.push (emptyS w)).objs.size = s.heap.objs.size + 1 := Heap.size_push ..
      have apart : p ≠ (s.heap.push (emptyS w)).objs.size := by rw [nz]; exact Nat.ne_of_lt (Nat.lt_succ_of_lt below)
      have out : s.heap.objs.size ∉ [(s.heap.push (emptyS w)).objs.size, p] := fun hm => by
        rcases List.mem_cons.mp hm with h | h
        · rw [nz] at h
          exact absurd h (Nat.ne_of_lt (Nat.lt_succ_self _))
        · exact absurd (List.mem_singleton.mp h) (Nat.ne_of_gt below)
      have each : ∀ (i : Nat) (v : Value), us[i]? = some v → ∃ k t, zs[i]? = some k ∧ v = .int k t := fun i v hv => by
        have hi : i < zs.length := by have := (Array.getElem?_eq_some_iff.mp hv).1; omega
        obtain ⟨t, e⟩ := PyProof.Rows.IntsAre.int_at areI i v (by rw [Array.getElem?_toList]; exact hv)
        refine ⟨zs[i], t, List.getElem?_eq_getElem hi, ?_⟩
        rw [e, List.getD_eq_getElem?_getD, List.getElem?_eq_getElem hi]
        rfl
      refine set_update_ints ((Walks.list calm3 _ p apart us).toS) s.heap.objs.size out zs size small each (us.size - 0) 0 _ (by omega) (Nat.zero_le _) ⟨⟨_, Heap.get?_push_size _ rfl, rfl, rfl⟩, (isL2.push _)⟩ ⟨0, Nat.le_refl 0, setR_new_at (Heap.get?_push_of_some _ got)⟩ ?_
      rintro ⟨g, gg, dr, tk, os⟩ c mv hc hS
      obtain rfl : gg = s.gens := mv.gens
      obtain rfl : dr = s.drawn := mv.drawn
      obtain rfl : os = s.os := mv.os
      refine wpAny_pure ?_
      show wpAny (model P w) _ (ret Value.none) _ _ _
      refine wpAny_pure ⟨rfl, g, tk, c, rfl, hS, by omega, fun b o e => mv.heap b o (fun hm => ?_) (Heap.get?_push_of_some _ (Heap.get?_push_of_some _ e))⟩
      have bl : b < s.heap.objs.size := Heap.lt_size e
      rcases List.mem_cons.mp hm with h | h
      · exact absurd h (Nat.ne_of_lt bl)
      · have h2 := List.mem_singleton.mp h
        rw [nz] at h2
        exact absurd h2 (Nat.ne_of_lt (Nat.lt_succ_of_lt bl))
    · match r2, hr2 with
      | .error e, hr2 => exact hr2
      | .ok (.ret r), ⟨e1, g, tk, c, e2, hS, hc, keep⟩ =>
        subst e1 e2
        repeat (any_goals first | assumption | wp_step)
        exact fin _ _ _ hS hc keep
end
/-- sorted(set(xs)): each once, ascending, a new list -/
def tSortSet (K : PySem.W.Frag) (ta : TE) : TE := fun σ H Q => ta σ H fun x H1 => ∃ (l : Addr) (ns : List Int), x = V.ref l ∧ SqL K H1 l (ns.map V.int) ∧ ns.length < 60 ∧
  ∀ (zs : List Int) (p : Addr), zs.Pairwise (· < ·) → (∀ k, k ∈ zs ↔ k ∈ ns) → H1 p = none → Q (.ref p) (L2.upd H1 p (.lst (zs.map V.int)))
theorem pe_sortSet {X : Cx} {a : Expr} {ta : TE} {p p2 q pos : Pos} (hg : Gl X "sorted") (hm : X.mg "sorted" = none) (hg2 : Gl X "set") (hm2 : X.mg "set" = none) (ha : PE X a ta) (hc : X.calm = true := by rfl)
    (na : starEach [a] X.env = (false, eval a X.env) :: starEach [] X.env := by rfl) : PE X (.Call (.Name "sorted" p) [.Call (.Name "set" p2) [a] [] q] [] pos) (tSortSet X.K ta) := by
  refine ⟨fun pins s σ H Q I h => ?_⟩
  refine Call_ (ld_blt I hg hm (show bootBuiltins "sorted" = some (.builtin "sorted") by decide +kernel) ?_)
  refine PyProof.Rows.callWith_builtin1 (PyProof.Rows.args_cons ?_ rfl) rfl rfl
  refine Call_ (ld_blt I hg2 hm2 PyProof.Rows.boot_set ?_)
  refine PyProof.Rows.callWith_type1 (PyProof.Rows.args_cons (thn (ha.run pins s σ H _ I h) fun v s1 ⟨x, H1, I1, r1, q1⟩ => PyProof.Rows.args_nil ?_) na) na rfl
  obtain ⟨l, ns, rfl, hq, hl, q1⟩ := q1
  cases r1
  obtain ⟨its, r, pl, hz⟩ := I1.list hq
  refine set_of_list ns (I1.ok.hd hc) pl.isList (by simpa using r.ints) (by unfold scanBound; omega) fun g tk c hS hc9 keep => ?_
  refine PyProof.Rows.args_nil ?_
  have I2 : Inv X pins σ H1 { s1 with heap := g, toks := tk } := I1.kept keep
  refine sorted_set hS (I2.ok.hd hc) (by omega) fun s' b out n zs k gg o hb hgt hi hs hmem hlen => ?_
  have free : H1 b = none := I2.hok.fresh hb
  have hlen2 : (zs.map V.int).length ≤ sizeLine := by rw [List.length_map, hlen]; exact Nat.le_of_lt (Br.lt_line (by omega))
  have J : Inv X pins σ (L2.upd H1 b (.lst (zs.map V.int))) { { s1 with heap := g, toks := tk } with heap := s'.heap, gens := s'.gens, drawn := s'.drawn, toks := s'.toks } :=
    I2.call (ch := []) (Un.laid k hb free) (I2.hok.laid k hb ⟨hlen2, out.toList, n, vals_of_ints hi, hgt⟩) (by rw [gg]; exact I2.bare) (fun _ z => nomatch z)
  have e : s' = { { s1 with heap := g, toks := tk } with heap := s'.heap, gens := s'.gens, drawn := s'.drawn, toks := s'.toks } := by
    cases s'
    cases o
    rfl
  rw [e]
  exact ⟨.ref b, _, J, rfl, q1 zs b hs (fun k => by rw [hmem k]; exact decide_eq_true_iff) free⟩
end Br

/-! ### what `_law_equal` finds alike -/
namespace Br
open PySem PySem.Spec PyProof.Rows L2
/-- alike up to a depth -/
def Eqv (K : PySem.W.Frag) (H : Hp) : Nat → V → V → Prop
  | 0, _, _ => False
  | n + 1, v, u => (∃ i : Int, v = .int i ∧ u = .int i) ∨ (∃ x : Str, v = .str x ∧ u = .str x) ∨ (∃ b : Bool, v = .bl b ∧ u = .bl b) ∨ (v = .non ∧ u = .non) ∨
      (∃ (a b : Addr) (xs ys : List V), v = .ref a ∧ u = .ref b ∧ ((H a = some (.lst xs) ∧ H b = some (.lst ys)) ∨ (H a = some (.tup xs) ∧ H b = some (.tup ys))) ∧ xs.length = ys.length ∧ ys.length ≤ 100000 ∧ ∀ (i : Nat) x y, xs[i]? = some x → ys[i]? = some y → Eqv K H n x y)
theorem Eqv.mono {K : PySem.W.Frag} {H : Hp} : ∀ {n m : Nat} {v u : V}, n ≤ m → Eqv K H n v u → Eqv K H m v u
  | 0, _, _, _, _, h => h.elim
  | n + 1, m, v, u, hm, h => by
    obtain ⟨k, rfl⟩ : ∃ k, m = k + 1 := ⟨m - 1, by omega⟩
    rcases h with h | h | h | h | ⟨a, b, xs, ys, e1, e2, e3, e4, e5, e6⟩
    · exact .inl h
    · exact .inr (.inl h)
    · exact .inr (.inr (.inl h))
    · exact .inr (.inr (.inr (.inl h)))
    · exact .inr (.inr (.inr (.inr ⟨a, b, xs, ys, e1, e2, e3, e4, e5, fun i x y h1 h2 => Eqv.mono (by omega) (e6 i x y h1 h2)⟩)))
theorem Eqv.int {K : PySem.W.Frag} {H : Hp} {n : Nat} {i : Int} : Eqv K H (n + 1) (.int i) (.int i) := .inl ⟨i, rfl, rfl⟩
theorem Eqv.str {K : PySem.W.Frag} {H : Hp} {n : Nat} {x : Str} : Eqv K H (n + 1) (.str x) (.str x) := .inr (.inl ⟨x, rfl, rfl⟩)
theorem Eqv.bl {K : PySem.W.Frag} {H : Hp} {n : Nat} {b : Bool} : Eqv K H (n + 1) (.bl b) (.bl b) := .inr (.inr (.inl ⟨b, rfl, rfl⟩))
theorem Eqv.non {K : PySem.W.Frag} {H : Hp} {n : Nat} : Eqv K H (n + 1) .non .non := .inr (.inr (.inr (.inl ⟨rfl, rfl⟩)))
theorem Eqv.tup {K : PySem.W.Frag} {H : Hp} {n : Nat} {a b : Addr} {xs ys : List V} (h1 : H a = some (.tup xs)) (h2 : H b = some (.tup ys)) (hl : xs.length = ys.length) (hz : ys.length ≤ 100000) (h : ∀ (i : Nat) x y, xs[i]? = some x → ys[i]? = some y → Eqv K H n x y) : Eqv K H (n + 1) (.ref a) (.ref b) :=
  .inr (.inr (.inr (.inr ⟨a, b, xs, ys, rfl, rfl, .inr ⟨h1, h2⟩, hl, hz, h⟩)))
theorem Eqv.lst {K : PySem.W.Frag} {H : Hp} {n : Nat} {a b : Addr} {xs ys : List V} (h1 : H a = some (.lst xs)) (h2 : H b = some (.lst ys)) (hl : xs.length = ys.length) (hz : ys.length ≤ 100000) (h : ∀ (i : Nat) x y, xs[i]? = some x → ys[i]? = some y → Eqv K H n x y) : Eqv K H (n + 1) (.ref a) (.ref b) :=
  .inr (.inr (.inr (.inr ⟨a, b, xs, ys, rfl, rfl, .inl ⟨h1, h2⟩, hl, hz, h⟩)))
theorem Eqv.ints {K : PySem.W.Frag} {H : Hp} {n : Nat} {a b : Addr} {xs : List Int} (h1 : H a = some (.lst (xs.map V.int))) (h2 : H b = some (.lst (xs.map V.int))) (hz : xs.length ≤ 100000) : Eqv K H (n + 2) (.ref a) (.ref b) :=
  Eqv.lst h1 h2 rfl (by rw [List.length_map]; exact hz) fun i x y e1 e2 => by
    rw [e1] at e2
    cases e2
    obtain ⟨z, _, rfl⟩ := map_get e1
    exact .int
/-- a tuple of few parts is alike to itself -/
theorem Eqv.self2 {K : PySem.W.Frag} {H : Hp} {n : Nat} {a : Addr} {xs : List V} (h1 : H a = some (.tup xs)) (hz : xs.length ≤ 100000) (h : ∀ x, x ∈ xs → Eqv K H n x x) : Eqv K H (n + 1) (.ref a) (.ref a) :=
  Eqv.tup h1 h1 rfl hz fun i x y e1 e2 => by
    rw [e1] at e2
    cases e2
    exact h x (List.mem_of_getElem? e1)
end Br

/-! ### steps: what they are, where they stand, what they do -/
namespace Br
open PySem PySem.Spec PyProof.Rows L2 Br.F
inductive Fac where
  | cell (i : Nat)
  | inp (i : Nat)
inductive Stp where
  | add (t : Nat) (c : Int) (fs : List Fac)
  | scale (t : Nat) (u : Int)
  | swap (a b : Nat)
  | tab (t : Nat) (s : Int) (tb : List (List Int)) (a b : Nat)
def FacOk (cells inputs t : Nat) : Fac → Prop
  | .cell i => i < cells ∧ i ≠ t
  | .inp i => i < inputs
def StpOk (m cells inputs : Nat) : Stp → Prop
  | .add t c fs => t < cells ∧ 0 ≤ c ∧ c < m ∧ fs.length ≤ 3 ∧ ∀ f, f ∈ fs → FacOk cells inputs t f
  | .scale t u => t < cells ∧ 0 ≤ u ∧ u < m ∧ Int.gcd u m = 1
  | .swap a b => a < cells ∧ b < cells ∧ a ≠ b
  | .tab t s tb a b => t < cells ∧ a < cells ∧ b < cells ∧ t ≠ a ∧ t ≠ b ∧ a ≠ b ∧ (s = 1 ∨ s = m - 1) ∧ IsTab m tb ∧ tb.length ≤ 1000 ∧ IsPrime m
/-- where they stand: tuples alone -/
def FacAt (H : Hp) (a : Addr) : Fac → Prop
  | .cell i => H a = some (.tup [.str "cell", .int (i : Int)])
  | .inp i => H a = some (.tup [.str "input", .int (i : Int)])
def TbAt (H : Hp) (a : Addr) (t : List (List Int)) : Prop := ∃ as : List Addr, H a = some (.tup (as.map V.ref)) ∧ as.length = t.length ∧ ∀ (i : Nat) r b, t[i]? = some r → as[i]? = some b → H b = some (.tup (r.map V.int))
def StpAt (H : Hp) (a : Addr) : Stp → Prop
  | .add t c fs => ∃ (f : Addr) (as : List Addr), H a = some (.tup [.str "add", .int (t : Int), .int c, .ref f]) ∧ H f = some (.tup (as.map V.ref)) ∧ as.length = fs.length ∧ ∀ (i : Nat) x b, fs[i]? = some x → as[i]? = some b → FacAt H b x
  | .scale t u => H a = some (.tup [.str "scale", .int (t : Int), .int u])
  | .swap i j => H a = some (.tup [.str "swap", .int (i : Int), .int (j : Int)])
  | .tab t s tb i j => ∃ c : Addr, H a = some (.tup [.str "table", .int (t : Int), .int s, .ref c, .int (i : Int), .int (j : Int)]) ∧ TbAt H c tb
/-- every tuple stays -/
def Tups (H H' : Hp) : Prop := ∀ b xs, H b = some (.tup xs) → H' b = some (.tup xs)
theorem Tups.refl (H : Hp) : Tups H H := fun _ _ h => h
theorem Tups.trans {H H1 H2 : Hp} (a : Tups H H1) (b : Tups H1 H2) : Tups H H2 := fun c xs h => b c xs (a c xs h)
theorem Tups.same {H H' : Hp} (s : Same H H') : Tups H H' := fun b xs h => s b _ h
theorem Tups.put {H H' : Hp} {p : Addr} {o : HO} (s : Tups H H') (h : ∀ xs, H' p ≠ some (.tup xs)) : Tups H (upd H' p o) := fun b xs e => by
  have e' := s b xs e
  rw [upd_ne (fun z => h xs (by rw [← z]; exact e'))]
  exact e'
theorem no_tup {H : Hp} {p : Addr} (h : H p = none) : ∀ xs, H p ≠ some (.tup xs) := fun xs e => by rw [h] at e; cases e
theorem no_tupL {H : Hp} {p : Addr} {ys : List V} (h : H p = some (.lst ys)) : ∀ xs, H p ≠ some (.tup xs) := fun xs e => by rw [h] at e; cases e
theorem Tups.keep {H H' : Hp} {d : Addr} {ys : List V} (k : Keep d H H') (h : H d = some (.lst ys)) : Tups H H' := fun b xs e => k b _ e (ne_of e h (by intro z; cases z))
theorem FacAt.tups {H H' : Hp} {a : Addr} {f : Fac} (h : FacAt H a f) (s : Tups H H') : FacAt H' a f := by
  cases f with
  | cell i => exact s _ _ h
  | inp i => exact s _ _ h
theorem TbAt.tups {H H' : Hp} {a : Addr} {t : List (List Int)} (h : TbAt H a t) (s : Tups H H') : TbAt H' a t := by
  obtain ⟨as, h1, h2, h3⟩ := h
  exact ⟨as, s _ _ h1, h2, fun i r b e1 e2 => s _ _ (h3 i r b e1 e2)⟩
theorem StpAt.tups {H H' : Hp} {a : Addr} {x : Stp} (h : StpAt H a x) (s : Tups H H') : StpAt H' a x := by
  cases x with
  | add t c fs =>
    obtain ⟨f, as, h1, h2, h3, h4⟩ := h
    exact ⟨f, as, s _ _ h1, s _ _ h2, h3, fun i y b e1 e2 => (h4 i y b e1 e2).tups s⟩
  | scale t u => exact s _ _ h
  | swap i j => exact s _ _ h
  | tab t g tb i j =>
    obtain ⟨c, h1, h2⟩ := h
    exact ⟨c, s _ _ h1, h2.tups s⟩
/-- many of them -/
def StpsAt (H : Hp) (as : List Addr) (ss : List Stp) : Prop := as.length = ss.length ∧ ∀ (i : Nat) x b, ss[i]? = some x → as[i]? = some b → StpAt H b x
theorem StpsAt.tups {H H' : Hp} {as : List Addr} {ss : List Stp} (h : StpsAt H as ss) (s : Tups H H') : StpsAt H' as ss := ⟨h.1, fun i x b e1 e2 => (h.2 i x b e1 e2).tups s⟩
theorem StpsAt.get {H : Hp} {as : List Addr} {ss : List Stp} (h : StpsAt H as ss) {i : Nat} {b : Addr} (e : as[i]? = some b) : ∃ x, ss[i]? = some x ∧ StpAt H b x := by
  have hl := (List.getElem?_eq_some_iff.mp e).1
  have hl2 : i < ss.length := by rw [← h.1]; exact hl
  exact ⟨_, List.getElem?_eq_getElem hl2, h.2 i _ b (List.getElem?_eq_getElem hl2) e⟩
theorem StpsAt.snoc {H : Hp} {as : List Addr} {ss : List Stp} {b : Addr} {x : Stp} (h : StpsAt H as ss) (hx : StpAt H b x) : StpsAt H (as ++ [b]) (ss ++ [x]) := by
  refine ⟨by rw [List.length_append, List.length_append, h.1]; rfl, fun i y c e1 e2 => ?_⟩
  rcases snoc_at rfl e1 with ⟨h1, e1⟩ | ⟨h1, rfl⟩
  · rcases snoc_at rfl e2 with ⟨h2, e2⟩ | ⟨h2, rfl⟩
    · exact h.2 i y c e1 e2
    · have := h.1; omega
  · rcases snoc_at rfl e2 with ⟨h2, e2⟩ | ⟨h2, rfl⟩
    · have := h.1; omega
    · exact hx
/-- numbers of a modulus, so many -/
structure Mem (m n : Nat) (xs : List Int) : Prop where
  len : xs.length = n
  rg : Rg 0 m xs
theorem Mem.get {m n : Nat} {xs : List Int} (h : Mem m n xs) {i : Nat} (hi : i < n) : ∃ z, xs[i]? = some z ∧ xs.getD i 0 = z ∧ 0 ≤ z ∧ z < m := by
  have hl : i < xs.length := by rw [h.len]; exact hi
  refine ⟨xs[i], List.getElem?_eq_getElem hl, ?_, (h.rg _ (List.getElem_mem hl)).1, (h.rg _ (List.getElem_mem hl)).2⟩
  rw [List.getD_eq_getElem?_getD, List.getElem?_eq_getElem hl]; rfl
theorem Mem.set {m n : Nat} {xs : List Int} (h : Mem m n xs) {i : Nat} {z : Int} (h0 : 0 ≤ z) (h1 : z < m) : Mem m n (xs.set i z) :=
  ⟨by rw [List.length_set, h.len], fun y hy => by
    rcases List.mem_or_eq_of_mem_set hy with h2 | h2
    · exact h.rg y h2
    · rw [h2]; exact ⟨h0, h1⟩⟩
def facV (mem inp : List Int) : Fac → Int
  | .cell i => mem.getD i 0
  | .inp i => inp.getD i 0
def prodV (mem inp : List Int) : List Fac → Int
  | [] => 1
  | f :: fs => facV mem inp f * prodV mem inp fs
/-- the value of the table's polynomial, written out -/
def ItpV (p : Nat) (t : List (List Int)) (x y : Int) : Int := S1 (fun i => BsV p t.length i x * S1 (fun j => BsV p t.length j y * (t.getD i []).getD j 0) t.length) t.length % p
theorem ItpV.ok {p : Nat} {t : List (List Int)} {x y : Int} (hp : IsPrime p) (hn : t.length ≤ p) : Itp p t x y (ItpV p t x y) :=
  ⟨fun i => BsV p t.length i x, fun j => BsV p t.length j y, fun i hi => BsV.ok hp hi hn, fun j hj => BsV.ok hp hj hn, rfl⟩
def stepF (m : Nat) (inp mem : List Int) : Stp → List Int
  | .add t c fs => mem.set t ((mem.getD t 0 + c * prodV mem inp fs) % m)
  | .scale t u => mem.set t (mem.getD t 0 * u % m)
  | .swap a b => (mem.set a (mem.getD b 0)).set b (mem.getD a 0)
  | .tab t s tb a b => mem.set t ((mem.getD t 0 + s * ItpV m tb (mem.getD a 0) (mem.getD b 0)) % m)
theorem stepF_mem {m cells : Nat} {inp mem : List Int} (hm : 1 ≤ m) (h : Mem m cells mem) : ∀ {s : Stp} {inputs : Nat}, StpOk m cells inputs s → Mem m cells (stepF m inp mem s)
  | .add t c fs, _, _ => h.set (Int.emod_nonneg _ (by omega)) (Int.emod_lt_of_pos _ (by omega))
  | .scale t u, _, _ => h.set (Int.emod_nonneg _ (by omega)) (Int.emod_lt_of_pos _ (by omega))
  | .swap a b, _, ok => by
    obtain ⟨z, _, e1, z0, z1⟩ := h.get ok.1
    obtain ⟨y, _, e2, y0, y1⟩ := h.get ok.2.1
    show Mem m cells ((mem.set a (mem.getD b 0)).set b (mem.getD a 0))
    rw [e1, e2]
    exact (h.set y0 y1).set z0 z1
  | .tab t s tb a b, _, _ => h.set (Int.emod_nonneg _ (by omega)) (Int.emod_lt_of_pos _ (by omega))
def runF (m : Nat) (inp : List Int) (ss : List Stp) (mem : List Int) : List Int := ss.foldl (fun mem s => stepF m inp mem s) mem
theorem runF_snoc {m : Nat} {inp : List Int} {ss : List Stp} {s : Stp} {mem : List Int} : runF m inp (ss ++ [s]) mem = stepF m inp (runF m inp ss mem) s := by
  unfold runF
  rw [List.foldl_append]
  rfl
theorem runF_mem {m cells inputs : Nat} {inp : List Int} (hm : 1 ≤ m) : ∀ {ss : List Stp} {mem : List Int}, Mem m cells mem → (∀ s, s ∈ ss → StpOk m cells inputs s) → Mem m cells (runF m inp ss mem)
  | [], _, h, _ => h
  | s :: ss, mem, h, hs => runF_mem (mem := stepF m inp mem s) hm (stepF_mem hm h (hs s List.mem_cons_self)) fun x hx => hs x (List.mem_cons_of_mem _ hx)
theorem take_snoc {α : Type} {ss : List α} {i : Nat} {s : α} (h : ss[i]? = some s) : ss.take (i + 1) = ss.take i ++ [s] := by rw [List.take_add_one, h]; rfl
theorem FacAt.eqv {K : PySem.W.Frag} {H : Hp} {a : Addr} {f : Fac} (h : FacAt H a f) : Eqv K H 2 (.ref a) (.ref a) := by
  cases f with
  | cell i =>
    exact Eqv.self2 h (Nat.le_of_ble_eq_true rfl) fun x hx => by
      have e : x = .str "cell" ∨ x = .int (i : Int) := by simpa using hx
      rcases e with rfl | rfl
      · exact .str
      · exact .int
  | inp i =>
    exact Eqv.self2 h (Nat.le_of_ble_eq_true rfl) fun x hx => by
      have e : x = .str "input" ∨ x = .int (i : Int) := by simpa using hx
      rcases e with rfl | rfl
      · exact .str
      · exact .int
theorem StpAt.eqv {K : PySem.W.Frag} {H : Hp} {a : Addr} {m cells inputs : Nat} {s : Stp} (ok : StpOk m cells inputs s) (h : StpAt H a s) : Eqv K H 4 (.ref a) (.ref a) := by
  cases s with
  | add t c fs =>
    obtain ⟨f, as, h1, h2, h3, h4⟩ := h
    have hf : Eqv K H 3 (.ref f) (.ref f) := Eqv.self2 h2 (by rw [List.length_map, h3]; have := ok.2.2.2.1; omega) fun x hx => by
      obtain ⟨b, hb, rfl⟩ := List.mem_map.mp hx
      obtain ⟨i, hi⟩ := List.mem_iff_getElem?.mp hb
      have hl := (List.getElem?_eq_some_iff.mp hi).1
      exact (h4 i _ b (List.getElem?_eq_getElem (by omega)) hi).eqv
    exact Eqv.self2 h1 (Nat.le_of_ble_eq_true rfl) fun x hx => by
      have e : x = .str "add" ∨ x = .int (t : Int) ∨ x = .int c ∨ x = .ref f := by simpa using hx
      rcases e with rfl | rfl | rfl | rfl
      · exact .str
      · exact .int
      · exact .int
      · exact hf
  | scale t u =>
    exact Eqv.self2 h (Nat.le_of_ble_eq_true rfl) fun x hx => by
      have e : x = .str "scale" ∨ x = .int (t : Int) ∨ x = .int u := by simpa using hx
      rcases e with rfl | rfl | rfl
      · exact .str
      · exact .int
      · exact .int
  | swap i j =>
    exact Eqv.self2 h (Nat.le_of_ble_eq_true rfl) fun x hx => by
      have e : x = .str "swap" ∨ x = .int (i : Int) ∨ x = .int (j : Int) := by simpa using hx
      rcases e with rfl | rfl | rfl
      · exact .str
      · exact .int
      · exact .int
  | tab t g tb i j =>
    obtain ⟨c, h1, as, h2, h3, h4⟩ := h
    have hlen : tb.length ≤ 1000 := ok.2.2.2.2.2.2.2.2.1
    have hI : IsTab m tb := ok.2.2.2.2.2.2.2.1
    have hc : Eqv K H 3 (.ref c) (.ref c) := Eqv.self2 h2 (by rw [List.length_map, h3]; omega) fun x hx => by
      obtain ⟨b, hb, rfl⟩ := List.mem_map.mp hx
      obtain ⟨i, hi⟩ := List.mem_iff_getElem?.mp hb
      have hl := (List.getElem?_eq_some_iff.mp hi).1
      have hl2 : i < tb.length := by omega
      obtain ⟨hr, _⟩ := hI.rows i _ (List.getElem?_eq_getElem hl2)
      exact Eqv.self2 (h4 i _ b (List.getElem?_eq_getElem hl2) hi) (by rw [List.length_map, hr]; omega) fun x hx => by
        obtain ⟨z, _, rfl⟩ := List.mem_map.mp hx
        exact .int
    exact Eqv.self2 h1 (Nat.le_of_ble_eq_true rfl) fun x hx => by
      have e : x = .str "table" ∨ x = .int (t : Int) ∨ x = .int g ∨ x = .ref c ∨ x = .int (i : Int) ∨ x = .int (j : Int) := by simpa using hx
      rcases e with rfl | rfl | rfl | rfl | rfl | rfl
      · exact .str
      · exact .int
      · exact .int
      · exact hc
      · exact .int
      · exact .int
end Br

/-! ### minus and len of an instance -/
namespace Br
open PySem PySem.Spec PyProof.Rows L2 PySem.Calls
section
variable {X : Cx} {CX : CXT} {k : Nat} {f C : Addr} {fd : FuncData} {ps : List Str} {sp : Sp} {ds : List Value} {dvs : List V} {E : XK}
def rNegM (C : Addr) (sp : Sp) (dvs : List V) (E : XK) : V → Hp → VK → Prop := fun x H Q => ∃ a dx fs, x = .ref a ∧ H a = some (.ins C dx fs) ∧ sp (x :: dvs) H Q E
theorem un_negM (hm : Meth X.K C "__neg__" f) (F : FnOk X.prog X.w X.K X.mg X.base CX k f fd ps sp) (hr : Room k X.A) (hb : Binds X.K fd ps ds) (hd : Vals dvs ds) (hx : Passes CX X E) :
    UnR X (unaryOp .USub) (rNegM C sp dvs E) := by
  intro pins s σ H x u Q I rx q
  obtain ⟨a, dx, fs, rfl, e, q⟩ := q
  obtain rfl : u = Value.ref a := rx
  obtain ⟨mA, O, _⟩ := ins_get I.hok e
  obtain ⟨od, J, hl⟩ := O.look
  unfold unaryOp
  refine wpAny_holding ?_
  exact wpAny_bind (PySem.W.special_fn I.kIn J hm.at_ (beq_iff_eq.mp hm.fn) (wpAny_mono (run_fn (us := [.ref a]) (vs := [.ref a]) F hr hb hd hx I (.cons rfl .nil) q) (fun _ _ z => wpAny_pure z) fun _ _ z => z))
theorem run_in1 {pins : List (Addr × Obj)} {σ : L2.St} {H : Hp} {s : Shared} {Q : VK} {us : List Value} {vs : List V} (F : FnOk X.prog X.w X.K X.mg X.base CX k f fd ps sp) (hr : Room (k + 1) X.A) (hb : Binds X.K fd ps ds) (hd : Vals dvs ds) (hx : Passes CX X E)
    (I : Inv X pins σ H s) (r : Vals vs us) (h : sp (vs ++ dvs) H Q E) : wpAny (model X.prog X.w) X.A.in1 (call (.ref f) us) (EP X pins σ Q) X.xe s := by
  have r2 : Vals (vs ++ dvs) (us ++ ds) := r.append hd
  have hl : (us ++ ds).length = ps.length := by rw [← r2.length]; exact F.len _ _ _ _ h
  refine wpAny_call (codeAny_mono (F.run X.A.in1 X.stack s H ⟨us, []⟩ (us ++ ds) (vs ++ dvs) Q E hr.in1 I.env0.in1 (hb s us I.kIn hl) r2 h) fun r s' hq => ?_)
  cases r with
  | error e => exact hx pins σ H s e s' I hq
  | ok fl =>
    cases fl with
    | ret u =>
      obtain ⟨v, H', I3, rv, q3⟩ := I.after hq
      exact ⟨v, H', I3, rv, q3⟩
    | next => exact False.elim hq
    | brk => exact False.elim hq
    | cont => exact False.elim hq
theorem pe_fldK {K2 : PySem.W.Frag} {e : Expr} {g : Str} {ta : TE} {pos : Pos} (hK : X.K = K2) (he : PE X e ta) (hb : attributeBase e g X.env (eval e X.env) = eval e X.env) : PE X (.Attribute e g pos) (tFld K2 ta g) := by
  subst hK
  exact pe_fld he hb
def rLenM (C : Addr) (sp : Sp) (dvs : List V) (E : XK) : List V → Hp → VK → Prop := fun xs H Q => ∃ a dx fs, xs = [.ref a] ∧ H a = some (.ins C dx fs) ∧ sp (.ref a :: dvs) H (fun v H' => ∃ n : Nat, v = .int (n : Int) ∧ (n : Int) < 2 ^ 63 ∧ Q v H') E
theorem cr_lenM (hm : Meth X.K C "__len__" f) (F : FnOk X.prog X.w X.K X.mg X.base CX k f fd ps sp) (hr : Room (k + 1) X.A) (hb : Binds X.K fd ps ds) (hd : Vals dvs ds) (hx : Passes CX X E) : CallR X (.builtin "len") (rLenM C sp dvs E) := by
  intro pins s σ H xs us Q I r h
  obtain ⟨a, dx, fs, rfl, e, q⟩ := h
  obtain ⟨u, rfl, rx⟩ := vals1 r
  obtain rfl : u = Value.ref a := rx
  obtain ⟨mA, O, _⟩ := ins_get I.hok e
  obtain ⟨od, J, hl⟩ := O.look
  refine Calls.call_function_entry kind_len plain_len entry_len (args_len1 _) ?_
  unfold Builtin.«len»
  refine wpAny_bind (m := oneArg "len" _) (wpAny_pure ?_)
  refine wpAny_bind (m := callSpecial? (.ref a) (PySem.Str.ofString "__len__")) (PySem.W.special_fn I.kIn J hm.at_ (beq_iff_eq.mp hm.fn) (wpAny_mono (run_in1 (us := [.ref a]) (vs := [.ref a]) F hr hb hd hx I (.cons rfl .nil) q) (fun v s' z => ?_) fun _ _ z => z))
  obtain ⟨x, H', I', rx, n, rfl, hn, q⟩ := z
  obtain ⟨t, rfl⟩ := rx
  refine wpAny_bind (wpAny_holding (wpAny_pure ?_))
  refine wpAny_bind (wpAny_letGo ?_)
  show wpAny _ _ (if ((n : Nat) : Int) < 0 then _ else _) _ _ _
  rw [if_neg (by omega)]
  show wpAny _ _ (if ((n : Nat) : Int) ≥ 2 ^ 63 then _ else _) _ _ _
  rw [if_neg (by omega)]
  exact wpAny_bind (wpAny_mkInt (wpAny_pure ⟨_, rfl, .int (n : Int), H', I'.tok _, ⟨_, rfl⟩, q⟩))
end
end Br

/-! ### steps that take back -/
namespace Br
open PySem PySem.Spec PyProof.Rows L2 Br.F
def IsBack (m : Nat) : Stp → Stp → Prop
  | .add t k fs, s' => s' = .add t (((m : Int) - k) % m) fs
  | .scale t u, s' => ∃ v : Int, s' = .scale t v ∧ 0 ≤ v ∧ v < m ∧ v * u % m = 1
  | .swap a b, s' => s' = .swap a b
  | .tab t g tb a b, s' => s' = .tab t ((m : Int) - g) tb a b
theorem mod_is {m : Nat} {x y : Int} (h0 : 0 ≤ x) (h1 : x < m) (h : (m : Int) ∣ y - x) : y % m = x := by
  have e : y % m = x % m := Int.emod_eq_emod_iff_emod_sub_eq_zero.mpr (Int.emod_eq_zero_of_dvd h)
  rw [e, Int.emod_eq_of_lt h0 h1]
theorem mod_ex (m : Nat) (x : Int) : ∃ q : Int, x % m = x - m * q := ⟨x / m, by rw [Int.emod_def]⟩
theorem getD_set_ne {xs : List Int} {i j : Nat} {z : Int} (h : i ≠ j) : (xs.set i z).getD j 0 = xs.getD j 0 := by
  rw [List.getD_eq_getElem?_getD, List.getD_eq_getElem?_getD, List.getElem?_set_ne h]
theorem getD_set_eq {xs : List Int} {i : Nat} {z : Int} (h : i < xs.length) : (xs.set i z).getD i 0 = z := by
  rw [List.getD_eq_getElem?_getD, List.getElem?_set_self h]; rfl
theorem set_getD {xs : List Int} {i : Nat} : xs.set i (xs.getD i 0) = xs := by
  apply List.ext_getElem?
  intro j
  by_cases h : i = j
  · subst h
    by_cases hl : i < xs.length
    · rw [List.getElem?_set_self hl, List.getD_eq_getElem?_getD, List.getElem?_eq_getElem hl]; rfl
    · rw [List.getElem?_eq_none (by rw [List.length_set]; omega), List.getElem?_eq_none (by omega)]
  · rw [List.getElem?_set_ne h]
theorem prodV_set {mv iv : List Int} {t c i : Nat} {z : Int} : ∀ {fs : List Fac}, (∀ f, f ∈ fs → FacOk c i t f) → prodV (mv.set t z) iv fs = prodV mv iv fs
  | [], _ => rfl
  | f :: fs, h => by
    show facV (mv.set t z) iv f * prodV (mv.set t z) iv fs = facV mv iv f * prodV mv iv fs
    rw [prodV_set fun g hg => h g (List.mem_cons_of_mem _ hg)]
    have e : facV (mv.set t z) iv f = facV mv iv f := by
      cases f with
      | cell j => exact getD_set_ne (h _ List.mem_cons_self).2.symm
      | inp j => rfl
    rw [e]
theorem undo_add {m : Nat} {x k P : Int} (h0 : 0 ≤ x) (h1 : x < m) : ((x + k * P) % m + (((m : Int) - k) % m) * P) % m = x := by
  refine mod_is h0 h1 ?_
  obtain ⟨q1, e1⟩ := mod_ex m (x + k * P)
  obtain ⟨q2, e2⟩ := mod_ex m ((m : Int) - k)
  rw [e1, e2]
  exact ⟨P - q1 - q2 * P, by grind⟩
theorem undo_tab {m : Nat} {x g V : Int} (h0 : 0 ≤ x) (h1 : x < m) : ((x + g * V) % m + ((m : Int) - g) * V) % m = x := by
  refine mod_is h0 h1 ?_
  obtain ⟨q1, e1⟩ := mod_ex m (x + g * V)
  rw [e1]
  exact ⟨V - q1, by grind⟩
theorem undo_scale {m : Nat} {x u v : Int} (h0 : 0 ≤ x) (h1 : x < m) (h : v * u % m = 1) : (x * u % m) * v % m = x := by
  refine mod_is h0 h1 ?_
  obtain ⟨q1, e1⟩ := mod_ex m (x * u)
  obtain ⟨q2, e2⟩ := mod_ex m (v * u)
  rw [h] at e2
  rw [e1]
  exact ⟨x * q2 - q1 * v, by grind⟩
theorem stepF_back {m c i : Nat} {iv mv : List Int} {s s' : Stp} (hm : 1 ≤ m) (hv : Mem m c mv) (ok : StpOk m c i s) (h : IsBack m s s') : stepF m iv (stepF m iv mv s) s' = mv := by
  cases s with
  | add t k fs =>
    obtain rfl := h
    obtain ⟨o1, o2, o3, o4, o5⟩ := ok
    obtain ⟨z, gz, ez, z0, z1⟩ := hv.get o1
    have hl : t < mv.length := by rw [hv.len]; exact o1
    show (mv.set t ((mv.getD t 0 + k * prodV mv iv fs) % m)).set t (((mv.set t ((mv.getD t 0 + k * prodV mv iv fs) % m)).getD t 0 + (((m : Int) - k) % m) * prodV (mv.set t ((mv.getD t 0 + k * prodV mv iv fs) % m)) iv fs) % m) = mv
    rw [getD_set_eq hl, prodV_set o5, List.set_set, ez, undo_add z0 z1, ← ez, set_getD]
  | scale t u =>
    obtain ⟨v, rfl, v0, v1, hvu⟩ := h
    obtain ⟨o1, _⟩ := ok
    obtain ⟨z, gz, ez, z0, z1⟩ := hv.get o1
    have hl : t < mv.length := by rw [hv.len]; exact o1
    show (mv.set t (mv.getD t 0 * u % m)).set t ((mv.set t (mv.getD t 0 * u % m)).getD t 0 * v % m) = mv
    rw [getD_set_eq hl, List.set_set, ez, undo_scale z0 z1 hvu, ← ez, set_getD]
  | swap a b =>
    obtain rfl := h
    obtain ⟨o1, o2, o3⟩ := ok
    have ha : a < mv.length := by rw [hv.len]; exact o1
    have hb : b < mv.length := by rw [hv.len]; exact o2
    show (((mv.set a (mv.getD b 0)).set b (mv.getD a 0)).set a (((mv.set a (mv.getD b 0)).set b (mv.getD a 0)).getD b 0)).set b (((mv.set a (mv.getD b 0)).set b (mv.getD a 0)).getD a 0) = mv
    rw [getD_set_eq (by rw [List.length_set]; exact hb), getD_set_ne o3.symm, getD_set_eq ha, List.set_comm _ _ o3, List.set_set, List.set_comm _ _ o3.symm, List.set_set, set_getD, set_getD]
  | tab t g tb a b =>
    obtain rfl := h
    obtain ⟨o1, o2, o3, o4, o5, _⟩ := ok
    obtain ⟨z, gz, ez, z0, z1⟩ := hv.get o1
    have hl : t < mv.length := by rw [hv.len]; exact o1
    generalize hV : ItpV m tb (mv.getD a 0) (mv.getD b 0) = W
    show (mv.set t ((mv.getD t 0 + g * ItpV m tb (mv.getD a 0) (mv.getD b 0)) % m)).set t (((mv.set t ((mv.getD t 0 + g * ItpV m tb (mv.getD a 0) (mv.getD b 0)) % m)).getD t 0 + ((m : Int) - g) * ItpV m tb ((mv.set t ((mv.getD t 0 + g * ItpV m tb (mv.getD a 0) (mv.getD b 0)) % m)).getD a 0) ((mv.set t ((mv.getD t 0 + g * ItpV m tb (mv.getD a 0) (mv.getD b 0)) % m)).getD b 0)) % m) = mv
    rw [getD_set_eq hl, getD_set_ne o4, getD_set_ne o5, hV, List.set_set, ez, undo_tab z0 z1, ← ez, set_getD]
theorem unit_uniq {m : Nat} {u v w : Int} (h1 : v * u % m = 1) (h2 : w * u % m = 1) (v0 : 0 ≤ v) (v1 : v < m) (w0 : 0 ≤ w) (w1 : w < m) : v = w := by
  obtain ⟨q1, e1⟩ := mod_ex m (v * u)
  obtain ⟨q2, e2⟩ := mod_ex m (w * u)
  rw [h1] at e1
  rw [h2] at e2
  have e : v % m = w := mod_is w0 w1 ⟨w * q1 - v * q2, by grind⟩
  rw [← e, Int.emod_eq_of_lt v0 v1]
theorem IsBack.uniq {m : Nat} {s a b : Stp} (h1 : IsBack m s a) (h2 : IsBack m s b) : a = b := by
  cases s with
  | add => exact h1.trans h2.symm
  | swap => exact h1.trans h2.symm
  | tab => exact h1.trans h2.symm
  | scale t u =>
    obtain ⟨v, rfl, v0, v1, hv⟩ := h1
    obtain ⟨w, rfl, w0, w1, hw⟩ := h2
    rw [unit_uniq hv hw v0 v1 w0 w1]
theorem IsBack.symm {m c i : Nat} {s s' : Stp} (ok : StpOk m c i s) (h : IsBack m s s') : IsBack m s' s := by
  cases s with
  | add t k fs =>
    obtain rfl := h
    obtain ⟨o1, o2, o3, _⟩ := ok
    show Stp.add t k fs = .add t (((m : Int) - ((m : Int) - k) % m) % m) fs
    have e : ((m : Int) - ((m : Int) - k) % m) % m = k := by
      refine mod_is o2 o3 ?_
      obtain ⟨q, e⟩ := mod_ex m ((m : Int) - k)
      rw [e]
      exact ⟨q, by grind⟩
    rw [e]
  | scale t u =>
    obtain ⟨v, rfl, v0, v1, hv⟩ := h
    exact ⟨u, rfl, ok.2.1, ok.2.2.1, by rw [Int.mul_comm]; exact hv⟩
  | swap a b =>
    obtain rfl := h
    rfl
  | tab t g tb a b =>
    obtain rfl := h
    show Stp.tab t g tb a b = .tab t ((m : Int) - ((m : Int) - g)) tb a b
    rw [Int.sub_sub_self]
theorem IsBack.ok {m c i : Nat} {s s' : Stp} (hm : 2 ≤ m) (ok : StpOk m c i s) (h : IsBack m s s') : StpOk m c i s' := by
  cases s with
  | add t k fs =>
    obtain rfl := h
    obtain ⟨o1, o2, o3, o4, o5⟩ := ok
    exact ⟨o1, Int.emod_nonneg _ (by omega), Int.emod_lt_of_pos _ (by omega), o4, o5⟩
  | scale t u =>
    obtain ⟨v, rfl, v0, v1, hv⟩ := h
    refine ⟨ok.1, v0, v1, ?_⟩
    have h1 := Int.gcd_dvd_left (a := v) (b := (m : Int))
    have h2 := Int.gcd_dvd_right (a := v) (b := (m : Int))
    have h3 : ((Int.gcd v m : Nat) : Int) ∣ ((1 : Nat) : Int) := by
      obtain ⟨q, e⟩ := mod_ex m (v * u)
      rw [hv] at e
      obtain ⟨x, hx⟩ := h1
      obtain ⟨y, hy⟩ := h2
      generalize ((Int.gcd v m : Nat) : Int) = G at hx hy
      refine ⟨x * u - y * q, ?_⟩
      rw [Int.mul_sub, ← Int.mul_assoc, ← Int.mul_assoc, ← hx, ← hy]
      exact e
    exact Nat.dvd_one.mp (Int.ofNat_dvd.mp h3)
  | swap a b =>
    obtain rfl := h
    exact ok
  | tab t g tb a b =>
    obtain rfl := h
    obtain ⟨o1, o2, o3, o4, o5, o6, o7, o8, o9, o10⟩ := ok
    exact ⟨o1, o2, o3, o4, o5, o6, by omega, o8, o9, o10⟩
inductive BackOf (m : Nat) : List Stp → List Stp → Prop
  | nil : BackOf m [] []
  | cons {s s' : Stp} {ss ss' : List Stp} : IsBack m s s' → BackOf m ss ss' → BackOf m (s :: ss) (ss' ++ [s'])
theorem BackOf.snoc {m : Nat} {x y : Stp} {xs ys : List Stp} (h : BackOf m xs ys) (hb : IsBack m x y) : BackOf m (xs ++ [x]) (y :: ys) := by
  induction h with
  | nil => exact .cons (ss' := []) hb .nil
  | cons h1 _ ih => exact .cons (ss' := y :: _) h1 ih
theorem BackOf.len {m : Nat} {xs ys : List Stp} (h : BackOf m xs ys) : ys.length = xs.length := by
  induction h with
  | nil => rfl
  | cons h1 _ ih => rw [List.length_append, List.length_cons, ih]; rfl
theorem BackOf.symm {m c i : Nat} {xs ys : List Stp} (h : BackOf m xs ys) (ok : ∀ s, s ∈ xs → StpOk m c i s) : BackOf m ys xs := by
  induction h with
  | nil => exact .nil
  | cons h1 _ ih => exact (ih fun s hs => ok s (List.mem_cons_of_mem _ hs)).snoc (h1.symm (ok _ List.mem_cons_self))
theorem BackOf.oks {m c i : Nat} {xs ys : List Stp} (hm : 2 ≤ m) (h : BackOf m xs ys) (ok : ∀ s, s ∈ xs → StpOk m c i s) : ∀ s, s ∈ ys → StpOk m c i s := by
  induction h with
  | nil => exact ok
  | cons h1 _ ih =>
    intro s hs
    rcases List.mem_append.mp hs with h | h
    · exact ih (fun s hs => ok s (List.mem_cons_of_mem _ hs)) s h
    · rw [List.mem_singleton.mp h]
      exact h1.ok hm (ok _ List.mem_cons_self)
theorem BackOf.uniq {m : Nat} {xs ys : List Stp} (h : BackOf m xs ys) : ∀ {zs : List Stp}, BackOf m xs zs → ys = zs := by
  induction h with
  | nil => intro zs h; cases h; rfl
  | cons h1 _ ih =>
    intro zs h
    cases h with
    | cons h2 h3 => rw [ih h3, h1.uniq h2]
theorem runF_app {m : Nat} {iv : List Int} {xs ys : List Stp} {mv : List Int} : runF m iv (xs ++ ys) mv = runF m iv ys (runF m iv xs mv) := by
  unfold runF
  rw [List.foldl_append]
theorem runF_back {m c i : Nat} {iv : List Int} {xs ys : List Stp} (hm : 1 ≤ m) (h : BackOf m xs ys) : ∀ {mv : List Int}, Mem m c mv → (∀ s, s ∈ xs → StpOk m c i s) → runF m iv ys (runF m iv xs mv) = mv := by
  induction h with
  | nil => intro mv _ _; rfl
  | @cons s s' ss ss' h1 _ ih =>
    intro mv hv ok
    have oks := ok s List.mem_cons_self
    show runF m iv (ss' ++ [s']) (runF m iv ss (stepF m iv mv s)) = mv
    rw [runF_snoc, ih (stepF_mem hm hv oks) fun s hs => ok s (List.mem_cons_of_mem _ hs), stepF_back hm hv oks h1]
/-- two that are the same step -/
theorem FacAt.eqv2 {K : PySem.W.Frag} {H : Hp} {a b : Addr} {f : Fac} (h : FacAt H a f) (h' : FacAt H b f) : Eqv K H 2 (.ref a) (.ref b) := by
  cases f with
  | cell i =>
    refine Eqv.tup h h' rfl (Nat.le_of_ble_eq_true rfl) fun j x y e1 e2 => ?_
    rw [e1] at e2
    cases e2
    have hx := List.mem_of_getElem? e1
    have e : x = .str "cell" ∨ x = .int (i : Int) := by simpa using hx
    rcases e with rfl | rfl
    · exact .str
    · exact .int
  | inp i =>
    refine Eqv.tup h h' rfl (Nat.le_of_ble_eq_true rfl) fun j x y e1 e2 => ?_
    rw [e1] at e2
    cases e2
    have hx := List.mem_of_getElem? e1
    have e : x = .str "input" ∨ x = .int (i : Int) := by simpa using hx
    rcases e with rfl | rfl
    · exact .str
    · exact .int
theorem StpAt.eqv2 {K : PySem.W.Frag} {H : Hp} {a b : Addr} {m cells inputs : Nat} {s : Stp} (ok : StpOk m cells inputs s) (h : StpAt H a s) (h' : StpAt H b s) : Eqv K H 4 (.ref a) (.ref b) := by
  cases s with
  | add t c fs =>
    obtain ⟨f, as, h1, h2, h3, h4⟩ := h
    obtain ⟨f', as', h1', h2', h3', h4'⟩ := h'
    have hf : Eqv K H 3 (.ref f) (.ref f') := by
      refine Eqv.tup h2 h2' (by rw [List.length_map, List.length_map]; omega) (by rw [List.length_map, h3']; have := ok.2.2.2.1; omega) fun j x y e1 e2 => ?_
      obtain ⟨p, hp, rfl⟩ := map_getR e1
      obtain ⟨p', hp', rfl⟩ := map_getR e2
      have hl := (List.getElem?_eq_some_iff.mp hp).1
      have g := List.getElem?_eq_getElem (l := fs) (i := j) (by omega)
      exact (h4 j _ p g hp).eqv2 (h4' j _ p' g hp')
    refine Eqv.tup h1 h1' rfl (Nat.le_of_ble_eq_true rfl) fun j x y e1 e2 => ?_
    match j, e1, e2 with
    | 0, e1, e2 => cases e1; cases e2; exact .str
    | 1, e1, e2 => cases e1; cases e2; exact .int
    | 2, e1, e2 => cases e1; cases e2; exact .int
    | 3, e1, e2 => cases e1; cases e2; exact hf
    | j + 4, e1, _ => simp at e1
  | scale t u =>
    refine Eqv.tup h h' rfl (Nat.le_of_ble_eq_true rfl) fun j x y e1 e2 => ?_
    match j, e1, e2 with
    | 0, e1, e2 => cases e1; cases e2; exact .str
    | 1, e1, e2 => cases e1; cases e2; exact .int
    | 2, e1, e2 => cases e1; cases e2; exact .int
    | j + 3, e1, _ => simp at e1
  | swap i k =>
    refine Eqv.tup h h' rfl (Nat.le_of_ble_eq_true rfl) fun j x y e1 e2 => ?_
    match j, e1, e2 with
    | 0, e1, e2 => cases e1; cases e2; exact .str
    | 1, e1, e2 => cases e1; cases e2; exact .int
    | 2, e1, e2 => cases e1; cases e2; exact .int
    | j + 3, e1, _ => simp at e1
  | tab t g tb i k =>
    obtain ⟨c, h1, as, h2, h3, h4⟩ := h
    obtain ⟨c', h1', as', h2', h3', h4'⟩ := h'
    have hlen : tb.length ≤ 1000 := ok.2.2.2.2.2.2.2.2.1
    have hI : IsTab m tb := ok.2.2.2.2.2.2.2.1
    have hc : Eqv K H 3 (.ref c) (.ref c') := by
      refine Eqv.tup h2 h2' (by rw [List.length_map, List.length_map]; omega) (by rw [List.length_map, h3']; omega) fun j x y e1 e2 => ?_
      obtain ⟨p, hp, rfl⟩ := map_getR e1
      obtain ⟨p', hp', rfl⟩ := map_getR e2
      have hl := (List.getElem?_eq_some_iff.mp hp).1
      have hl2 : j < tb.length := by omega
      have gr := List.getElem?_eq_getElem hl2
      obtain ⟨hr, _⟩ := hI.rows j _ gr
      refine Eqv.tup (h4 j _ p gr hp) (h4' j _ p' gr hp') rfl (by rw [List.length_map, hr]; omega) fun j2 x y e1 e2 => ?_
      rw [e1] at e2
      cases e2
      obtain ⟨z, _, rfl⟩ := map_get e1
      exact .int
    refine Eqv.tup h1 h1' rfl (Nat.le_of_ble_eq_true rfl) fun j x y e1 e2 => ?_
    match j, e1, e2 with
    | 0, e1, e2 => cases e1; cases e2; exact .str
    | 1, e1, e2 => cases e1; cases e2; exact .int
    | 2, e1, e2 => cases e1; cases e2; exact .int
    | 3, e1, e2 => cases e1; cases e2; exact hc
    | 4, e1, e2 => cases e1; cases e2; exact .int
    | 5, e1, e2 => cases e1; cases e2; exact .int
    | j + 6, e1, _ => simp at e1
end Br

/-! ### max(xs, default=d) -/
namespace Br
open PySem PySem.Spec PyProof.Rows L2
theorem max_rawD {prog : Program} {w : World} {A : Around} {E : Value → Shared → Prop} {s : Shared} {l : Addr} {its : List Value} {ns : List Int} {d : Value} {Q : Value → Shared → Prop} (hh : A.handled = none) (hl : s.heap.IsList l its.toArray) (hi : IntsAre its ns)
    (h0 : ns = [] → ∀ h' tk, (∀ b o, s.heap.get? b = some o → h'.get? b = some o) → Q d { s with heap := h', toks := tk })
    (h : ∀ h' tk M t', (∀ b o, s.heap.get? b = some o → h'.get? b = some o) → M ∈ ns → (∀ a, a ∈ ns → a ≤ M) → Q (.int M t') { s with heap := h', toks := tk }) : wpAny (model prog w) A (call (.builtin "max") [.ref l] [(Str.ofString "default", d)]) Q E s := by
  obtain ⟨xs, e⟩ := hi.allInts.items
  have hn : numsOf (intItems xs).toList = ns := by rw [← e]; exact hi.numsOf
  rw [nums_intItems] at hn
  subst hn
  rw [e] at hl
  refine call_max_walkD (iter_intList hl fun s₂ e2 st hfp hlI => ?_)
  have keep : ∀ {s' : Shared}, Moved [s.heap.objs.size] (fun a b => b = a) s₂ s' → (∀ b o, s.heap.get? b = some o → s'.heap.get? b = some o) ∧ s' = { s with heap := s'.heap, toks := s'.toks } := by
    intro s' m
    subst e2
    refine ⟨fun b o eb => m.heap b o (fun hb => ?_) (Heap.get?_push_of_some _ eb), ?_⟩
    · have : b = s.heap.objs.size := by simpa using hb
      exact absurd (Heap.lt_size eb) (by rw [this]; exact Nat.lt_irrefl _)
    · have h1 := m.gens
      have h2 := m.drawn
      have h3 := m.os
      cases s'
      cases s
      simp at h1 h2 h3 ⊢
      exact ⟨h1, h2, h3⟩
  refine ⟨_, _, _, _, _, _, _, s.heap, fun i j => decide (numAt xs i > numAt xs j), rfl, (Walks.list (A := A.in1) hh _ l hlI (intItems xs)).toS, st, hfp, ?_, ?_, ?_, ?_⟩
  · intro b o eb hb
    have : b = s.heap.objs.size := by simpa using hb
    exact absurd (Heap.lt_size eb) (by rw [this]; exact Nat.lt_irrefl _)
  · intro b o eb
    subst e2
    exact Heap.get?_push_of_some _ eb
  · intro hz s' m
    obtain ⟨k1, k2⟩ := keep m
    rw [k2]
    refine h0 ?_ _ _ k1
    have : xs.size = 0 := by simpa [intItems] using hz
    have : xs = #[] := Array.eq_empty_of_size_eq_zero this
    rw [this]
    rfl
  · intro hz
    have hsz : 0 < xs.size := by simpa [intItems] using hz
    refine ⟨fun i j vi vj s' Q' E' _ h1 h2 h3 => CmpOf.ints_gt (numAt xs) (fun _ _ => intItems_at) i j vi vj s' Q' E' h1 h2 h3, fun v s' hP m => ?_⟩
    obtain ⟨k1, k2⟩ := keep m
    rw [k2]
    have hP : (intItems xs)[argBest (fun i j => decide (numAt xs i > numAt xs j)) (xs.size - 1)]? = some v := by simpa [intItems] using hP
    obtain ⟨t, rfl⟩ := intItems_at hP
    obtain ⟨h1, h2⟩ := argBest_gt (numAt xs) (xs.size - 1)
    refine h _ _ _ t k1 ?_ fun a ha => ?_
    · rw [numAt_eq]; exact PySem.getD_mem (by rw [List.length_map, Array.length_toList]; omega)
    · obtain ⟨j, hj, rfl⟩ := mem_getD ha
      rw [List.length_map, Array.length_toList] at hj
      rw [← numAt_eq]; exact h2 j (by omega)
/-- max(xs, default=z): z the default -/
def rMaxDf (K : PySem.W.Frag) : List V → List V → Hp → VK → Prop := fun vs zs H Q => ∃ (a : Addr) (ns : List Int) (d : Int), vs = [V.ref a] ∧ zs = [.int d] ∧ SqL K H a (ns.map V.int) ∧ (ns = [] → Q (.int d) H) ∧ ∀ m, m ∈ ns → (∀ y, y ∈ ns → y ≤ m) → Q (.int m) H
theorem cr_maxDf {X : Cx} (hc : X.calm = true) : CallRK X (.builtin "max") [Str.ofString "default"] (rMaxDf X.K) := by
  intro pins s σ H xs zs us ws Q I r1 r2 h
  obtain ⟨a, ns, d, rfl, rfl, hs, q0, q⟩ := h
  obtain ⟨its, rv, hl, _⟩ := I.list hs
  rw [Vals.ref1 r1]
  cases r2 with
  | cons rz rr =>
    cases rr
    exact max_rawD (I.ok.hd hc) hl.isList rv.ints (fun e h' tk hk => ⟨.int d, H, I.kept hk, rz, q0 e⟩) fun h' tk m t' hk h1 h2 => ⟨.int _, H, I.kept hk, ⟨_, rfl⟩, q m h1 h2⟩
theorem x_maxDf {K : PySem.W.Frag} {σ : L2.St} {H : Hp} {Q : VK} {t tk : TA} (h : t σ H fun vs H1 => tk σ H1 fun zs H2 => rMaxDf K vs zs H2 Q) : tCKw (rMaxDf K) t tk σ H Q := h
/-- what is walked within a comprehension, the written part named -/
theorem pi_tupK {X : Cx} {tg : Expr} {K2 : PySem.W.Frag} {l : Expr} {tl : TE} (hK : X.K = K2) (hl : PE X l tl) : PI X tg l (iTup K2 tl) := by
  subst hK
  exact pi_tup hl
theorem pi_listK {X : Cx} {tg : Expr} {K2 : PySem.W.Frag} {l : Expr} {tl : TE} (hK : X.K = K2) (hl : PE X l tl) : PI X tg l (iList K2 tl) := by
  subst hK
  exact pi_list hl
theorem x_maxDfP {K : PySem.W.Frag} {H : Hp} {Q : VK} {a : Addr} {ns : List Int} {d : Int} (hs : SqL K H a (ns.map V.int)) (h : ∀ m, (ns = [] ∧ m = d) ∨ (m ∈ ns ∧ ∀ y, y ∈ ns → y ≤ m) → Q (.int m) H) : rMaxDf K [.ref a] [.int d] H Q :=
  ⟨a, ns, d, rfl, rfl, hs, fun e => h d (.inl ⟨e, rfl⟩), fun m h1 h2 => h m (.inr ⟨h1, h2⟩)⟩
end Br

/-! ### data of any kind in the heap, apart from one list -/
namespace Br
open PySem PySem.Spec PyProof.Rows L2
mutual
inductive DAt (d : Addr) (H : Hp) : V → PyData → Prop
  | non : DAt d H .non .none
  | bl (b : Bool) : DAt d H (.bl b) (.bool b)
  | int (i : Int) : DAt d H (.int i) (.int i)
  | str (x : Str) : DAt d H (.str x) (.str x)
  | lst {a : Addr} {xs : List V} {ds : List PyData} (hd : a ≠ d) (h : H a = some (.lst xs)) (hs : DAts d H xs ds) : DAt d H (.ref a) (.list ds)
  | tup {a : Addr} {xs : List V} {ds : List PyData} (h : H a = some (.tup xs)) (hs : DAts d H xs ds) : DAt d H (.ref a) (.tuple ds)
inductive DAts (d : Addr) (H : Hp) : List V → List PyData → Prop
  | nil : DAts d H [] []
  | cons {v : V} {vs : List V} {e : PyData} {es : List PyData} (h : DAt d H v e) (hs : DAts d H vs es) : DAts d H (v :: vs) (e :: es)
end
section
variable {d : Addr} {H H' : Hp}
theorem DAts.len : ∀ {xs : List V} {ds : List PyData}, DAts d H xs ds → xs.length = ds.length
  | [], _, h => by cases h; rfl
  | _ :: xs, _, h => by
    cases h with
    | cons h hs => exact congrArg (· + 1) hs.len
theorem DAts.get : ∀ {xs : List V} {ds : List PyData}, DAts d H xs ds → ∀ {i : Nat} {x : V}, xs[i]? = some x → ∃ e, ds[i]? = some e ∧ DAt d H x e
  | [], _, _, i, x, e => by simp at e
  | v :: xs, _, h, i, x, e => by
    cases h with
    | cons h hs =>
      cases i with
      | zero => cases e; exact ⟨_, rfl, h⟩
      | succ i => exact hs.get (i := i) (by simpa using e)
theorem DAts.of : ∀ {xs : List V} {ds : List PyData}, xs.length = ds.length → (∀ (i : Nat) x e, xs[i]? = some x → ds[i]? = some e → DAt d H x e) → DAts d H xs ds
  | [], [], _, _ => .nil
  | v :: xs, e :: ds, hl, h => .cons (h 0 v e rfl rfl) (DAts.of (by simpa using hl) fun i x f h1 h2 => h (i + 1) x f (by simpa using h1) (by simpa using h2))
  | [], _ :: _, hl, _ => by simp at hl
  | _ :: _, [], hl, _ => by simp at hl
theorem DAts.snoc : ∀ {xs : List V} {ds : List PyData} {v : V} {e : PyData}, DAts d H xs ds → DAt d H v e → DAts d H (xs ++ [v]) (ds ++ [e])
  | [], _, v, e, h, h1 => by cases h; exact .cons h1 .nil
  | _ :: xs, _, v, e, h, h1 => by
    cases h with
    | cons h hs => exact .cons h (hs.snoc h1)
theorem DAts.app : ∀ {xs ys : List V} {ds es : List PyData}, DAts d H xs ds → DAts d H ys es → DAts d H (xs ++ ys) (ds ++ es)
  | [], _, _, _, h, h1 => by cases h; exact h1
  | _ :: xs, _, _, _, h, h1 => by
    cases h with
    | cons h hs => exact .cons h (hs.app h1)
mutual
theorem DAt.keep (hd : ∃ ys, H d = some (.lst ys)) (k : Keep d H H') : ∀ (e : PyData) {v : V}, DAt d H v e → DAt d H' v e
  | .none, _, h => by cases h; exact .non
  | .bool b, _, h => by cases h; exact .bl b
  | .int i, _, h => by cases h; exact .int i
  | .str x, _, h => by cases h; exact .str x
  | .list ds, _, h => by
    cases h with
    | lst hn h hs => exact .lst hn (k _ _ h hn) (DAts.keep hd k ds hs)
  | .tuple ds, _, h => by
    obtain ⟨ys, hd'⟩ := id hd
    cases h with
    | tup h hs => exact .tup (k _ _ h (ne_of h hd' (by intro z; cases z))) (DAts.keep hd k ds hs)
  | .dict _, _, h => by cases h
theorem DAts.keep (hd : ∃ ys, H d = some (.lst ys)) (k : Keep d H H') : ∀ (es : List PyData) {vs : List V}, DAts d H vs es → DAts d H' vs es
  | [], _, h => by cases h; exact .nil
  | e :: es, _, h => by
    cases h with
    | cons h hs => exact .cons (DAt.keep hd k e h) (DAts.keep hd k es hs)
end
mutual
theorem DAt.same (k : Same H H') : ∀ (e : PyData) {v : V}, DAt d H v e → DAt d H' v e
  | .none, _, h => by cases h; exact .non
  | .bool b, _, h => by cases h; exact .bl b
  | .int i, _, h => by cases h; exact .int i
  | .str x, _, h => by cases h; exact .str x
  | .list ds, _, h => by
    cases h with
    | lst hn h hs => exact .lst hn (k _ _ h) (DAts.same k ds hs)
  | .tuple ds, _, h => by
    cases h with
    | tup h hs => exact .tup (k _ _ h) (DAts.same k ds hs)
  | .dict _, _, h => by cases h
theorem DAts.same (k : Same H H') : ∀ (es : List PyData) {vs : List V}, DAts d H vs es → DAts d H' vs es
  | [], _, h => by cases h; exact .nil
  | e :: es, _, h => by
    cases h with
    | cons h hs => exact .cons (DAt.same k e h) (DAts.same k es hs)
end
theorem DAts.ints : ∀ {ns : List Int}, DAts d H (ns.map V.int) (ns.map PyData.int)
  | [] => .nil
  | i :: ns => .cons (.int i) DAts.ints
theorem DAts.bls : ∀ {bs : List Bool}, DAts d H (bs.map V.bl) (bs.map PyData.bool)
  | [] => .nil
  | b :: bs => .cons (.bl b) DAts.bls
/-- is it an integer from 0 to b - 1 -/
def isBD (b : Int) : PyData → Bool
  | .int i => decide (0 ≤ i) && decide (i < b)
  | _ => false
theorem isBD_iff {b : Int} {e : PyData} : isBD b e = true ↔ ∃ i, e = .int i ∧ 0 ≤ i ∧ i < b := by
  cases e with
  | int i =>
    show (decide (0 ≤ i) && decide (i < b)) = true ↔ _
    rw [Bool.and_eq_true, decide_eq_true_iff, decide_eq_true_iff]
    exact ⟨fun h => ⟨i, rfl, h⟩, fun ⟨j, e, h⟩ => by cases e; exact h⟩
  | _ => exact ⟨fun h => (by cases h), fun h => (by obtain ⟨_, h, _⟩ := h; cases h)⟩
def isBlD : PyData → Bool
  | .bool _ => true
  | _ => false
end
end Br

/-! ### gates as data, and what they do -/
namespace Br
open PySem PySem.Spec PyProof.Rows L2
abbrev Gt := Nat × List Nat
def perfG (bs : List Bool) (g : Gt) : List Bool := if g.2.all (fun c => bs.getD c false) then bs.set g.1 (!bs.getD g.1 false) else bs
def perfF (gs : List Gt) (bs : List Bool) : List Bool := gs.foldl perfG bs
structure GtOk (n : Nat) (g : Gt) : Prop where
  t : g.1 < n
  c : ∀ x, x ∈ g.2 → x < n
  ne : g.1 ∉ g.2
  up : g.2.Pairwise (· < ·)
theorem GtOk.mono {n m : Nat} {g : Gt} (h : GtOk n g) (l : n ≤ m) : GtOk m g := ⟨Nat.lt_of_lt_of_le h.t l, fun x hx => Nat.lt_of_lt_of_le (h.c x hx) l, h.ne, h.up⟩
theorem perfG_len {bs : List Bool} {g : Gt} : (perfG bs g).length = bs.length := by
  unfold perfG
  split
  · rw [List.length_set]
  · rfl
theorem perfF_len : ∀ {gs : List Gt} {bs : List Bool}, (perfF gs bs).length = bs.length
  | [], _ => rfl
  | g :: gs, bs => (perfF_len (gs := gs) (bs := perfG bs g)).trans perfG_len
theorem perfF_snoc {gs : List Gt} {g : Gt} {bs : List Bool} : perfF (gs ++ [g]) bs = perfG (perfF gs bs) g := by
  unfold perfF
  rw [List.foldl_append]
  rfl
theorem getD_setB {bs : List Bool} {i j : Nat} {b : Bool} (h : i ≠ j) : (bs.set i b).getD j false = bs.getD j false := by
  rw [List.getD_eq_getElem?_getD, List.getD_eq_getElem?_getD, List.getElem?_set_ne h]
theorem perfG_twice {n : Nat} {bs : List Bool} {g : Gt} (ok : GtOk n g) (hn : n ≤ bs.length) : perfG (perfG bs g) g = bs := by
  have ht := Nat.lt_of_lt_of_le ok.t hn
  by_cases h : g.2.all (fun c => bs.getD c false) = true
  · have e : perfG bs g = bs.set g.1 (!bs.getD g.1 false) := by unfold perfG; rw [if_pos h]
    rw [e]
    unfold perfG
    rw [if_pos]
    · apply List.ext_getElem?
      intro j
      by_cases hj : g.1 = j
      · subst hj
        have h1 : g.1 < (bs.set g.1 (!bs.getD g.1 false)).length := by rw [List.length_set]; exact ht
        rw [List.getElem?_set_self h1, List.getD_eq_getElem?_getD (l := bs.set _ _), List.getElem?_set_self ht, List.getD_eq_getElem?_getD, List.getElem?_eq_getElem ht]
        simp
      · rw [List.getElem?_set_ne hj, List.getElem?_set_ne hj]
    · rw [List.all_eq_true] at h ⊢
      intro c hc
      rw [getD_setB (fun e => ok.ne (by rw [e]; exact hc))]
      exact h c hc
  · have e : perfG bs g = bs := by unfold perfG; rw [if_neg h]
    rw [e, e]
theorem perfF_rev {n : Nat} : ∀ {gs : List Gt} {bs : List Bool}, (∀ g, g ∈ gs → GtOk n g) → n ≤ bs.length → perfF gs.reverse (perfF gs bs) = bs
  | [], _, _, _ => rfl
  | g :: gs, bs, ok, hn => by
    rw [List.reverse_cons, perfF_snoc]
    show perfG (perfF gs.reverse (perfF gs (perfG bs g))) g = bs
    rw [perfF_rev (fun x hx => ok x (List.mem_cons_of_mem _ hx)) (by rw [perfG_len]; exact hn)]
    exact perfG_twice (ok g List.mem_cons_self) hn
def cInts (cs : List Nat) : List V := cs.map fun (c : Nat) => V.int (c : Int)
def GtAt (H : Hp) (a : Addr) (g : Gt) : Prop := ∃ c : Addr, H a = some (.tup [.int (g.1 : Int), .ref c]) ∧ H c = some (.tup (cInts g.2))
def gtD (g : Gt) : PyData := .tuple [.int (g.1 : Int), .tuple (g.2.map fun (c : Nat) => PyData.int (c : Int))]
theorem GtAt.tups {H H' : Hp} {a : Addr} {g : Gt} (h : GtAt H a g) (k : ∀ b xs, H b = some (.tup xs) → H' b = some (.tup xs)) : GtAt H' a g := by
  obtain ⟨c, h1, h2⟩ := h
  exact ⟨c, k _ _ h1, k _ _ h2⟩
theorem cInts_at {d : Addr} {H : Hp} : ∀ {cs : List Nat}, DAts d H (cInts cs) (cs.map fun (c : Nat) => PyData.int (c : Int))
  | [] => .nil
  | c :: cs => .cons (.int _) cInts_at
theorem GtAt.dat {d a : Addr} {H : Hp} {g : Gt} (h : GtAt H a g) : DAt d H (.ref a) (gtD g) := by
  obtain ⟨c, h1, h2⟩ := h
  exact .tup h1 (.cons (.int _) (.cons (.tup h2 cInts_at) .nil))
/-- rising bits below 120, behind the last one -/
def risF : Int → List PyData → Bool
  | _, [] => true
  | l, .int i :: es => (decide (0 ≤ i) && decide (i < 120)) && (decide (l < i) && risF i es)
  | _, _ :: _ => false
def risD : PyData → Bool
  | .tuple es => risF (-1) es
  | _ => false
def hasD (e : PyData) (es : List PyData) : Bool := es.any fun x => match x, e with | .int i, .int j => decide (i = j) | _, _ => false
def gateD : PyData → Bool
  | .tuple [t, .tuple es] => isBD 120 t && (risF (-1) es && !hasD t es)
  | _ => false
def gatesD : PyData → Bool
  | .list es => decide (es.length ≤ 60000) && es.all gateD
  | _ => false
theorem risF_ok : ∀ {cs : List Nat} {l : Int}, cs.Pairwise (· < ·) → (∀ c, c ∈ cs → c < 120 ∧ l < (c : Int)) → risF l (cs.map fun (c : Nat) => PyData.int (c : Int)) = true
  | [], _, _, _ => rfl
  | c :: cs, l, hp, h => by
    obtain ⟨h1, h2⟩ := h c List.mem_cons_self
    show ((decide (0 ≤ (c : Int)) && decide ((c : Int) < 120)) && (decide (l < (c : Int)) && _)) = true
    rw [decide_eq_true (by omega), decide_eq_true (by omega), decide_eq_true h2]
    rw [List.pairwise_cons] at hp
    exact risF_ok hp.2 fun x hx => ⟨(h x (List.mem_cons_of_mem _ hx)).1, by have := hp.1 x hx; omega⟩
theorem gateD_ok {g : Gt} (ok : GtOk 120 g) : gateD (gtD g) = true := by
  show (isBD 120 (.int (g.1 : Int)) && (risF (-1) (g.2.map fun (c : Nat) => PyData.int (c : Int)) && !hasD (.int (g.1 : Int)) (g.2.map fun (c : Nat) => PyData.int (c : Int)))) = true
  have h1 : isBD 120 (.int (g.1 : Int)) = true := isBD_iff.mpr ⟨_, rfl, by omega, by have := ok.t; omega⟩
  have h2 := risF_ok (l := -1) ok.up fun c hc => ⟨ok.c c hc, by omega⟩
  have h3 : hasD (.int (g.1 : Int)) (g.2.map fun (c : Nat) => PyData.int (c : Int)) = false := by
    unfold hasD
    rw [List.any_eq_false]
    intro x hx
    obtain ⟨c, hc, rfl⟩ := List.mem_map.mp hx
    have hne : (c : Int) ≠ (g.1 : Int) := fun e => ok.ne (by have : c = g.1 := by omega
                                                             rw [← this]; exact hc)
    show ¬ decide ((c : Int) = (g.1 : Int)) = true
    rw [decide_eq_false hne]
    decide
  rw [h1, h2, h3]
  rfl
/-- the bits that a gate touches -/
def topG (g : Gt) : Nat := g.2.foldr max g.1 + 1
theorem foldr_max {cs : List Nat} {t : Nat} : t ≤ cs.foldr max t ∧ (∀ c, c ∈ cs → c ≤ cs.foldr max t) ∧ (cs.foldr max t = t ∨ cs.foldr max t ∈ cs) := by
  induction cs with
  | nil => exact ⟨Nat.le_refl _, fun c h => by simp at h, .inl rfl⟩
  | cons c cs ih =>
    obtain ⟨h1, h2, h3⟩ := ih
    show t ≤ max c _ ∧ _ ∧ _
    refine ⟨by omega, fun x hx => ?_, ?_⟩
    · rcases List.mem_cons.mp hx with rfl | hx
      · exact Nat.le_max_left _ _
      · exact Nat.le_trans (h2 x hx) (Nat.le_max_right _ _)
    · show max c _ = t ∨ max c _ ∈ _
      rcases Nat.le_total c (cs.foldr max t) with h | h
      · rw [Nat.max_eq_right h]
        rcases h3 with h3 | h3
        · exact .inl h3
        · exact .inr (List.mem_cons_of_mem _ h3)
      · rw [Nat.max_eq_left h]
        exact .inr List.mem_cons_self
theorem topG_le {n : Nat} {g : Gt} (ok : GtOk n g) : topG g ≤ n := by
  unfold topG
  rcases (foldr_max (cs := g.2) (t := g.1)).2.2 with h | h
  · rw [h]; exact ok.t
  · exact ok.c _ h
theorem up_len {n : Nat} : ∀ {cs : List Nat} {l : Nat}, cs.Pairwise (· < ·) → (∀ c, c ∈ cs → l ≤ c ∧ c < n) → cs.length ≤ n - l
  | [], _, _, _ => Nat.zero_le _
  | c :: cs, l, hp, h => by
    rw [List.pairwise_cons] at hp
    obtain ⟨h1, h2⟩ := h c List.mem_cons_self
    have := up_len (l := c + 1) hp.2 fun x hx => ⟨hp.1 x hx, (h x (List.mem_cons_of_mem _ hx)).2⟩
    rw [List.length_cons]
    omega
theorem GtOk.len {n : Nat} {g : Gt} (h : GtOk n g) : g.2.length ≤ n := by
  have := up_len (l := 0) h.up fun c hc => ⟨Nat.zero_le _, h.c c hc⟩
  omega
theorem cInts_get {cs : List Nat} {i : Nat} {x : V} (hx : (cInts cs)[i]? = some x) : ∃ m : Nat, cs[i]? = some m ∧ x = .int (m : Int) := by
  unfold cInts at hx
  rw [List.getElem?_map] at hx
  cases e : cs[i]? with
  | none => rw [e] at hx; cases hx
  | some n => rw [e] at hx; exact ⟨n, rfl, (Option.some.inj hx).symm⟩
end Br

/-! ### bits, many gates; comprehensions with a test -/
namespace Br
open PySem PySem.Spec PyProof.Rows L2
theorem x_max {σ : L2.St} {H : Hp} {Q : VK} {K : PySem.W.Frag} {p : Addr} {ns : List Int} (hp : SqL K H p (ns.map V.int)) (h0 : 0 < ns.length) (q : ∀ m, m ∈ ns → (∀ y, y ∈ ns → y ≤ m) → Q (.int m) H) : rMax K [.ref p] H Q := ⟨p, ns, rfl, hp, h0, q⟩
theorem cInts_eq {cs : List Nat} : cInts cs = (cs.map fun (c : Nat) => (c : Int)).map V.int := by
  unfold cInts
  rw [List.map_map]
  rfl
theorem x_listT {K : PySem.W.Frag} {H : Hp} {Q : VK} {p : Addr} {xs : List V} (hp : SqT K H p xs) (q : ∀ l, H l = none → Q (.ref l) (L2.upd H l (.lst xs))) : rListOf K [.ref p] H Q := ⟨p, xs, rfl, .inr hp, q⟩
def bls (bs : List Bool) : List V := bs.map V.bl
theorem bls_get {bs : List Bool} {i : Nat} (h : i < bs.length) : (bls bs)[i]? = some (.bl (bs.getD i false)) := by
  unfold bls
  rw [List.getElem?_map, List.getElem?_eq_getElem h, List.getD_eq_getElem?_getD, List.getElem?_eq_getElem h]
  rfl
theorem bls_set {bs : List Bool} {i : Nat} {b : Bool} : (bls bs).set i (.bl b) = bls (bs.set i b) := by
  unfold bls
  rw [List.map_set]
theorem bls_len {bs : List Bool} : (bls bs).length = bs.length := by unfold bls; rw [List.length_map]
/-- many gates -/
def GtsAt (H : Hp) (as : List Addr) (gs : List Gt) : Prop := as.length = gs.length ∧ ∀ (i : Nat) x b, gs[i]? = some x → as[i]? = some b → GtAt H b x
theorem GtsAt.tups {H H' : Hp} {as : List Addr} {gs : List Gt} (h : GtsAt H as gs) (k : ∀ b xs, H b = some (.tup xs) → H' b = some (.tup xs)) : GtsAt H' as gs := ⟨h.1, fun i x b e1 e2 => (h.2 i x b e1 e2).tups k⟩
theorem GtsAt.get {H : Hp} {as : List Addr} {gs : List Gt} (h : GtsAt H as gs) {i : Nat} {b : Addr} (e : as[i]? = some b) : ∃ x, gs[i]? = some x ∧ GtAt H b x := by
  have hl := (List.getElem?_eq_some_iff.mp e).1
  have hl2 : i < gs.length := by rw [← h.1]; exact hl
  exact ⟨_, List.getElem?_eq_getElem hl2, h.2 i _ b (List.getElem?_eq_getElem hl2) e⟩
theorem take_snocG {α : Type} {ss : List α} {i : Nat} {s : α} (h : ss[i]? = some s) : ss.take (i + 1) = ss.take i ++ [s] := by rw [List.take_add_one, h]; rfl
/-- a comprehension over a tuple, with a test, that keeps the items that meet it -/
theorem x_lcTT {K : PySem.W.Frag} {σ : L2.St} {H : Hp} {Q : VK} {ta : TE} {tt : TT} {te : TE} {j : Nat} {vs : List Nat} {a : Addr} (xs : List V) (P : Addr → Nat → Hp → Prop) (hn : ∀ R : V → Hp → Prop, R (.ref a) H → ta σ H R) (ha : SqT K H a xs) (h0 : ∀ p, H p = none → P p 0 (L2.upd H p (.lst [])))
    (hl : ∀ p i H', H p = none → i ≤ xs.length → P p i H' → SqT K H' a xs) (hw : ∀ x, wipe ((wipe σ vs).set j (some x)) vs = wipe σ vs)
    (hs : ∀ p (i : Nat) x H', H p = none → xs[i]? = some x → P p i H' → tt ((wipe σ vs).set j (some x)) H' fun b H3 => if b = true then te ((wipe σ vs).set j (some x)) H3 fun y H4 => ∃ acc, H4 p = some (.lst acc) ∧ acc.length < sizeLine ∧ P p (i + 1) (L2.upd H4 p (.lst (acc ++ [y]))) else P p (i + 1) H3)
    (hd : ∀ p H', H p = none → P p xs.length H' → Q (.ref p) H') : tLc (iTup K ta) (gName j) tt te vs σ H Q := by
  refine hn _ ⟨a, rfl, ⟨xs, ha⟩, fun p hp => ?_⟩
  refine lc_tup (xs := xs) (Qd := fun H' => Q (.ref p) H') (P p) (h0 p hp) (fun i H' hi q => hl p i H' hp hi q) (fun i x H' hi q => ?_) fun H' q => hd p H' hp q
  exact ⟨hw _, hs p i x H' hp hi q⟩
theorem x_lcPreT {σ : L2.St} {H : Hp} {Q : VK} {ta : TE} {j : Nat} {tt : TT} {te : TE} {vs : List Nat} (h : ta σ H fun v H1 => tLc (iRng1 (tCons (tC v) tNil)) (gName j) tt te vs σ H1 Q) : tLc (iRng1 (tCons ta tNil)) (gName j) tt te vs σ H Q := h
/-- a comprehension over a range, with a test -/
theorem x_lcRT {σ : L2.St} {H : Hp} {Q : VK} {ta : TE} {tt : TT} {j : Nat} {te : TE} {vs : List Nat} (n : Int) (P : Addr → Nat → Hp → Prop) (hn : ∀ R : V → Hp → Prop, R (.int n) H → ta σ H R) (h1 : -(2 ^ 62) ≤ n) (h2 : n < 2 ^ 62) (h0 : ∀ p, H p = none → P p 0 (L2.upd H p (.lst [])))
    (hw : ∀ x, wipe ((wipe σ vs).set j (some x)) vs = wipe σ vs)
    (hs : ∀ p (i : Nat) H', H p = none → (i : Int) < n → P p i H' → tt ((wipe σ vs).set j (some (.int (i : Int)))) H' fun b H3 => if b = true then te ((wipe σ vs).set j (some (.int (i : Int)))) H3 fun y H4 => ∃ acc, H4 p = some (.lst acc) ∧ acc.length < sizeLine ∧ P p (i + 1) (L2.upd H4 p (.lst (acc ++ [y]))) else P p (i + 1) H3)
    (hd : ∀ p H', H p = none → P p n.toNat H' → Q (.ref p) H') : tLc (iRng1 (tCons ta tNil)) (gName j) tt te vs σ H Q := by
  refine hn _ ⟨n, rfl, h1, h2, fun p hp => ?_⟩
  refine lc_range (lo := 0) (Qd := fun H' => Q (.ref p) H') (P p) (h0 p hp) (fun i H' hi q => ?_) fun H' q => hd p H' hp q
  have e : (0 : Int) + (i : Int) = (i : Int) := Int.zero_add _
  rw [e]
  exact ⟨hw _, hs p i H' hp (by omega) q⟩
theorem up_snoc {cs : List Nat} {i : Nat} (h : cs.Pairwise (· < ·)) (hc : ∀ c, c ∈ cs → c < i) : (cs ++ [i]).Pairwise (· < ·) := by
  rw [List.pairwise_append]
  exact ⟨h, List.pairwise_singleton _ _, fun a ha b hb => by rw [List.mem_singleton.mp hb]; exact hc a ha⟩
theorem cInts_snoc {cs : List Nat} {i : Nat} : cInts cs ++ [.int (i : Int)] = cInts (cs ++ [i]) := by unfold cInts; rw [List.map_append]; rfl
theorem cInts_len {cs : List Nat} : (cInts cs).length = cs.length := by unfold cInts; rw [List.length_map]
theorem bls_snoc {bs : List Bool} {b : Bool} : bls bs ++ [.bl b] = bls (bs ++ [b]) := by unfold bls; rw [List.map_append]; rfl
/-- a comprehension of values, item by item -/
theorem x_lcV {wi : TI} {te : TE} {vs : List Nat} {j : Nat} {Q : VK} {σ : L2.St} {H : Hp} {J : It} {G : Hp → Prop} {xs : List V} (f : Nat → V) (hw : ∀ R : It → Hp → Prop, R J H → wi σ H R) (w : Walk J xs.length G (YAt xs)) (hn : xs.length ≤ 100000)
    (hG : ∀ H', Same H H' → G H') (hv : ∀ x, wipe ((wipe σ vs).set j (some x)) vs = wipe σ vs)
    (he : ∀ (i : Nat) x H', Same H H' → xs[i]? = some x → ∀ R : VK, (∀ H2, Same H' H2 → R (f i) H2) → te ((wipe σ vs).set j (some x)) H' R)
    (hd : ∀ p H', H p = none → Same H H' → H' p = some (.lst ((List.range xs.length).map f)) → Q (.ref p) H') : tLc wi (gName j) tYes te vs σ H Q := by
  refine x_lcI hw w (fun p i H' => Same H H' ∧ H' p = some (.lst ((List.range i).map f))) (fun p hp => ⟨same_upd hp, upd_same⟩) (fun p i H' _ _ z => hG H' z.1) ?_ (fun x σ' H' R R' hr h => hr _ _ h) fun p H' hp z => hd p H' hp z.1 z.2
  rintro p i x H' H2 hi hp ⟨hs, hl⟩ ⟨rfl, hx⟩
  refine x_gName ⟨hv x, he i x _ hs hx _ fun H3 hs3 => ?_⟩
  refine ⟨_, hs3 _ _ hl, lt_line (by simp; omega), sput (hs.trans hs3) hp, ?_⟩
  rw [upd_same, List.range_succ, List.map_append]
  rfl
theorem range_map {α β : Type} {ds : List α} {f : α → β} {d : α} : ((List.range ds.length).map fun i => f (ds.getD i d)) = ds.map f := by
  apply List.ext_getElem?
  intro i
  rw [List.getElem?_map, List.getElem?_map]
  by_cases h : i < ds.length
  · rw [List.getElem?_range h, List.getElem?_eq_getElem h]
    show some (f (ds.getD i d)) = some (f ds[i])
    rw [List.getD_eq_getElem?_getD, List.getElem?_eq_getElem h]; rfl
  · rw [List.getElem?_eq_none (by simpa using h), List.getElem?_eq_none (by simpa using h)]
    rfl
theorem getDT {α : Type} {ds : List α} {i : Nat} {e d : α} (h : ds[i]? = some e) : ds.getD i d = e := by rw [List.getD_eq_getElem?_getD, h]; rfl
theorem GtsAt.snoc {H : Hp} {as : List Addr} {gs : List Gt} {b : Addr} {x : Gt} (h : GtsAt H as gs) (hx : GtAt H b x) : GtsAt H (as ++ [b]) (gs ++ [x]) := by
  refine ⟨by rw [List.length_append, List.length_append, h.1]; rfl, fun i y c e1 e2 => ?_⟩
  rcases snoc_at rfl e1 with ⟨h1, e1⟩ | ⟨h1, rfl⟩
  · rcases snoc_at rfl e2 with ⟨h2, e2⟩ | ⟨h2, rfl⟩
    · exact h.2 i y c e1 e2
    · have := h.1; omega
  · rcases snoc_at rfl e2 with ⟨h2, e2⟩ | ⟨h2, rfl⟩
    · have := h.1; omega
    · exact hx
theorem x_lcPreLT {K : PySem.W.Frag} {σ : L2.St} {H : Hp} {Q : VK} {te : TE} {ta : TE} {tt : TT} {j : Nat} {vs : List Nat} (h : ta σ H fun v H1 => tLc (iList K (tC v)) (gName j) tt te vs σ H1 Q) : tLc (iList K ta) (gName j) tt te vs σ H Q := h
/-- a comprehension over a list, with a test -/
theorem x_lcLT {K : PySem.W.Frag} {σ : L2.St} {H : Hp} {Q : VK} {ta : TE} {tt : TT} {te : TE} {j : Nat} {vs : List Nat} {a : Addr} (xs : List V) (P : Addr → Nat → Hp → Prop) (hn : ∀ R : V → Hp → Prop, R (.ref a) H → ta σ H R) (ha : SqL K H a xs) (h0 : ∀ p, H p = none → P p 0 (L2.upd H p (.lst [])))
    (hl : ∀ p i H', H p = none → i ≤ xs.length → P p i H' → SqL K H' a xs) (hw : ∀ x, wipe ((wipe σ vs).set j (some x)) vs = wipe σ vs)
    (hs : ∀ p (i : Nat) x H', H p = none → xs[i]? = some x → P p i H' → tt ((wipe σ vs).set j (some x)) H' fun b H3 => if b = true then te ((wipe σ vs).set j (some x)) H3 fun y H4 => ∃ acc, H4 p = some (.lst acc) ∧ acc.length < sizeLine ∧ P p (i + 1) (L2.upd H4 p (.lst (acc ++ [y]))) else P p (i + 1) H3)
    (hd : ∀ p H', H p = none → P p xs.length H' → Q (.ref p) H') : tLc (iList K ta) (gName j) tt te vs σ H Q := by
  refine hn _ ⟨a, rfl, ⟨xs, ha⟩, fun p hp => ?_⟩
  refine lc_list (xs := xs) (Qd := fun H' => Q (.ref p) H') (P p) (h0 p hp) (fun i H' hi q => hl p i H' hp hi q) (fun i x H' hi q => ?_) fun H' q => hd p H' hp q
  exact ⟨hw _, hs p i x H' hp hi q⟩
def bitsD (n : Int) : PyData → Bool
  | .list es => decide (n ≤ (es.length : Int)) && es.all isBlD
  | _ => false
def blsD (bs : List Bool) : PyData := .list (bs.map PyData.bool)
theorem bitsD_iff {n : Int} {e : PyData} : bitsD n e = true ↔ ∃ bs : List Bool, e = blsD bs ∧ n ≤ (bs.length : Int) := by
  constructor
  · intro h
    cases e with
    | list es =>
      have h : (decide (n ≤ (es.length : Int)) && es.all isBlD) = true := h
      rw [Bool.and_eq_true, decide_eq_true_iff] at h
      have : ∀ es : List PyData, es.all isBlD = true → ∃ bs : List Bool, es = bs.map PyData.bool := by
        intro es
        induction es with
        | nil => intro _; exact ⟨[], rfl⟩
        | cons e es ih =>
          intro h
          rw [List.all_cons, Bool.and_eq_true] at h
          obtain ⟨bs, rfl⟩ := ih h.2
          cases e with
          | bool b => exact ⟨b :: bs, rfl⟩
          | _ => cases h.1
      obtain ⟨bs, rfl⟩ := this es h.2
      exact ⟨bs, rfl, by have := h.1; rw [List.length_map] at this; exact this⟩
    | _ => cases h
  · rintro ⟨bs, rfl, h⟩
    show (decide (n ≤ ((bs.map PyData.bool).length : Int)) && (bs.map PyData.bool).all isBlD) = true
    rw [List.length_map, decide_eq_true h, Bool.true_and, List.all_eq_true]
    intro e he
    obtain ⟨b, _, rfl⟩ := List.mem_map.mp he
    rfl
theorem blsD_at {d : Addr} {H : Hp} {v : V} {bs : List Bool} (h : DAt d H v (blsD bs)) : ∃ a, v = .ref a ∧ H a = some (.lst (bls bs)) := by
  unfold blsD at h
  cases h with
  | lst hd h hs =>
    rename_i a xs
    refine ⟨a, rfl, ?_⟩
    have : ∀ {bs : List Bool} {xs : List V}, DAts d H xs (bs.map PyData.bool) → xs = bls bs := by
      intro bs
      induction bs with
      | nil => intro xs h; cases h; rfl
      | cons b bs ih =>
        intro xs h
        cases h with
        | cons h hs =>
          cases h
          rw [ih hs]
          rfl
    rw [h, this hs]
end Br

/-! ### words as data, and what they do -/
namespace Br
open PySem PySem.Spec PyProof.Rows L2
theorem cutV_to {xs : List V} {k : Nat} (h : k ≤ xs.length) : cutV xs none (some (k : Int)) = xs.take k := by
  unfold cutV
  rw [HT.sIx_none, HT.sIx_nat, Nat.min_eq_left h, List.drop_zero, Nat.sub_zero]
theorem cutV_from {xs : List V} {k : Nat} (h : k ≤ xs.length) : cutV xs (some (k : Int)) none = xs.drop k := by
  unfold cutV
  rw [HT.sIx_none, HT.sIx_nat, Nat.min_eq_left h]
  exact List.take_of_length_le (by rw [List.length_drop]; exact Nat.le_refl _)
/-! slices -/
section
variable {σ : L2.St} {H : Hp} {Q : VK} {R : Option Int → Hp → Prop}
theorem x_gTup3 {K : PySem.W.Frag} {σ : L2.St} {H : Hp} {p : Addr} {x y z : V} {i j k : Nat} {R : L2.St → Hp → Prop} (hp : SqT K H p [x, y, z]) (h : R (((σ.set i (some x)).set j (some y)).set k (some z)) H) : gTup K 3 (gCons (gName i) (gCons (gName j) (gCons (gName k) gNil))) (.ref p) σ H R :=
  ⟨p, [x, y, z], rfl, hp, rfl, x, [y, z], rfl, y, [z], rfl, z, [], rfl, rfl, h⟩
end
structure PmOk (p : List Nat) : Prop where
  len : p.length = 5
  lt : ∀ x, x ∈ p → x < 5
  nd : p.Nodup
abbrev Tr := Nat × List Nat × List Nat
def TrOk (t : Tr) : Prop := t.1 < 60 ∧ PmOk t.2.1 ∧ PmOk t.2.2
def pmD (p : List Nat) : PyData := .tuple (p.map fun (c : Nat) => PyData.int (c : Int))
def trD (t : Tr) : PyData := .tuple [.int (t.1 : Int), pmD t.2.1, pmD t.2.2]
def TrAt (H : Hp) (a : Addr) (t : Tr) : Prop := ∃ z o : Addr, H a = some (.tup [.int (t.1 : Int), .ref z, .ref o]) ∧ H z = some (.tup (cInts t.2.1)) ∧ H o = some (.tup (cInts t.2.2))
theorem TrAt.tups {H H' : Hp} {a : Addr} {t : Tr} (h : TrAt H a t) (k : ∀ b xs, H b = some (.tup xs) → H' b = some (.tup xs)) : TrAt H' a t := by
  obtain ⟨z, o, h1, h2, h3⟩ := h
  exact ⟨z, o, k _ _ h1, k _ _ h2, k _ _ h3⟩
theorem TrAt.dat {d a : Addr} {H : Hp} {t : Tr} (h : TrAt H a t) : DAt d H (.ref a) (trD t) := by
  obtain ⟨z, o, h1, h2, h3⟩ := h
  exact .tup h1 (.cons (.int _) (.cons (.tup h2 cInts_at) (.cons (.tup h3 cInts_at) .nil)))
/-- back from data -/
theorem cInts_of {d : Addr} {H : Hp} : ∀ {xs : List V} {cs : List Nat}, DAts d H xs (cs.map fun (c : Nat) => PyData.int (c : Int)) → xs = cInts cs
  | [], [], _ => rfl
  | v :: xs, c :: cs, h => by
    cases h with
    | cons h hs =>
      cases h
      rw [cInts_of hs]
      rfl
  | [], _ :: _, h => by cases h
  | _ :: _, [], h => by cases h
theorem pmD_at {d : Addr} {H : Hp} {v : V} {p : List Nat} (h : DAt d H v (pmD p)) : ∃ z, v = .ref z ∧ H z = some (.tup (cInts p)) := by
  unfold pmD at h
  cases h with
  | tup h hs =>
    rename_i a xs
    refine ⟨a, rfl, ?_⟩
    rw [h, cInts_of hs]
theorem trD_at {d : Addr} {H : Hp} {v : V} {t : Tr} (h : DAt d H v (trD t)) : ∃ a, v = .ref a ∧ TrAt H a t := by
  unfold trD at h
  cases h with
  | tup h hs =>
    rename_i a xs
    cases hs with
    | cons h1 hs =>
      cases h1
      cases hs with
      | cons h2 hs =>
        cases hs with
        | cons h3 hs =>
          cases hs
          obtain ⟨z, rfl, e2⟩ := pmD_at h2
          obtain ⟨o, rfl, e3⟩ := pmD_at h3
          exact ⟨a, rfl, z, o, h, e2, e3⟩
/-- the checks -/
def intD : PyData → Int
  | .int i => i
  | _ => 0
def permD : PyData → Bool
  | .tuple es => decide (es.length = 5) && (es.all (isBD 5) && decide (es.map intD).Nodup)
  | _ => false
def tripD : PyData → Bool
  | .tuple [k, z, o] => isBD 60 k && (permD z && permD o)
  | _ => false
def wordD : PyData → Bool
  | .list es => decide (es.length ≤ 20000) && es.all tripD
  | _ => false
theorem ints_nat : ∀ {es : List PyData} {b : Nat}, es.all (isBD (b : Int)) = true → ∃ cs : List Nat, es = cs.map (fun (c : Nat) => PyData.int (c : Int)) ∧ ∀ c, c ∈ cs → c < b
  | [], _, _ => ⟨[], rfl, fun c h => by simp at h⟩
  | e :: es, b, h => by
    rw [List.all_cons, Bool.and_eq_true] at h
    obtain ⟨i, rfl, i0, i1⟩ := isBD_iff.mp h.1
    obtain ⟨cs, rfl, hc⟩ := ints_nat h.2
    refine ⟨i.toNat :: cs, ?_, fun c hc' => ?_⟩
    · rw [List.map_cons]
      congr 2
      omega
    · rcases List.mem_cons.mp hc' with rfl | hc'
      · omega
      · exact hc c hc'
theorem map_intD {cs : List Nat} : (cs.map fun (c : Nat) => PyData.int (c : Int)).map intD = cs.map fun (c : Nat) => (c : Int) := by rw [List.map_map]; rfl
theorem nodup_cast {cs : List Nat} : (cs.map fun (c : Nat) => (c : Int)).Nodup ↔ cs.Nodup := by
  unfold List.Nodup
  rw [List.pairwise_map]
  exact ⟨fun h => h.imp fun hh e => hh (by rw [e]), fun h => h.imp fun hh e => hh (Int.ofNat.inj e)⟩
theorem permD_iff {e : PyData} : permD e = true ↔ ∃ p, e = pmD p ∧ PmOk p := by
  constructor
  · intro h
    cases e with
    | tuple es =>
      have h : (decide (es.length = 5) && (es.all (isBD 5) && decide (es.map intD).Nodup)) = true := h
      rw [Bool.and_eq_true, Bool.and_eq_true (es.all _), decide_eq_true_iff, decide_eq_true_iff] at h
      obtain ⟨h1, h2, h3⟩ := h
      obtain ⟨cs, rfl, hc⟩ := ints_nat (b := 5) h2
      rw [map_intD, nodup_cast] at h3
      exact ⟨cs, rfl, by rw [List.length_map] at h1; exact h1, hc, h3⟩
    | _ => cases h
  · rintro ⟨p, rfl, h⟩
    show (decide ((p.map _).length = 5) && ((p.map _).all (isBD 5) && decide ((p.map _).map intD).Nodup)) = true
    rw [map_intD, List.length_map, decide_eq_true h.len, decide_eq_true (nodup_cast.mpr h.nd), Bool.and_true, Bool.true_and, List.all_eq_true]
    intro x hx
    obtain ⟨c, hc, rfl⟩ := List.mem_map.mp hx
    exact isBD_iff.mpr ⟨_, rfl, by omega, by have := h.lt c hc; omega⟩
theorem tripD_iff {e : PyData} : tripD e = true ↔ ∃ t, e = trD t ∧ TrOk t := by
  constructor
  · intro h
    match e, h with
    | .tuple [k, z, o], h =>
      have h : (isBD 60 k && (permD z && permD o)) = true := h
      rw [Bool.and_eq_true, Bool.and_eq_true (permD z)] at h
      obtain ⟨i, rfl, i0, i1⟩ := isBD_iff.mp h.1
      obtain ⟨p, rfl, hp⟩ := permD_iff.mp h.2.1
      obtain ⟨p2, rfl, hp2⟩ := permD_iff.mp h.2.2
      refine ⟨(i.toNat, p, p2), ?_, by show i.toNat < 60; omega, hp, hp2⟩
      show PyData.tuple _ = .tuple [.int ((i.toNat : Nat) : Int), _, _]
      rw [show ((i.toNat : Nat) : Int) = i by omega]
  · rintro ⟨t, rfl, h1, h2, h3⟩
    show (isBD 60 (.int (t.1 : Int)) && (permD (pmD t.2.1) && permD (pmD t.2.2))) = true
    rw [isBD_iff.mpr ⟨_, rfl, by omega, by omega⟩, permD_iff.mpr ⟨_, rfl, h2⟩, permD_iff.mpr ⟨_, rfl, h3⟩]
    rfl
theorem trips_of : ∀ {es : List PyData}, es.all tripD = true → ∃ ws : List Tr, es = ws.map trD ∧ ∀ t, t ∈ ws → TrOk t
  | [], _ => ⟨[], rfl, fun t h => by simp at h⟩
  | e :: es, h => by
    rw [List.all_cons, Bool.and_eq_true] at h
    obtain ⟨t, rfl, ht⟩ := tripD_iff.mp h.1
    obtain ⟨ws, rfl, hw⟩ := trips_of h.2
    refine ⟨t :: ws, rfl, fun x hx => ?_⟩
    rcases List.mem_cons.mp hx with rfl | hx
    · exact ht
    · exact hw x hx
theorem wordD_iff {e : PyData} : wordD e = true ↔ ∃ ws : List Tr, e = .list (ws.map trD) ∧ ws.length ≤ 20000 ∧ ∀ t, t ∈ ws → TrOk t := by
  constructor
  · intro h
    cases e with
    | list es =>
      have h : (decide (es.length ≤ 20000) && es.all tripD) = true := h
      rw [Bool.and_eq_true, decide_eq_true_iff] at h
      obtain ⟨ws, rfl, hw⟩ := trips_of h.2
      exact ⟨ws, rfl, by have := h.1; rw [List.length_map] at this; exact this, hw⟩
    | _ => cases h
  · rintro ⟨ws, rfl, hl, hw⟩
    show (decide ((ws.map trD).length ≤ 20000) && (ws.map trD).all tripD) = true
    rw [List.length_map, decide_eq_true hl, Bool.true_and, List.all_eq_true]
    intro x hx
    obtain ⟨t, ht, rfl⟩ := List.mem_map.mp hx
    exact tripD_iff.mpr ⟨t, rfl, hw t ht⟩
/-- what a word does -/
def stepW (bs : List Bool) (p : Nat) (t : Tr) : Nat := (if bs.getD t.1 false then t.2.2 else t.2.1).getD p 0
def effF (ws : List Tr) (bs : List Bool) (p : Nat) : Nat := ws.foldl (stepW bs) p
theorem effF_snoc {ws : List Tr} {t : Tr} {bs : List Bool} {p : Nat} : effF (ws ++ [t]) bs p = stepW bs (effF ws bs p) t := by
  unfold effF
  rw [List.foldl_append]
  rfl
theorem pm_get {p : List Nat} (h : PmOk p) {i : Nat} (hi : i < 5) : p[i]? = some (p.getD i 0) ∧ p.getD i 0 < 5 := by
  have hl : i < p.length := by rw [h.len]; exact hi
  have e : p.getD i 0 = p[i] := by rw [List.getD_eq_getElem?_getD, List.getElem?_eq_getElem hl]; rfl
  rw [e]
  exact ⟨List.getElem?_eq_getElem hl, h.lt _ (List.getElem_mem hl)⟩
theorem effF_lt {bs : List Bool} : ∀ {ws : List Tr} {p : Nat}, (∀ t, t ∈ ws → TrOk t) → p < 5 → effF ws bs p < 5
  | [], _, _, hp => hp
  | t :: ws, p, h, hp => by
    have ht := h t List.mem_cons_self
    refine effF_lt (p := stepW bs p t) (fun x hx => h x (List.mem_cons_of_mem _ hx)) ?_
    unfold stepW
    split
    · exact (pm_get ht.2.2 hp).2
    · exact (pm_get ht.2.1 hp).2
/-- the bits that a word needs -/
def needW (ws : List Tr) : Nat := (ws.map fun t => t.1 + 1).foldr max 0
theorem needW_le {ws : List Tr} {t : Tr} (h : t ∈ ws) : t.1 + 1 ≤ needW ws := (foldr_max (cs := ws.map fun t => t.1 + 1) (t := 0)).2.1 _ (List.mem_map.mpr ⟨t, h, rfl⟩)
theorem needW_max {ws : List Tr} {m : Int} (h : (ws = [] ∧ m = 0) ∨ (m ∈ ws.map (fun t => ((t.1 : Int) + 1)) ∧ ∀ y, y ∈ ws.map (fun t => ((t.1 : Int) + 1)) → y ≤ m)) : m = (needW ws : Nat) := by
  rcases h with ⟨rfl, rfl⟩ | ⟨h1, h2⟩
  · rfl
  · obtain ⟨t, ht, rfl⟩ := List.mem_map.mp h1
    have k1 := needW_le ht
    have k2 : (needW ws : Int) ≤ (t.1 : Int) + 1 := by
      rcases (foldr_max (cs := ws.map fun t => t.1 + 1) (t := 0)).2.2 with e | e
      · have : needW ws = 0 := e
        omega
      · obtain ⟨u, hu, e⟩ := List.mem_map.mp e
        have := h2 _ (List.mem_map.mpr ⟨u, hu, rfl⟩)
        have e : u.1 + 1 = needW ws := e
        omega
    omega
theorem needW_60 {ws : List Tr} (h : ∀ t, t ∈ ws → TrOk t) : needW ws ≤ 60 := by
  rcases (foldr_max (cs := ws.map fun t => t.1 + 1) (t := 0)).2.2 with e | e
  · have : needW ws = 0 := e
    omega
  · obtain ⟨u, hu, e⟩ := List.mem_map.mp e
    have := (h u hu).1
    have e : u.1 + 1 = needW ws := e
    omega
end Br

/-! ### exceptions of the program: what a suite asks of the one it holds -/
namespace Br
open PySem PySem.Spec PyProof.Rows L2
theorem kit_ref {K : PySem.W.Frag} {D Y : Addr} {b : Bool} (hd : PySem.W.hasDictIn K Y = true) (ht : PySem.W.typeIn K (.ref Y) = some (.type "type")) (h : PySem.W.subIn K (.ref D) (.ref Y) = some b) (hs : PySem.W.subIn K (.ref Y) (.ref Y) = some true) : PySem.W.kitOne K (.ref D) (.ref Y) = some b := by
  unfold PySem.W.kitOne
  by_cases e : D = Y
  · subst e
    rw [h] at hs
    cases hs
    rw [if_pos (by simp)]
  · have hne : ((Value.ref D : Value) == Value.ref Y) = false := by
      rw [beq_eq_false_iff_ne]
      intro z
      cases z
      exact e rfl
    rw [hne, if_neg Bool.false_ne_true]
    obtain ⟨cd, hc, _⟩ := PySem.W.any_some hd
    have e2 : ((PySem.W.clsIn K Y).isSome && PySem.W.typeIn K (.ref Y) == some (.type "type")) = true := by rw [hc, ht]; rfl
    show (if ((PySem.W.clsIn K Y).isSome && PySem.W.typeIn K (.ref Y) == some (.type "type")) = true then PySem.W.subIn K (.ref D) (.ref Y) else none) = some b
    rw [if_pos e2]
    exact h
/-- isinstance(e, c), e what the suite holds, of whatever class -/
def rIsEQ (K : PySem.W.Frag) (a : Addr) (cls : Value) (d : Option Addr) : List V → Hp → VK → Prop := fun xs H Q => ∃ (D : Addr) (C : Addr) (b : Bool), cls = .ref D ∧ d = none ∧ ExcC K D ∧ xs = [.ref a, .ref C] ∧ PySem.W.kitOne K (.ref D) (.ref C) = some b ∧ Q (.bl b) H
theorem call_isEQ {X : Cx} {a : Addr} {oe : Obj} {cls : Value} {d : Option Addr} {pn : List (Addr × Obj)} {K : PySem.W.Frag} (hK : X.K = K) (hz : Zc cls d oe) (hf : ∃ vs, oe.data = .fields vs) : CallR (X.suite a ((a, oe) :: pn)) (.builtin "isinstance") (rIsEQ K a cls d) := by
  subst hK
  intro pins s σ H xs us Q I r h
  obtain ⟨D, C, b, rfl, rfl, hC, rfl, hk, q⟩ := h
  exact call_isE hC hz hf pins s σ H _ us Q I r ⟨.ref C, .ref C, b, rfl, fun u hu => hu, hk, q⟩
section
variable {σ : L2.St} {H : Hp} {D : Ends}
theorem x_callS {sp : Sp} {E : L2.St → XK} {t : TA} {Q : VK} (h : t σ H fun vs H1 => sp vs H1 Q (E σ)) : tCallS sp E t σ H Q := h
end
/-- a method's call within a try: what it raises is wished for at the slots as they stand -/
def tMethX (C : Addr) (m : Str) (sp : Sp) (E : L2.St → XK) (ta : TE) (t : TA) : TE := fun σ H Q => ta σ H fun x H1 => ∃ a dx fs, x = .ref a ∧ H1 a = some (.ins C dx fs) ∧ fs.lookup m = none ∧ t σ H1 fun vs H2 => sp (x :: vs) H2 Q (E σ)
theorem pe_methX {X : Cx} {CX : CXT} {k : Nat} {f C : Addr} {fd : FuncData} {ps : List Str} {sp : Sp} {E : L2.St → XK} {m : Str} {pos apos : Pos} {e o : Expr} {es : List Expr} {ta : TE} {t : TA} {pl : Sem Bool} (he : PE X o ta) (c : Cls X.K C) (hm : Meth X.K C m f)
    (F : FnOk X.prog X.w X.K X.mg X.base CX k f fd ps sp) (hr : Room k X.A) (hb : Binds X.K fd ps []) (hx : ∀ σ, PassesAt CX X σ (E σ)) (ha : PA X (e :: es) t)
    (hst : starEach (e :: es) X.env = (false, eval e X.env) :: starEach es X.env := by rfl) (hpl : (backTo pos (starEach es X.env)).any (·.1) = false := by rfl)
    (ht : eval (.Call (.Attribute o m apos) (e :: es) [] pos) X.env = (do
      let ov ← eval o X.env
      standAt apos.atName
      let (f, first) ← holding [ov] (getMethod ov m pl)
      callWith pos f first (backTo pos (starEach (e :: es) X.env)) (backToKw pos (keywordEach [] X.env))) := by rfl) :
    PE X (.Call (.Attribute o m apos) (e :: es) [] pos) (tMethX C m sp E ta t) := by
  refine ⟨fun pins s σ H Q I h => ?_⟩
  refine PySem.W.methodCall_KW (pl := pl) (thn (he.run pins s σ H _ I h) fun u s1 ⟨x, H1, I1, rx, a, dx, fs, ex, ea, l, q⟩ => ?_) ht
  subst ex
  obtain rfl : u = Value.ref a := rx
  refine getmeth_ok I1 ea c hm l ?_
  refine PySem.W.callWith_K (first := [.ref a]) (h₀ := X.base) I.ok.mod.kin hm.kp (thn (ha.run pos pins s1 σ H1 _ I1 q) fun us s2 ⟨vs, H2, I2, r, q2⟩ => ⟨I2.kIn, ?_⟩) hst hpl
  exact run_fnS (us := .ref a :: us) (vs := .ref a :: vs) F hr hb (hx σ) I2 (.cons rfl r) q2
theorem x_methX {C : Addr} {m : Str} {sp : Sp} {E : L2.St → XK} {ta : TE} {t : TA} {σ : L2.St} {H : Hp} {Q : VK} (h : ta σ H fun x H1 => ∃ a dx fs, x = .ref a ∧ H1 a = some (.ins C dx fs) ∧ fs.lookup m = none ∧ t σ H1 fun vs H2 => sp (x :: vs) H2 Q (E σ)) : tMethX C m sp E ta t σ H Q := h
/-! texts with numbers -/
theorem x_fmt {te : TE} {σ : L2.St} {H : Hp} {Q : VK} (h : te σ H fun x H1 => (∃ y : Str, x = .str y ∧ y.length ≤ sizeLine ∧ Q (.str y) H1) ∨ ∃ i : Int, x = .int i ∧ i.natAbs.log2 < 1920 ∧ Q (.str (toString i)) H1) : tFmt te σ H Q := h
theorem len_nat {n : Nat} (h : n < 10 ^ 10) : (Str.ofString (toString (n : Int))).length ≤ 10 := toString_length_le (Int.natCast_nonneg n) (by decide) (by exact_mod_cast h)
theorem log_nat {n : Nat} (h : n < 2 ^ 64) : ((n : Int)).natAbs.log2 < 1920 := by
  rw [Int.natAbs_natCast]
  by_cases h0 : n = 0
  · subst h0; decide
  · have := (Nat.log2_lt h0).mpr h
    omega
end Br
/-! isinstance(e, (C1, C2, ..)), e what the suite holds -/
namespace Br
open PySem PySem.Spec PyProof.Rows L2
def rIsEQT (K : PySem.W.Frag) (a : Addr) (cls : Value) (d : Option Addr) : List V → Hp → VK → Prop := fun xs H Q => ∃ (D tp : Addr) (cs : List V) (us : List Value) (b : Bool), cls = .ref D ∧ d = none ∧ ExcC K D ∧ xs = [.ref a, .ref tp] ∧ H tp = some (.tup cs) ∧ Paired ClsV cs us ∧ PySem.W.kitAny K (.ref D) us = some b ∧ Q (.bl b) H
theorem call_isEQT {X : Cx} {a : Addr} {oe : Obj} {cls : Value} {d : Option Addr} {pn : List (Addr × Obj)} {K : PySem.W.Frag} (hK : X.K = K) (hz : Zc cls d oe) (hf : ∃ vs, oe.data = .fields vs) : CallR (X.suite a ((a, oe) :: pn)) (.builtin "isinstance") (rIsEQT K a cls d) := by
  subst hK
  intro pins s σ H xs us Q I r h
  obtain ⟨D, tp, cs, ws, b, rfl, rfl, C, rfl, hT, k, e, q⟩ := h
  obtain ⟨u1, u2, rfl, rx, rt⟩ := vals2 r
  cases (show u2 = Value.ref tp from rt)
  cases (show u1 = Value.ref a from rx)
  obtain ⟨hget, _⟩ := I.pin (a, oe) (List.mem_append.mpr (.inl List.mem_cons_self))
  obtain ⟨vs, hv⟩ := hf
  have J : PySem.W.InstAt s.heap a oe D none := by
    obtain ⟨oc, od, oda, osl⟩ := oe
    obtain ⟨h1, h2⟩ := hz
    dsimp only at h1 h2 hv
    subst h1 h2 hv
    exact ⟨hget, rfl, rfl, trivial⟩
  obtain ⟨_, its, rv, o, h1, h2, n, h3⟩ := (show ObjOk _ _ H s.heap tp (.tup cs) from I.hok tp _ hT)
  have e3 := ClsV.all k rv
  subst e3
  obtain ⟨oc, od, dt, sl⟩ := o
  simp only at h2 h3
  subst h2 h3
  exact PySem.W.kia_tup (PySem.W.handS_kitx_exc C.hg C.hk C.hs C.hd C.ha C.hn C.ht C.hm) I.kIn J h1 e (fun z => nomatch z) fun tk => ⟨.bl b, H, I.kept (t' := tk) fun _ _ z => z, rfl, q⟩
end Br
namespace Br
open PySem PySem.Spec PyProof.Rows L2
/-! isinstance(e, ValueError), e what the suite holds -/
def rIsEV (K : PySem.W.Frag) (a : Addr) (cls : Value) (d : Option Addr) : List V → Hp → VK → Prop := fun xs H Q => ∃ (D : Addr) (T : String) (b : Bool), cls = .ref D ∧ d = none ∧ ExcC K D ∧ xs = [.ref a, .ty T] ∧ PySem.W.kitOne K (.ref D) (.type T) = some b ∧ Q (.bl b) H
theorem call_isEV {X : Cx} {a : Addr} {oe : Obj} {cls : Value} {d : Option Addr} {pn : List (Addr × Obj)} {K : PySem.W.Frag} (hK : X.K = K) (hz : Zc cls d oe) (hf : ∃ vs, oe.data = .fields vs) : CallR (X.suite a ((a, oe) :: pn)) (.builtin "isinstance") (rIsEV K a cls d) := by
  subst hK
  intro pins s σ H xs us Q I r h
  obtain ⟨D, T, b, rfl, rfl, hC, rfl, hk, q⟩ := h
  exact call_isE hC hz hf pins s σ H _ us Q I r ⟨.ty T, .type T, b, rfl, fun u hu => hu, hk, q⟩
theorem kit_val {K : PySem.W.Frag} {D : Addr} (h : PySem.W.subIn K (.ref D) (.type "ValueError") = some true) : PySem.W.kitOne K (.ref D) (.type "ValueError") = some true := by
  unfold PySem.W.kitOne
  rw [if_neg (by rw [show ((Value.ref D : Value) == Value.type "ValueError") = false from rfl]; decide)]
  show (if PySem.W.kitMeta "ValueError" = true then PySem.W.subIn K (.ref D) (.type "ValueError") else none) = some true
  rw [if_pos (by decide +kernel)]
  exact h
end Br

/-! ### data: changes elsewhere, changes of an item -/
namespace Br
open PySem PySem.Spec PyProof.Rows L2
section
variable {d c : Addr} {H H' : Hp}
mutual
theorem DAt.keep2 (hc : ∃ ys, H c = some (.lst ys)) (k : Keep c H H') : ∀ (e : PyData) {v : V}, DAt c H v e → DAt d H v e → DAt d H' v e
  | .none, _, _, h => by cases h; exact .non
  | .bool b, _, _, h => by cases h; exact .bl b
  | .int i, _, _, h => by cases h; exact .int i
  | .str x, _, _, h => by cases h; exact .str x
  | .list ds, _, h1, h => by
    cases h1 with
    | lst hn1 h1 hs1 =>
      cases h with
      | lst hn h hs =>
        rw [h] at h1
        cases h1
        exact .lst hn (k _ _ h hn1) (DAts.keep2 hc k ds hs1 hs)
  | .tuple ds, _, h1, h => by
    obtain ⟨ys, hc'⟩ := id hc
    cases h1 with
    | tup h1 hs1 =>
      cases h with
      | tup h hs =>
        rw [h] at h1
        cases h1
        exact .tup (k _ _ h (ne_of h hc' (by intro z; cases z))) (DAts.keep2 hc k ds hs1 hs)
  | .dict _, _, _, h => by cases h
theorem DAts.keep2 (hc : ∃ ys, H c = some (.lst ys)) (k : Keep c H H') : ∀ (es : List PyData) {vs : List V}, DAts c H vs es → DAts d H vs es → DAts d H' vs es
  | [], _, _, h => by cases h; exact .nil
  | e :: es, _, h1, h => by
    cases h1 with
    | cons h1 hs1 =>
      cases h with
      | cons h hs => exact .cons (DAt.keep2 hc k e h1 h) (DAts.keep2 hc k es hs1 hs)
end
theorem DAts.set : ∀ {xs : List V} {es : List PyData} {i : Nat} {v : V} {e : PyData}, DAts d H xs es → DAt d H v e → DAts d H (xs.set i v) (es.set i e)
  | [], _, _, _, _, h, _ => by cases h; exact .nil
  | x :: xs, _, i, v, e, h, h1 => by
    cases h with
    | cons h hs =>
      cases i with
      | zero => exact .cons h1 hs
      | succ i => exact .cons h (hs.set h1)
theorem DAts.take : ∀ {xs : List V} {es : List PyData} {n : Nat}, DAts d H xs es → DAts d H (xs.take n) (es.take n)
  | [], _, n, h => by cases h; cases n <;> exact .nil
  | x :: xs, _, 0, h => by cases h; exact .nil
  | x :: xs, _, n + 1, h => by
    cases h with
    | cons h hs => exact .cons h hs.take
theorem DAts.drop : ∀ {xs : List V} {es : List PyData} {n : Nat}, DAts d H xs es → DAts d H (xs.drop n) (es.drop n)
  | [], _, n, h => by cases h; cases n <;> exact .nil
  | x :: xs, _, 0, h => h
  | x :: xs, _, n + 1, h => by
    cases h with
    | cons h hs => exact hs.drop
/-- a value that needs no object -/
def FlatD (v : V) (e : PyData) : Prop := ∀ d H, DAt d H v e
/-- data apart from every list that stood before -/
def DNew (H0 H : Hp) (v : V) (e : PyData) : Prop := ∀ p, H0 p ≠ none → DAt p H v e
theorem FlatD.new {H0 H : Hp} {v : V} {e : PyData} (h : FlatD v e) : DNew H0 H v e := fun p _ => h p H
end
theorem x_andP {t u : TT} {σ : L2.St} {H : Hp} {QT : Bool → Hp → Prop} (b1 b2 : Bool) (h1 : ∀ R : Bool → Hp → Prop, R b1 H → t σ H R) (h2 : b1 = true → ∀ R : Bool → Hp → Prop, R b2 H → u σ H R) (h : QT (b1 && b2) H) : tAnd t u σ H QT := by
  refine h1 _ ?_
  cases b1 with
  | true => exact iteT (h2 rfl _ h)
  | false => exact iteF h
theorem x_orI {u : TT} {σ : L2.St} {H : Hp} {QT : Bool → Hp → Prop} {b1 : Bool} (b2 : Bool) (h2 : b1 = false → ∀ R : Bool → Hp → Prop, R b2 H → u σ H R) (h : QT (b1 || b2) H) : if b1 = true then QT true H else u σ H QT := by
  cases b1 with
  | true => exact iteT h
  | false => exact iteF (h2 rfl _ h)
theorem x_andI {u : TT} {σ : L2.St} {H : Hp} {QT : Bool → Hp → Prop} {b1 : Bool} (b2 : Bool) (h2 : b1 = true → ∀ R : Bool → Hp → Prop, R b2 H → u σ H R) (h : QT (b1 && b2) H) : if b1 = true then u σ H QT else QT false H := by
  cases b1 with
  | true => exact iteT (h2 rfl _ h)
  | false => exact iteF h
end Br

/-! ### what is a list of gates, read back -/
namespace Br
open PySem PySem.Spec PyProof.Rows L2
theorem risF_nat : ∀ {es : List PyData} {l : Int}, -1 ≤ l → risF l es = true → ∃ cs : List Nat, es = cs.map (fun (c : Nat) => PyData.int (c : Int)) ∧ cs.Pairwise (· < ·) ∧ ∀ c, c ∈ cs → c < 120 ∧ l < (c : Int)
  | [], _, _, _ => ⟨[], rfl, .nil, fun c h => by simp at h⟩
  | .int i :: es, l, hl, hr => by
    have hr : ((decide (0 ≤ i) && decide (i < 120)) && (decide (l < i) && risF i es)) = true := hr
    rw [Bool.and_eq_true, Bool.and_eq_true (decide (l < i)), Bool.and_eq_true, decide_eq_true_iff, decide_eq_true_iff, decide_eq_true_iff] at hr
    obtain ⟨⟨h0, h1⟩, h2, h3⟩ := hr
    obtain ⟨cs, rfl, hp, hc⟩ := risF_nat (by omega) h3
    obtain ⟨c, rfl⟩ : ∃ c : Nat, i = (c : Int) := ⟨i.toNat, by omega⟩
    refine ⟨c :: cs, rfl, List.pairwise_cons.mpr ⟨fun x hx => by have := (hc x hx).2; omega, hp⟩, fun x hx => ?_⟩
    rcases List.mem_cons.mp hx with rfl | hx
    · omega
    · have := hc x hx
      omega
  | .none :: _, _, _, hr => by cases hr
  | .bool _ :: _, _, _, hr => by cases hr
  | .str _ :: _, _, _, hr => by cases hr
  | .list _ :: _, _, _, hr => by cases hr
  | .tuple _ :: _, _, _, hr => by cases hr
  | .dict _ :: _, _, _, hr => by cases hr
theorem gateD_iff {e : PyData} : gateD e = true ↔ ∃ g, e = gtD g ∧ GtOk 120 g := by
  constructor
  · intro h
    match e, h with
    | .tuple [t, .tuple es], h =>
      have h : (isBD 120 t && (risF (-1) es && !hasD t es)) = true := h
      rw [Bool.and_eq_true, Bool.and_eq_true] at h
      obtain ⟨h1, h2, h3⟩ := h
      obtain ⟨i, rfl, i0, i1⟩ := isBD_iff.mp h1
      obtain ⟨cs, rfl, hp, hc⟩ := risF_nat (by decide) h2
      obtain ⟨t, rfl⟩ : ∃ c : Nat, i = (c : Int) := ⟨i.toNat, by omega⟩
      refine ⟨(t, cs), rfl, ⟨by show t < 120; omega, fun c hc2 => (hc c hc2).1, fun hm => ?_, hp⟩⟩
      have hf : hasD (.int (t : Int)) (cs.map fun (c : Nat) => PyData.int (c : Int)) = false := by simpa using h3
      unfold hasD at hf
      rw [List.any_eq_false] at hf
      exact hf (.int (t : Int)) (List.mem_map.mpr ⟨t, hm, rfl⟩) (by show decide ((t : Int) = (t : Int)) = true; exact decide_eq_true rfl)
  · rintro ⟨g, rfl, ok⟩
    exact gateD_ok ok
theorem gatesD_iff {e : PyData} : gatesD e = true ↔ ∃ gs : List Gt, e = .list (gs.map gtD) ∧ gs.length ≤ 60000 ∧ ∀ g, g ∈ gs → GtOk 120 g := by
  constructor
  · intro h
    cases e with
    | list es =>
      have h : (decide (es.length ≤ 60000) && es.all gateD) = true := h
      rw [Bool.and_eq_true, decide_eq_true_iff] at h
      have : ∀ es : List PyData, es.all gateD = true → ∃ gs : List Gt, es = gs.map gtD ∧ ∀ g, g ∈ gs → GtOk 120 g := by
        intro es
        induction es with
        | nil => intro _; exact ⟨[], rfl, fun g h => by simp at h⟩
        | cons e es ih =>
          intro h
          rw [List.all_cons, Bool.and_eq_true] at h
          obtain ⟨gs, rfl, hg⟩ := ih h.2
          obtain ⟨g, rfl, ok⟩ := gateD_iff.mp h.1
          refine ⟨g :: gs, rfl, fun x hx => ?_⟩
          rcases List.mem_cons.mp hx with rfl | hx
          · exact ok
          · exact hg x hx
      obtain ⟨gs, rfl, hg⟩ := this es h.2
      exact ⟨gs, rfl, by have := h.1; rw [List.length_map] at this; exact this, hg⟩
    | _ => cases h
  · rintro ⟨gs, rfl, hl, ok⟩
    show (decide ((gs.map gtD).length ≤ 60000) && (gs.map gtD).all gateD) = true
    rw [List.length_map, decide_eq_true hl, Bool.true_and, List.all_eq_true]
    intro e he
    obtain ⟨g, hg, rfl⟩ := List.mem_map.mp he
    exact gateD_ok (ok g hg)
/-- the bits that gates need -/
def needG (gs : List Gt) : Nat := (gs.map topG).foldr max 0
theorem needG_max {gs : List Gt} {m : Int} (h : (gs.map fun g => ((topG g : Nat) : Int)) = [] ∧ m = 0 ∨ m ∈ (gs.map fun g => ((topG g : Nat) : Int)) ∧ ∀ y, y ∈ (gs.map fun g => ((topG g : Nat) : Int)) → y ≤ m) : m = ((needG gs : Nat) : Int) := by
  obtain ⟨f1, f2, f3⟩ := foldr_max (cs := gs.map topG) (t := 0)
  rcases h with ⟨h, rfl⟩ | ⟨h, hle⟩
  · rw [List.map_eq_nil_iff.mp h]; rfl
  · obtain ⟨g, hg, rfl⟩ := List.mem_map.mp h
    have k1 := f2 _ (List.mem_map.mpr ⟨g, hg, rfl⟩)
    have k2 : ((needG gs : Nat) : Int) ≤ ((topG g : Nat) : Int) := by
      rcases f3 with f3 | f3
      · unfold needG; rw [f3]; omega
      · obtain ⟨g2, hg2, e2⟩ := List.mem_map.mp f3
        have := hle _ (List.mem_map.mpr ⟨g2, hg2, rfl⟩)
        unfold needG
        rw [← e2]
        exact this
    have k3 : topG g ≤ needG gs := k1
    omega
theorem needG_le {gs : List Gt} {n : Nat} (h : ∀ g, g ∈ gs → GtOk n g) : needG gs ≤ n := by
  rcases (foldr_max (cs := gs.map topG) (t := 0)).2.2 with e | e
  · unfold needG; rw [e]; exact Nat.zero_le _
  · obtain ⟨g, hg, e2⟩ := List.mem_map.mp e
    unfold needG
    rw [← e2]
    exact topG_le (h g hg)
theorem needG_ge {gs : List Gt} {g : Gt} (h : g ∈ gs) : topG g ≤ needG gs := (foldr_max (cs := gs.map topG) (t := 0)).2.1 _ (List.mem_map.mpr ⟨g, h, rfl⟩)
theorem GtOk.top {n m : Nat} {g : Gt} (ok : GtOk n g) (h : topG g ≤ m) : GtOk m g := by
  obtain ⟨f1, f2, _⟩ := foldr_max (cs := g.2) (t := g.1)
  have h : g.2.foldr max g.1 + 1 ≤ m := h
  exact ⟨by omega, fun c hc => by have := f2 c hc; omega, ok.ne, ok.up⟩
theorem gtD_inj : Function.Injective gtD := fun a b hab => by
  obtain ⟨t, cs⟩ := a
  obtain ⟨u, ds⟩ := b
  have h := PyData.tuple.inj hab
  obtain ⟨h1, h2⟩ := List.cons.inj h
  have h2 := PyData.tuple.inj (List.cons.inj h2).1
  have h1 : (t : Int) = (u : Int) := PyData.int.inj h1
  have h2 : cs = ds := (List.map_inj_right (fun _ _ z => Int.ofNat.inj (PyData.int.inj z))).mp h2
  rw [h2, Int.ofNat.inj h1]
theorem gts_inj {a b : List Gt} (h : a.map gtD = b.map gtD) : a = b := (List.map_inj_right gtD_inj).mp h
theorem gtD_at {d : Addr} {H : Hp} {v : V} {g : Gt} (h : DAt d H v (gtD g)) : ∃ a, v = .ref a ∧ GtAt H a g := by
  unfold gtD at h
  cases h with
  | tup h hs =>
    rename_i a xs
    cases hs with
    | cons h1 hs =>
      cases hs with
      | cons h2 hs =>
        cases hs
        cases h1
        cases h2 with
        | tup h2 hs2 =>
          rename_i c ys
          have : ∀ {cs : List Nat} {ys : List V}, DAts d H ys (cs.map fun (c : Nat) => PyData.int (c : Int)) → ys = cInts cs := by
            intro cs
            induction cs with
            | nil => intro ys h; cases h; rfl
            | cons c cs ih =>
              intro ys h
              cases h with
              | cons h hs => cases h; rw [ih hs]; rfl
          exact ⟨a, rfl, c, h, by rw [h2, this hs2]⟩
theorem DAts.gts {d : Addr} {H : Hp} {xs : List V} {gs : List Gt} (h : DAts d H xs (gs.map gtD)) : ∃ as : List Addr, xs = as.map V.ref ∧ GtsAt H as gs := by
  induction gs generalizing xs with
  | nil => cases h; exact ⟨[], rfl, rfl, fun i x b h _ => by simp at h⟩
  | cons g gs ih =>
    cases h with
    | cons h hs =>
      obtain ⟨a, rfl, ha⟩ := gtD_at h
      obtain ⟨as, rfl, hl, hat⟩ := ih hs
      refine ⟨a :: as, rfl, congrArg (· + 1) hl, fun i x b h1 h2 => ?_⟩
      cases i with
      | zero => cases h1; cases h2; exact ha
      | succ i => exact hat i x b (by simpa using h1) (by simpa using h2)
theorem GtsAt.dats {d : Addr} {H : Hp} {as : List Addr} {gs : List Gt} (h : GtsAt H as gs) : DAts d H (as.map V.ref) (gs.map gtD) := by
  refine DAts.of (by rw [List.length_map, List.length_map, h.1]) fun i x e h1 h2 => ?_
  obtain ⟨b, hb, rfl⟩ := map_getR h1
  obtain ⟨g, hg, hat⟩ := h.get hb
  rw [List.getElem?_map, hg] at h2
  cases h2
  exact hat.dat
/-- what is no list of rising bits -/
theorem risF_bad : ∀ {es : List PyData} {l : Int} {e : PyData}, e ∈ es → isBD 120 e = false → risF l es = false
  | [], _, _, h, _ => by simp at h
  | .int i :: es, l, e, h, hb => by
    show ((decide (0 ≤ i) && decide (i < 120)) && (decide (l < i) && risF i es)) = false
    rcases List.mem_cons.mp h with rfl | h
    · rw [show (decide (0 ≤ i) && decide (i < 120)) = false from hb]; rfl
    · rw [risF_bad h hb, Bool.and_false, Bool.and_false]
  | .none :: _, _, _, _, _ => rfl
  | .bool _ :: _, _, _, _, _ => rfl
  | .str _ :: _, _, _, _, _ => rfl
  | .list _ :: _, _, _, _, _ => rfl
  | .tuple _ :: _, _, _, _, _ => rfl
  | .dict _ :: _, _, _, _, _ => rfl
theorem risF_two : ∀ {xs ys : List PyData} {l a b : Int}, b ≤ a → risF l (xs ++ .int a :: .int b :: ys) = false
  | [], ys, l, a, b, h => by
    show ((decide (0 ≤ a) && decide (a < 120)) && (decide (l < a) && ((decide (0 ≤ b) && decide (b < 120)) && (decide (a < b) && risF b ys)))) = false
    rw [decide_eq_false (show ¬ a < b by omega), Bool.false_and, Bool.and_false, Bool.and_false, Bool.and_false]
  | .int i :: xs, ys, l, a, b, h => by
    show ((decide (0 ≤ i) && decide (i < 120)) && (decide (l < i) && risF i (xs ++ .int a :: .int b :: ys))) = false
    rw [risF_two h, Bool.and_false, Bool.and_false]
  | .none :: _, _, _, _, _, _ => rfl
  | .bool _ :: _, _, _, _, _, _ => rfl
  | .str _ :: _, _, _, _, _, _ => rfl
  | .list _ :: _, _, _, _, _, _ => rfl
  | .tuple _ :: _, _, _, _, _, _ => rfl
  | .dict _ :: _, _, _, _, _, _ => rfl
theorem gateD_ris {t : PyData} {es : List PyData} (h : risF (-1) es = false) : gateD (.tuple [t, .tuple es]) = false := by
  show (isBD 120 t && (risF (-1) es && _)) = false
  rw [h, Bool.false_and, Bool.and_false]
theorem gateD_tgt {t c : PyData} (h : isBD 120 t = false) : gateD (.tuple [t, c]) = false := by
  cases c with
  | tuple es =>
    show (isBD 120 t && _) = false
    rw [h, Bool.false_and]
  | _ => rfl
theorem gateD_has {t : Int} {es : List PyData} (h : PyData.int t ∈ es) : gateD (.tuple [.int t, .tuple es]) = false := by
  show (isBD 120 (.int t) && (risF (-1) es && !hasD (.int t) es)) = false
  have : hasD (.int t) es = true := by
    unfold hasD
    rw [List.any_eq_true]
    exact ⟨_, h, decide_eq_true rfl⟩
  rw [this, Bool.not_true, Bool.and_false, Bool.and_false]
theorem mem_setI {α : Type} {xs : List α} {i : Nat} {e : α} (h : i < xs.length) : e ∈ xs.set i e := List.mem_of_getElem? (List.getElem?_set_self h)
theorem gatesD_set {gs : List Gt} {i : Nat} {e : PyData} (hi : i < gs.length) (h : gateD e = false) : gatesD (.list ((gs.map gtD).set i e)) = false := by
  show (decide _ && ((gs.map gtD).set i e).all gateD) = false
  have : ((gs.map gtD).set i e).all gateD = false := List.all_eq_false.mpr ⟨e, mem_setI (by rw [List.length_map]; exact hi), by rw [h]; decide⟩
  rw [this, Bool.and_false]
theorem bitsD_set {bs : List Bool} {i : Nat} {e : PyData} {n : Int} (hi : i < bs.length) (h : isBlD e = false) : bitsD n (.list ((bs.map PyData.bool).set i e)) = false := by
  show (decide _ && ((bs.map PyData.bool).set i e).all isBlD) = false
  have : ((bs.map PyData.bool).set i e).all isBlD = false := List.all_eq_false.mpr ⟨e, mem_setI (by rw [List.length_map]; exact hi), by rw [h]; decide⟩
  rw [this, Bool.and_false]
theorem bitsD_short {bs : List Bool} {n : Int} (h : (bs.length : Int) < n) : bitsD n (blsD bs) = false := by
  show (decide (n ≤ ((bs.map PyData.bool).length : Int)) && _) = false
  rw [List.length_map, decide_eq_false (by omega), Bool.false_and]
end Br

/-! ### gates that are spread -/
namespace Br
open PySem PySem.Spec PyProof.Rows L2
theorem atI_back {α : Type} {xs : List α} {j : Nat} {v : α} (hj : j < xs.length) (h : xs[xs.length - 1 - j]? = some v) : atI xs (-1 - (j : Int)) = some v := by
  unfold atI ixN
  rw [if_neg (by omega), if_pos (by omega)]
  show xs[(-1 - (j : Int) + (xs.length : Int)).toNat]? = some v
  rw [show (-1 - (j : Int) + (xs.length : Int)).toNat = xs.length - 1 - j by omega]
  exact h
theorem atI_m1 {α : Type} {xs : List α} {v : α} (hj : 0 < xs.length) (h : xs[xs.length - 1]? = some v) : atI xs (-1) = some v := atI_back (j := 0) hj h
def two (t a b : Nat) : Gt := (t, if a < b then [a, b] else [b, a])
/-- what the borrowed bits must be -/
def borD (ns : List Int) (n : Int) : PyData → Bool
  | .list es => decide ((es.length : Int) = n) && (es.all (isBD 120) && decide ((ns ++ es.map intD).Nodup))
  | _ => false
def natsD (cs : List Nat) : List PyData := cs.map fun (c : Nat) => PyData.int (c : Int)
theorem natsD_of : ∀ {es : List PyData}, es.all (isBD 120) = true → ∃ bs : List Nat, es = natsD bs ∧ ∀ b, b ∈ bs → b < 120
  | [], _ => ⟨[], rfl, fun b h => by simp at h⟩
  | e :: es, h => by
    rw [List.all_cons, Bool.and_eq_true] at h
    obtain ⟨i, rfl, i0, i1⟩ := isBD_iff.mp h.1
    obtain ⟨bs, rfl, hb⟩ := natsD_of h.2
    obtain ⟨b, rfl⟩ : ∃ b : Nat, i = (b : Int) := ⟨i.toNat, by omega⟩
    refine ⟨b :: bs, rfl, fun x hx => ?_⟩
    rcases List.mem_cons.mp hx with rfl | hx
    · omega
    · exact hb x hx
theorem natsD_int {bs : List Nat} : (natsD bs).map intD = bs.map fun (c : Nat) => (c : Int) := by unfold natsD; rw [List.map_map]; rfl
theorem natsD_all {bs : List Nat} (h : ∀ b, b ∈ bs → b < 120) : (natsD bs).all (isBD 120) = true := by
  rw [List.all_eq_true]
  intro e he
  obtain ⟨b, hb, rfl⟩ := List.mem_map.mp he
  have := h b hb
  exact isBD_iff.mpr ⟨_, rfl, by omega, by omega⟩
theorem nodup_nat {ns : List Nat} : (ns.map fun (c : Nat) => (c : Int)).Nodup ↔ ns.Nodup := by
  constructor
  · intro h
    exact (List.pairwise_map.mp h).imp fun h e => h (by rw [e])
  · intro h
    exact List.pairwise_map.mpr (h.imp fun h e => h (by omega))
theorem borD_iff {t n : Nat} {cs : List Nat} {e : PyData} : borD ((t : Int) :: cs.map fun (c : Nat) => (c : Int)) (n : Int) e = true ↔ ∃ bs : List Nat, e = .list (natsD bs) ∧ bs.length = n ∧ (∀ b, b ∈ bs → b < 120) ∧ (t :: cs ++ bs).Nodup := by
  constructor
  · intro h
    cases e with
    | list es =>
      have h : (decide ((es.length : Int) = n) && (es.all (isBD 120) && decide ((((t : Int) :: cs.map fun (c : Nat) => (c : Int)) ++ es.map intD).Nodup))) = true := h
      rw [Bool.and_eq_true, Bool.and_eq_true, decide_eq_true_iff, decide_eq_true_iff] at h
      obtain ⟨h1, h2, h3⟩ := h
      obtain ⟨bs, rfl, hb⟩ := natsD_of h2
      rw [natsD_int] at h3
      refine ⟨bs, rfl, by unfold natsD at h1; rw [List.length_map] at h1; omega, hb, nodup_nat.mp ?_⟩
      rw [List.map_append]
      exact h3
    | _ => cases h
  · rintro ⟨bs, rfl, hl, hb, hn⟩
    show (decide (((natsD bs).length : Int) = n) && ((natsD bs).all (isBD 120) && decide ((((t : Int) :: cs.map fun (c : Nat) => (c : Int)) ++ (natsD bs).map intD).Nodup))) = true
    rw [natsD_all hb, natsD_int, Bool.true_and]
    have h1 : (natsD bs).length = n := by unfold natsD; rw [List.length_map]; exact hl
    have h2 := nodup_nat.mpr hn
    rw [List.map_append] at h2
    have h2 : (((t : Int) :: cs.map fun (c : Nat) => (c : Int)) ++ bs.map fun (c : Nat) => (c : Int)).Nodup := h2
    rw [decide_eq_true (by omega), decide_eq_true h2]
    rfl
def turnF (t : Nat) (bs : List Nat) : List Nat := t :: bs.reverse
def downF (t : Nat) (cs bs : List Nat) : List Gt := (List.range bs.length).map fun j => two ((turnF t bs).getD j 0) ((turnF t bs).getD (j + 1) 0) (cs.getD (cs.length - 1 - j) 0)
def lastF (t : Nat) (cs bs : List Nat) : Gt := ((turnF t bs).getD bs.length 0, cs.take 2)
def spreadF (t : Nat) (cs bs : List Nat) : List Gt := if bs = [] then [(t, cs)] else downF t cs bs ++ [lastF t cs bs] ++ (downF t cs bs).reverse ++ (downF t cs bs).drop 1 ++ [lastF t cs bs] ++ ((downF t cs bs).drop 1).reverse
theorem turn_len {t : Nat} {bs : List Nat} : (turnF t bs).length = bs.length + 1 := by unfold turnF; rw [List.length_cons, List.length_reverse]
theorem down_len {t : Nat} {cs bs : List Nat} : (downF t cs bs).length = bs.length := by unfold downF; rw [List.length_map, List.length_range]
theorem down_get {t k : Nat} {cs bs : List Nat} (h : k < bs.length) : (downF t cs bs)[k]? = some (two ((turnF t bs).getD k 0) ((turnF t bs).getD (k + 1) 0) (cs.getD (cs.length - 1 - k) 0)) := by
  unfold downF
  rw [List.getElem?_map, List.getElem?_range h]
  rfl
theorem cInts_at2 {cs : List Nat} {i : Nat} (h : i < cs.length) : (cInts cs)[i]? = some (.int ((cs.getD i 0 : Nat) : Int)) := by
  unfold cInts
  rw [List.getElem?_map, List.getElem?_eq_getElem h, List.getD_eq_getElem?_getD, List.getElem?_eq_getElem h]
  rfl
theorem cInts_rev {cs : List Nat} : (cInts cs).reverse = cInts cs.reverse := by unfold cInts; rw [List.map_reverse]
theorem cInts_app {cs ds : List Nat} : cInts cs ++ cInts ds = cInts (cs ++ ds) := by unfold cInts; rw [List.map_append]
theorem cInts_take {cs : List Nat} {n : Nat} : (cInts cs).take n = cInts (cs.take n) := by unfold cInts; rw [List.map_take]
theorem GtsAt.rev {H : Hp} {as : List Addr} {gs : List Gt} (h : GtsAt H as gs) : GtsAt H as.reverse gs.reverse := by
  refine ⟨by rw [List.length_reverse, List.length_reverse, h.1], fun i x b e1 e2 => ?_⟩
  have h1 := (List.getElem?_eq_some_iff.mp e1).1
  have h2 := (List.getElem?_eq_some_iff.mp e2).1
  rw [List.length_reverse] at h1 h2
  rw [List.getElem?_reverse h1] at e1
  rw [List.getElem?_reverse h2, h.1] at e2
  exact h.2 _ x b e1 e2
theorem GtsAt.app {H : Hp} {as bs : List Addr} {gs hs : List Gt} (h : GtsAt H as gs) (h2 : GtsAt H bs hs) : GtsAt H (as ++ bs) (gs ++ hs) := by
  refine ⟨by rw [List.length_append, List.length_append, h.1, h2.1], fun i x b e1 e2 => ?_⟩
  by_cases hi : i < gs.length
  · rw [List.getElem?_append_left hi] at e1
    rw [List.getElem?_append_left (by rw [h.1]; exact hi)] at e2
    exact h.2 i x b e1 e2
  · rw [List.getElem?_append_right (by omega)] at e1
    rw [List.getElem?_append_right (by rw [h.1]; omega), h.1] at e2
    exact h2.2 _ x b e1 e2
theorem GtsAt.drop {H : Hp} {as : List Addr} {gs : List Gt} (h : GtsAt H as gs) {n : Nat} : GtsAt H (as.drop n) (gs.drop n) :=
  ⟨by rw [List.length_drop, List.length_drop, h.1], fun i x b e1 e2 => h.2 (n + i) x b (by rw [← List.getElem?_drop]; exact e1) (by rw [← List.getElem?_drop]; exact e2)⟩
theorem GtsAt.one {H : Hp} {a : Addr} {g : Gt} (h : GtAt H a g) : GtsAt H [a] [g] := ⟨rfl, fun i x b e1 e2 => by
  cases i with
  | zero => cases e1; cases e2; exact h
  | succ i => simp at e1⟩
end Br

/-! ### len(set(xs)), any ints -/
namespace Br
open PySem PySem.Spec PyProof.Rows L2
theorem nodup_le : ∀ {ks ns : List Int}, ks.Nodup → (∀ k, k ∈ ks → k ∈ ns) → ks.length ≤ ns.length
  | [], _, _, _ => Nat.zero_le _
  | k :: ks, ns, hn, hs => by
    rw [List.nodup_cons] at hn
    have hk := hs k List.mem_cons_self
    have h := nodup_le (ns := ns.erase k) hn.2 fun x hx => by
      have hx2 := hs x (List.mem_cons_of_mem _ hx)
      exact (List.mem_erase_of_ne (fun e => hn.1 (by rw [← e]; exact hx))).mpr hx2
    rw [List.length_erase_of_mem hk] at h
    have := List.length_pos_of_mem hk
    rw [List.length_cons]
    omega
theorem dup_at : ∀ {ns : List Int}, ¬ ns.Nodup → ∃ x, x ∈ ns ∧ x ∈ ns.erase x
  | [], h => absurd List.nodup_nil h
  | x :: r, h => by
    by_cases hx : x ∈ r
    · exact ⟨x, List.mem_cons_self, by rw [List.erase_cons_head]; exact hx⟩
    · have hr : ¬ r.Nodup := fun hr => h (List.nodup_cons.mpr ⟨hx, hr⟩)
      obtain ⟨y, h1, h2⟩ := dup_at hr
      have hne : x ≠ y := fun e => hx (by rw [e]; exact h1)
      refine ⟨y, List.mem_cons_of_mem _ h1, ?_⟩
      rw [List.erase_cons_tail (by simpa using hne)]
      exact List.mem_cons_of_mem _ h2
theorem card_iff {ks ns : List Int} (hn : ks.Nodup) (h : ∀ k, k ∈ ks ↔ k ∈ ns) : (ks.length = ns.length ↔ ns.Nodup) ∧ ks.length ≤ ns.length := by
  have hle := nodup_le hn fun k hk => (h k).mp hk
  refine ⟨⟨fun e => ?_, fun hs => ?_⟩, hle⟩
  · by_cases hd : ns.Nodup
    · exact hd
    · exfalso
      obtain ⟨x, h1, h2⟩ := dup_at hd
      have := nodup_le (ns := ns.erase x) hn fun k hk => by
        by_cases e : k = x
        · rw [e]; exact h2
        · exact (List.mem_erase_of_ne e).mpr ((h k).mp hk)
      rw [List.length_erase_of_mem h1] at this
      have := List.length_pos_of_mem h1
      omega
  · have := nodup_le hs fun k hk => (h k).mpr hk
    omega
theorem step_nodup {ks : List Int} {k : Int} (h : ks.Nodup) : (step_dedup ks k).Nodup ∧ ∀ x, x ∈ step_dedup ks k ↔ x ∈ ks ∨ x = k := by
  unfold step_dedup
  split
  · rename_i hb
    obtain ⟨y, hy, e⟩ := List.any_eq_true.mp hb
    have : y = k := by simpa using e
    subst this
    refine ⟨h, fun x => ⟨.inl, fun z => z.elim id fun e => by rw [e]; exact hy⟩⟩
  · rename_i hb
    have hk : k ∉ ks := fun hk => hb (List.any_eq_true.mpr ⟨k, hk, by simp⟩)
    refine ⟨List.nodup_append.mpr ⟨h, by simp, fun a ha b hb e => hk (by rw [← List.mem_singleton.mp hb, ← e]; exact ha)⟩, fun x => by simp⟩
theorem firstMet_spec {ns : List Int} : ∀ i, i ≤ ns.length → (firstMet (fun i => ns.getD i 0) i).Nodup ∧ ∀ x, x ∈ firstMet (fun i => ns.getD i 0) i ↔ x ∈ ns.take i
  | 0, _ => ⟨List.nodup_nil, fun x => by show x ∈ [] ↔ x ∈ ns.take 0; simp⟩
  | i + 1, hi => by
    obtain ⟨h1, h2⟩ := firstMet_spec (ns := ns) i (Nat.le_of_lt hi)
    obtain ⟨k1, k2⟩ := step_nodup (k := ns.getD i 0) h1
    rw [firstMet_succ]
    refine ⟨k1, fun x => ?_⟩
    have e : ns.getD i 0 = ns[i] := by rw [List.getD_eq_getElem?_getD, List.getElem?_eq_getElem hi]; rfl
    have e2 : ns.take (i + 1) = ns.take i ++ [ns[i]] := by rw [List.take_add_one, List.getElem?_eq_getElem hi]; rfl
    rw [k2, h2, e, e2, List.mem_append, List.mem_singleton]
def tLenSet (K : PySem.W.Frag) (ta : TE) : TE := fun σ H Q => ta σ H fun x H1 => ∃ (l : Addr) (ns : List Int), x = V.ref l ∧ (SqL K H1 l (ns.map V.int) ∨ SqT K H1 l (ns.map V.int)) ∧ ns.length ≤ 4000 ∧ ∀ c : Nat, (c = ns.length ↔ ns.Nodup) → c ≤ ns.length → Q (.int (c : Nat)) H1
theorem pe_lenSetA {X : Cx} {a : Expr} {ta : TE} {p p2 q pos : Pos} (hg : Gl X "len") (hm : X.mg "len" = none) (hg2 : Gl X "set") (hm2 : X.mg "set" = none) (ha : PE X a ta) (hc : X.calm = true := by rfl)
    (na : starEach [a] X.env = (false, eval a X.env) :: starEach [] X.env := by rfl) : PE X (.Call (.Name "len" p) [.Call (.Name "set" p2) [a] [] q] [] pos) (tLenSet X.K ta) := by
  refine ⟨fun pins s σ H Q I h => ?_⟩
  refine Call_ (ld_blt I hg hm PySem.boot_len ?_)
  refine PyProof.Rows.callWith_builtin1 (PyProof.Rows.args_cons ?_ rfl) rfl rfl
  refine Call_ (ld_blt I hg2 hm2 PyProof.Rows.boot_set ?_)
  refine PyProof.Rows.callWith_type1 (PyProof.Rows.args_cons (thn (ha.run pins s σ H _ I h) fun v s1 ⟨x, H1, I1, r1, q1⟩ => PyProof.Rows.args_nil ?_) na) na rfl
  obtain ⟨l, ns, rfl, hq, hl, q1⟩ := q1
  cases r1
  rcases hq with hq | hq
  · obtain ⟨its, r, pl, hz⟩ := I1.list hq
    have hlen : its.toArray.size = ns.length := by rw [List.size_toArray, ← r.length, List.length_map]
    refine call_set_list (I1.ok.hd hc) pl.isList (ns := ns) (by simpa using r.ints) (by rw [hlen]; unfold scanBound; omega) fun h' tk hS hk => ?_
    rw [hlen] at hS
    obtain ⟨f1, f2⟩ := firstMet_spec (ns := ns) ns.length (Nat.le_refl _)
    rw [List.take_length] at f2
    obtain ⟨c1, c2⟩ := card_iff f1 f2
    refine PyProof.Rows.args_nil ?_
    obtain ⟨o, es, ep, t, ho, hex, hd, _, _, _, hf, hn⟩ := hS
    have I2 : Inv X pins σ H1 { s1 with heap := h', toks := tk } := I1.kept fun b o e => hk b o (Heap.lt_size e) e
    refine call_len_set ho hex hd hf (by rw [hn]; omega) ⟨.int ((es.size : Nat) : Int), H1, I2.tok _, ⟨_, rfl⟩, by rw [hn]; exact q1 _ c1 c2⟩
  · obtain ⟨its, r, pl, hz⟩ := I1.tuple hq
    refine call_set_tupI ns (I1.ok.hd hc) pl (by simpa using r.ints) (by unfold scanBound; omega) fun h' tk c hS _ hk => ?_
    refine PyProof.Rows.args_nil ?_
    obtain ⟨o, es, ep, t, ho, hex, hd, _, hnd, hS, _, hf, hn, _⟩ := hS
    obtain ⟨c1, c2⟩ := card_iff (ns := ns) hnd fun k => by rw [← hS k]; simp
    have hsz : (es.toList.map keyOf).length = c := by rw [List.length_map, Array.length_toList, hn]
    rw [hsz] at c1 c2
    have I2 : Inv X pins σ H1 { s1 with heap := h', toks := tk } := I1.kept hk
    refine call_len_set ho hex hd hf (by rw [hn]; omega) ⟨.int ((es.size : Nat) : Int), H1, I2.tok _, ⟨_, rfl⟩, by rw [hn]; exact q1 c c1 c2⟩
end Br

/-! ### what spread gates do -/
namespace Br
open PySem PySem.Spec PyProof.Rows L2
def ups : List Nat → List Nat → List Gt
  | T :: T' :: Ts, C :: Cs => two T T' C :: ups (T' :: Ts) Cs
  | _, _ => []
theorem ups_get : ∀ {Ts Cs : List Nat} {j : Nat}, j + 1 < Ts.length → j < Cs.length → (ups Ts Cs)[j]? = some (two (Ts.getD j 0) (Ts.getD (j + 1) 0) (Cs.getD j 0))
  | T :: T' :: Ts, C :: Cs, 0, _, _ => rfl
  | T :: T' :: Ts, C :: Cs, j + 1, h1, h2 => by
    show (ups (T' :: Ts) Cs)[j]? = _
    rw [ups_get (by simpa using h1) (by simpa using h2)]
    rfl
  | [], _, _, h, _ => by simp at h
  | [_], _, _, h, _ => by simp at h
  | _ :: _ :: _, [], _, _, h => by simp at h
theorem ups_len : ∀ {Ts Cs : List Nat}, Ts.length ≤ Cs.length + 1 → (ups Ts Cs).length = Ts.length - 1
  | [], _, _ => by simp [ups]
  | [_], _, _ => by simp [ups]
  | T :: T' :: Ts, C :: Cs, h => by
    show (ups (T' :: Ts) Cs).length + 1 = _
    rw [ups_len (by simpa using h)]
    simp
  | _ :: _ :: _, [], h => by simp at h
theorem down_ups {t : Nat} {cs bs : List Nat} (h : bs.length + 1 ≤ cs.length) : downF t cs bs = ups (turnF t bs) cs.reverse := by
  apply List.ext_getElem?
  intro j
  by_cases hj : j < bs.length
  · rw [down_get hj, ups_get (by rw [turn_len]; omega) (by rw [List.length_reverse]; omega)]
    congr 2
    rw [List.getD_eq_getElem?_getD, List.getD_eq_getElem?_getD, List.getElem?_reverse (by omega)]
  · rw [List.getElem?_eq_none (by rw [down_len]; omega), List.getElem?_eq_none (by rw [ups_len (by rw [turn_len, List.length_reverse]; omega), turn_len]; omega)]
theorem perfG_two {bs : List Bool} {t a b : Nat} : perfG bs (two t a b) = if bs.getD a false && bs.getD b false then bs.set t (!bs.getD t false) else bs := by
  unfold perfG two
  by_cases h : a < b
  · rw [if_pos h]
    simp only [List.all_cons, List.all_nil, Bool.and_true]
  · rw [if_neg h]
    simp only [List.all_cons, List.all_nil, Bool.and_true]
    rw [Bool.and_comm]
theorem getD_tog {bs : List Bool} {t x : Nat} {c : Bool} (ht : t < bs.length) : (if c then bs.set t (!bs.getD t false) else bs).getD x false = (bs.getD x false ^^ (decide (x = t) && c)) := by
  cases c with
  | false => rw [if_neg (by decide), Bool.and_false, Bool.xor_false]
  | true =>
    rw [if_pos rfl, Bool.and_true]
    by_cases e : x = t
    · subst e
      rw [decide_eq_true rfl, List.getD_eq_getElem?_getD (l := bs.set _ _), List.getElem?_set_self ht]
      simp
    · rw [decide_eq_false e, Bool.xor_false, getD_setB (fun h => e h.symm)]
/-- by what the bits are turned over -/
def markF (b : Nat → Bool) (q : Bool) : List Nat → List Nat → Nat → Bool
  | T :: Ts, Cs, x => if x = T then q && (Cs.take Ts.length).all b else markF b q Ts Cs.tail x
  | [], _, _ => false
theorem mark_none {b : Nat → Bool} {q : Bool} : ∀ {Ts Cs : List Nat} {x : Nat}, x ∉ Ts → markF b q Ts Cs x = false
  | [], _, _, _ => rfl
  | T :: Ts, Cs, x, h => by
    show (if x = T then _ else _) = false
    rw [if_neg (fun e => h (by rw [e]; exact List.mem_cons_self))]
    exact mark_none fun hx => h (List.mem_cons_of_mem _ hx)
theorem mark_congr {b c : Nat → Bool} {q : Bool} : ∀ {Ts Cs : List Nat} {x : Nat}, (∀ y, y ∈ Cs → b y = c y) → markF b q Ts Cs x = markF c q Ts Cs x
  | [], _, _, _ => rfl
  | T :: Ts, Cs, x, h => by
    show (if x = T then q && (Cs.take Ts.length).all b else _) = (if x = T then q && (Cs.take Ts.length).all c else _)
    have e : (Cs.take Ts.length).all b = (Cs.take Ts.length).all c := by
      rw [Bool.eq_iff_iff, List.all_eq_true, List.all_eq_true]
      exact ⟨fun z y hy => by rw [← h y (List.mem_of_mem_take hy)]; exact z y hy, fun z y hy => by rw [h y (List.mem_of_mem_take hy)]; exact z y hy⟩
    rw [e, mark_congr (Ts := Ts) fun y hy => h y (List.mem_of_mem_tail hy)]
theorem half_ok {c0 c1 : Nat} : ∀ {Ts Cs : List Nat} {bs : List Bool} {z : Nat}, Ts.getLast? = some z → Ts.Nodup → (∀ x, x ∈ Ts → x < bs.length) → Ts.length ≤ Cs.length + 1 → (∀ x, x ∈ Ts → x ∉ Cs ∧ x ≠ c0 ∧ x ≠ c1) →
    ∀ x, (perfF (ups Ts Cs ++ [(z, [c0, c1])] ++ (ups Ts Cs).reverse) bs).getD x false = (bs.getD x false ^^ markF (fun y => bs.getD y false) (bs.getD c0 false && bs.getD c1 false) Ts Cs x)
  | [], _, _, _, h, _, _, _, _ => by cases h
  | [T], Cs, bs, z, hz, _, hb, _, _ => by
    intro x
    have e : z = T := (Option.some.inj hz).symm
    subst e
    show (perfG bs (z, [c0, c1])).getD x false = _
    have e : perfG bs (z, [c0, c1]) = if bs.getD c0 false && bs.getD c1 false then bs.set z (!bs.getD z false) else bs := by
      unfold perfG
      simp only [List.all_cons, List.all_nil, Bool.and_true]
    rw [e, getD_tog (hb z List.mem_cons_self)]
    congr 1
    show _ = if x = z then (bs.getD c0 false && bs.getD c1 false) && true else false
    by_cases hx : x = z
    · rw [if_pos hx, decide_eq_true hx, Bool.true_and, Bool.and_true]
    · rw [if_neg hx, decide_eq_false hx, Bool.false_and]
  | T :: T' :: Ts, C :: Cs, bs, z, hz, hn, hb, hl, hd => by
    intro x
    rw [List.nodup_cons] at hn
    have hT := hb T List.mem_cons_self
    obtain ⟨hTC, hT0, hT1⟩ := hd T List.mem_cons_self
    obtain ⟨hT'C, hT'0, hT'1⟩ := hd T' (List.mem_cons_of_mem _ List.mem_cons_self)
    have hTT' : T ≠ T' := fun e => hn.1 (by rw [e]; exact List.mem_cons_self)
    have hTc : T ≠ C := fun e => hTC (by rw [e]; exact List.mem_cons_self)
    have hT'c : T' ≠ C := fun e => hT'C (by rw [e]; exact List.mem_cons_self)
    have e0 : perfF (ups (T :: T' :: Ts) (C :: Cs) ++ [(z, [c0, c1])] ++ (ups (T :: T' :: Ts) (C :: Cs)).reverse) bs = perfG (perfF (ups (T' :: Ts) Cs ++ [(z, [c0, c1])] ++ (ups (T' :: Ts) Cs).reverse) (perfG bs (two T T' C))) (two T T' C) := by
      show perfF (two T T' C :: ups (T' :: Ts) Cs ++ [(z, [c0, c1])] ++ (two T T' C :: ups (T' :: Ts) Cs).reverse) bs = _
      rw [List.reverse_cons, ← List.append_assoc, perfF_snoc]
      rfl
    rw [e0]
    -- behind the first gate
    have g1 : ∀ y, (perfG bs (two T T' C)).getD y false = (bs.getD y false ^^ (decide (y = T) && (bs.getD T' false && bs.getD C false))) := fun y => by rw [perfG_two, getD_tog hT]
    have l1 : (perfG bs (two T T' C)).length = bs.length := perfG_len
    generalize perfG bs (two T T' C) = b1 at g1 l1
    have g1n : ∀ y, y ≠ T → b1.getD y false = bs.getD y false := fun y hy => by rw [g1, decide_eq_false hy, Bool.false_and, Bool.xor_false]
    have g2 := half_ok (c0 := c0) (c1 := c1) (Ts := T' :: Ts) (Cs := Cs) (bs := b1) (z := z) hz hn.2 (fun y hy => by rw [l1]; exact hb y (List.mem_cons_of_mem _ hy)) (by simpa using hl) (fun y hy => ⟨fun h => (hd y (List.mem_cons_of_mem _ hy)).1 (List.mem_cons_of_mem _ h), (hd y (List.mem_cons_of_mem _ hy)).2⟩)
    have l2 : (perfF (ups (T' :: Ts) Cs ++ [(z, [c0, c1])] ++ (ups (T' :: Ts) Cs).reverse) b1).length = bs.length := by rw [perfF_len, l1]
    generalize perfF (ups (T' :: Ts) Cs ++ [(z, [c0, c1])] ++ (ups (T' :: Ts) Cs).reverse) b1 = b2 at g2 l2
    have em : ∀ y, markF (fun y => b1.getD y false) (b1.getD c0 false && b1.getD c1 false) (T' :: Ts) Cs y = markF (fun y => bs.getD y false) (bs.getD c0 false && bs.getD c1 false) (T' :: Ts) Cs y := fun y => by
      rw [g1n c0 (fun e => hT0 e.symm), g1n c1 (fun e => hT1 e.symm)]
      exact mark_congr fun w hw => g1n w fun e => hTC (by rw [← e]; exact List.mem_cons_of_mem _ hw)
    have g2 : ∀ y, b2.getD y false = (b1.getD y false ^^ markF (fun y => bs.getD y false) (bs.getD c0 false && bs.getD c1 false) (T' :: Ts) Cs y) := fun y => by rw [g2, em]
    have hqT' : markF (fun y => bs.getD y false) (bs.getD c0 false && bs.getD c1 false) (T' :: Ts) Cs T' = ((bs.getD c0 false && bs.getD c1 false) && (Cs.take Ts.length).all fun y => bs.getD y false) := if_pos rfl
    rw [perfG_two, getD_tog (by rw [l2]; exact hT), g2, g2 T', g2 C, g1n T' (fun e => hTT' e.symm), g1n C (fun e => hTc e.symm), hqT']
    have hCn : C ∉ T' :: Ts := fun h => (hd C (List.mem_cons_of_mem _ h)).1 List.mem_cons_self
    rw [mark_none (x := C) hCn, Bool.xor_false]
    show _ = (_ ^^ (if x = T then (bs.getD c0 false && bs.getD c1 false) && ((C :: Cs).take (Ts.length + 1)).all (fun y => bs.getD y false) else markF _ _ (T' :: Ts) Cs x))
    by_cases hx : x = T
    · subst hx
      rw [g1, decide_eq_true rfl, if_pos rfl, mark_none hn.1, List.take_succ_cons, List.all_cons]
      cases bs.getD x false <;> cases bs.getD T' false <;> cases bs.getD C false <;> cases bs.getD c0 false <;> cases bs.getD c1 false <;> cases ((Cs.take Ts.length).all fun y => bs.getD y false) <;> rfl
    · rw [g1n x hx, decide_eq_false hx, if_neg hx, Bool.false_and, Bool.xor_false]
  | _ :: _ :: _, [], _, _, _, _, _, hl, _ => by simp at hl
theorem bits_ext {a b : List Bool} (hl : a.length = b.length) (h : ∀ x, a.getD x false = b.getD x false) : a = b := by
  apply List.ext_getElem hl
  intro i h1 h2
  have := h i
  rw [List.getD_eq_getElem?_getD, List.getD_eq_getElem?_getD, List.getElem?_eq_getElem h1, List.getElem?_eq_getElem h2] at this
  exact this
theorem perfF_app {gs hs : List Gt} {bs : List Bool} : perfF (gs ++ hs) bs = perfF hs (perfF gs bs) := by
  unfold perfF
  rw [List.foldl_append]
theorem ups_drop : ∀ {Ts Cs : List Nat}, (ups Ts Cs).drop 1 = ups Ts.tail Cs.tail
  | [], Cs => by cases Cs <;> rfl
  | [_], Cs => by cases Cs <;> rfl
  | T :: T' :: Ts, C :: Cs => rfl
  | _ :: T' :: Ts, [] => by cases Ts <;> rfl
theorem turn_last {t : Nat} {bs : List Nat} : (turnF t bs).getLast? = some ((turnF t bs).getD bs.length 0) := by
  rw [List.getLast?_eq_getElem?, turn_len, List.getD_eq_getElem?_getD, Nat.add_sub_cancel, List.getElem?_eq_getElem (by rw [turn_len]; omega)]
  rfl
/-- together they do what the gate does -/
theorem spread_ok {t : Nat} {cs bs : List Nat} {bits : List Bool} (hl : bs.length = cs.length - 2) (hnd : (t :: cs ++ bs).Nodup) (hb : ∀ x, x ∈ t :: cs ++ bs → x < bits.length) : perfF (spreadF t cs bs) bits = perfG bits (t, cs) := by
  unfold spreadF
  by_cases h0 : bs = []
  · rw [if_pos h0]; rfl
  rw [if_neg h0]
  have hbl : 0 < bs.length := List.length_pos_iff.mpr h0
  obtain ⟨c0, c1, cr, rfl⟩ : ∃ c0 c1 cr, cs = c0 :: c1 :: cr := by
    match cs, hl with
    | [], hl => simp at hl; exact absurd hl h0
    | [_], hl => simp at hl; exact absurd hl h0
    | c0 :: c1 :: cr, _ => exact ⟨c0, c1, cr, rfl⟩
  have hcl : cr.length = bs.length := by simp at hl; omega
  have eD := down_ups (t := t) (cs := c0 :: c1 :: cr) (bs := bs) (by simp; omega)
  have eL : lastF t (c0 :: c1 :: cr) bs = ((turnF t bs).getD bs.length 0, [c0, c1]) := rfl
  rw [eD, eL, ups_drop]
  have hzl := turn_last (t := t) (bs := bs)
  generalize (turnF t bs).getD bs.length 0 = z at hzl
  obtain ⟨b0, br, hbr⟩ : ∃ b0 br, bs.reverse = b0 :: br := by
    cases h : bs.reverse with
    | nil => exact absurd (List.reverse_eq_nil_iff.mp h) h0
    | cons b0 br => exact ⟨b0, br, rfl⟩
  have eT : turnF t bs = t :: b0 :: br := by unfold turnF; rw [hbr]
  have hmem : ∀ x, x ∈ b0 :: br ↔ x ∈ bs := fun x => by rw [← hbr]; exact List.mem_reverse
  rw [List.nodup_append, List.nodup_cons] at hnd
  obtain ⟨⟨htc, hcn⟩, hbn, hdis⟩ := hnd
  have hTn : (t :: b0 :: br).Nodup := by
    rw [List.nodup_cons, ← hbr]
    exact ⟨fun h => hdis t List.mem_cons_self t (List.mem_reverse.mp h) rfl, List.pairwise_reverse.mpr (hbn.imp fun h => h.symm)⟩
  have hTb : ∀ x, x ∈ t :: b0 :: br → x < bits.length := fun x hx => by
    rcases List.mem_cons.mp hx with rfl | hx
    · exact hb x (by simp)
    · exact hb x (List.mem_append.mpr (.inr ((hmem x).mp hx)))
  have hTd : ∀ x, x ∈ t :: b0 :: br → x ∉ (c0 :: c1 :: cr).reverse ∧ x ≠ c0 ∧ x ≠ c1 := fun x hx => by
    have : x ∉ c0 :: c1 :: cr := by
      rcases List.mem_cons.mp hx with rfl | hx
      · exact htc
      · exact fun h => hdis x (List.mem_cons_of_mem _ h) x ((hmem x).mp hx) rfl
    exact ⟨fun h => this (List.mem_reverse.mp h), fun e => this (by rw [e]; exact List.mem_cons_self), fun e => this (by rw [e]; exact List.mem_cons_of_mem _ List.mem_cons_self)⟩
  have hrl : (c0 :: c1 :: cr).reverse.length = bs.length + 2 := by rw [List.length_reverse]; simp; omega
  have hbl2 : (b0 :: br).length = bs.length := by rw [← hbr, List.length_reverse]
  rw [eT] at hzl ⊢
  rw [List.append_assoc (ups (t :: b0 :: br) (c0 :: c1 :: cr).reverse ++ [(z, [c0, c1])] ++ (ups (t :: b0 :: br) (c0 :: c1 :: cr).reverse).reverse), List.append_assoc (ups (t :: b0 :: br) (c0 :: c1 :: cr).reverse ++ [(z, [c0, c1])] ++ (ups (t :: b0 :: br) (c0 :: c1 :: cr).reverse).reverse), perfF_app]
  have g1 := half_ok (c0 := c0) (c1 := c1) (Ts := t :: b0 :: br) (Cs := (c0 :: c1 :: cr).reverse) (bs := bits) (z := z) hzl hTn hTb (by rw [hrl, List.length_cons, hbl2]; omega) hTd
  have l1 : (perfF (ups (t :: b0 :: br) (c0 :: c1 :: cr).reverse ++ [(z, [c0, c1])] ++ (ups (t :: b0 :: br) (c0 :: c1 :: cr).reverse).reverse) bits).length = bits.length := perfF_len
  generalize perfF (ups (t :: b0 :: br) (c0 :: c1 :: cr).reverse ++ [(z, [c0, c1])] ++ (ups (t :: b0 :: br) (c0 :: c1 :: cr).reverse).reverse) bits = b1 at g1 l1
  show perfF (ups (b0 :: br) (c0 :: c1 :: cr).reverse.tail ++ [(z, [c0, c1])] ++ (ups (b0 :: br) (c0 :: c1 :: cr).reverse.tail).reverse) b1 = _
  have g2 := half_ok (c0 := c0) (c1 := c1) (Ts := b0 :: br) (Cs := (c0 :: c1 :: cr).reverse.tail) (bs := b1) (z := z) hzl (List.nodup_cons.mp hTn).2 (fun x hx => by rw [l1]; exact hTb x (List.mem_cons_of_mem _ hx)) (by rw [List.length_tail, hrl, hbl2]; omega) (fun x hx => ⟨fun h => (hTd x (List.mem_cons_of_mem _ hx)).1 (List.mem_of_mem_tail h), (hTd x (List.mem_cons_of_mem _ hx)).2⟩)
  have same : ∀ y, y ∉ t :: b0 :: br → b1.getD y false = bits.getD y false := fun y hy => by rw [g1, mark_none hy, Bool.xor_false]
  have hc0 : c0 ∉ t :: b0 :: br := fun h => (hTd c0 h).2.1 rfl
  have hc1 : c1 ∉ t :: b0 :: br := fun h => (hTd c1 h).2.2 rfl
  have em : ∀ y, markF (fun y => b1.getD y false) (b1.getD c0 false && b1.getD c1 false) (b0 :: br) (c0 :: c1 :: cr).reverse.tail y = markF (fun y => bits.getD y false) (bits.getD c0 false && bits.getD c1 false) (b0 :: br) (c0 :: c1 :: cr).reverse.tail y := fun y => by
    rw [same c0 hc0, same c1 hc1]
    exact mark_congr fun w hw => same w fun h => (hTd w h).1 (List.mem_of_mem_tail hw)
  apply bits_ext (by rw [perfF_len, l1, perfG_len])
  intro x
  rw [g2, em, g1]
  have eG : perfG bits (t, c0 :: c1 :: cr) = if (c0 :: c1 :: cr).all (fun c => bits.getD c false) then bits.set t (!bits.getD t false) else bits := rfl
  rw [eG, getD_tog (hTb t List.mem_cons_self)]
  show ((_ ^^ (if x = t then _ else markF _ _ (b0 :: br) (c0 :: c1 :: cr).reverse.tail x)) ^^ markF _ _ (b0 :: br) (c0 :: c1 :: cr).reverse.tail x) = _
  by_cases hx : x = t
  · subst hx
    rw [if_pos rfl, mark_none (List.nodup_cons.mp hTn).1, Bool.xor_false, decide_eq_true rfl, Bool.true_and]
    congr 1
    rw [hbl2]
    have e1 : (c0 :: c1 :: cr).reverse.take bs.length = cr.reverse := by
      rw [List.reverse_cons, List.reverse_cons, List.append_assoc, List.take_append_of_le_length (by rw [List.length_reverse]; omega)]
      exact List.take_of_length_le (by rw [List.length_reverse]; omega)
    rw [e1, List.all_reverse, List.all_cons, List.all_cons, Bool.and_assoc]
  · rw [if_neg hx, decide_eq_false hx, Bool.false_and, Bool.xor_false, Bool.xor_assoc, Bool.xor_self, Bool.xor_false]
end Br
namespace Br
open PySem PySem.Spec PyProof.Rows L2
theorem two_2 {t a b : Nat} (h : a ≠ b) : ∃ x y, (two t a b).2 = [x, y] ∧ x < y ∧ ((x = a ∧ y = b) ∨ (x = b ∧ y = a)) := by
  unfold two
  by_cases hh : a < b
  · rw [if_pos hh]; exact ⟨a, b, rfl, hh, .inl ⟨rfl, rfl⟩⟩
  · rw [if_neg hh]; exact ⟨b, a, rfl, by omega, .inr ⟨rfl, rfl⟩⟩
/-- a gate with two controls among so many bits -/
structure TwoOk (U : List Nat) (g : Gt) : Prop where
  ex : ∃ x y, g.2 = [x, y] ∧ x < y ∧ g.1 ≠ x ∧ g.1 ≠ y ∧ g.1 ∈ U ∧ x ∈ U ∧ y ∈ U
theorem TwoOk.gt {U : List Nat} {n : Nat} {g : Gt} (h : TwoOk U g) (hU : ∀ x, x ∈ U → x < n) : GtOk n g := by
  obtain ⟨x, y, e, h1, h2, h3, h4, h5, h6⟩ := h.ex
  refine ⟨hU _ h4, fun c hc => ?_, fun hm => ?_, ?_⟩
  · rw [e] at hc
    simp only [List.mem_cons, List.not_mem_nil, or_false] at hc
    rcases hc with rfl | rfl
    · exact hU _ h5
    · exact hU _ h6
  · rw [e] at hm
    simp only [List.mem_cons, List.not_mem_nil, or_false] at hm
    rcases hm with hm | hm
    · exact h2 hm
    · exact h3 hm
  · rw [e]
    simp [h1]
theorem getD_mem2 {xs : List Nat} {i : Nat} (h : i < xs.length) : xs.getD i 0 ∈ xs := by
  rw [List.getD_eq_getElem?_getD, List.getElem?_eq_getElem h]
  exact List.getElem_mem _
theorem getD_ne {xs : List Nat} {i j : Nat} (hn : xs.Nodup) (hi : i < xs.length) (hj : j < xs.length) (h : i ≠ j) : xs.getD i 0 ≠ xs.getD j 0 := by
  rw [List.getD_eq_getElem?_getD, List.getD_eq_getElem?_getD, List.getElem?_eq_getElem hi, List.getElem?_eq_getElem hj]
  intro e
  have e : xs[i] = xs[j] := e
  rcases Nat.lt_or_gt_of_ne h with hlt | hlt
  · exact List.pairwise_iff_getElem.mp hn i j hi hj hlt e
  · exact List.pairwise_iff_getElem.mp hn j i hj hi hlt e.symm
theorem spread_two {t : Nat} {cs bs : List Nat} (hl : bs.length = cs.length - 2) (h3 : 3 ≤ cs.length) (hup : cs.Pairwise (· < ·)) (hnd : (t :: cs ++ bs).Nodup) : (spreadF t cs bs).length = 4 * (cs.length - 2) ∧ ∀ g, g ∈ spreadF t cs bs → TwoOk (t :: cs ++ bs) g := by
  have h0 : bs ≠ [] := fun e => by rw [e] at hl; simp at hl; omega
  rw [List.nodup_append, List.nodup_cons] at hnd
  obtain ⟨⟨htc, hcn⟩, hbn, hdis⟩ := hnd
  have hTn : (turnF t bs).Nodup := by
    unfold turnF
    rw [List.nodup_cons]
    exact ⟨fun h => hdis t List.mem_cons_self t (List.mem_reverse.mp h) rfl, List.pairwise_reverse.mpr (hbn.imp fun h => h.symm)⟩
  have hTU : ∀ x, x ∈ turnF t bs → x ∈ t :: cs ++ bs ∧ x ∉ cs := fun x hx => by
    rcases List.mem_cons.mp hx with rfl | hx
    · exact ⟨by simp, htc⟩
    · have hx := List.mem_reverse.mp hx
      exact ⟨List.mem_append.mpr (.inr hx), fun h => hdis x (List.mem_cons_of_mem _ h) x hx rfl⟩
  have hD : ∀ g, g ∈ downF t cs bs → TwoOk (t :: cs ++ bs) g := fun g hg => by
    obtain ⟨j, hj, rfl⟩ := List.mem_map.mp hg
    have hj := List.mem_range.mp hj
    have a1 := getD_mem2 (xs := turnF t bs) (i := j) (by rw [turn_len]; omega)
    have a2 := getD_mem2 (xs := turnF t bs) (i := j + 1) (by rw [turn_len]; omega)
    have a3 := getD_mem2 (xs := cs) (i := cs.length - 1 - j) (by omega)
    have n1 := getD_ne (i := j) (j := j + 1) hTn (by rw [turn_len]; omega) (by rw [turn_len]; omega) (by omega)
    generalize (turnF t bs).getD j 0 = x at a1 n1
    generalize (turnF t bs).getD (j + 1) 0 = y at a2 n1
    generalize cs.getD (cs.length - 1 - j) 0 = c at a3
    obtain ⟨u1, u2⟩ := hTU x a1
    obtain ⟨v1, v2⟩ := hTU y a2
    have hxc : x ≠ c := fun e => u2 (by rw [e]; exact a3)
    have hyc : y ≠ c := fun e => v2 (by rw [e]; exact a3)
    have cU : c ∈ t :: cs ++ bs := by simp [a3]
    obtain ⟨p, q, e, hpq, h⟩ := two_2 (t := x) hyc
    refine ⟨p, q, e, hpq, ?_⟩
    rcases h with ⟨rfl, rfl⟩ | ⟨rfl, rfl⟩
    · exact ⟨n1, hxc, u1, v1, cU⟩
    · exact ⟨hxc, n1, u1, cU, v1⟩
  have hL : TwoOk (t :: cs ++ bs) (lastF t cs bs) := by
    have a1 := getD_mem2 (xs := turnF t bs) (i := bs.length) (by rw [turn_len]; omega)
    obtain ⟨u1, u2⟩ := hTU _ a1
    match cs, h3 with
    | c0 :: c1 :: cr, _ =>
      refine ⟨c0, c1, rfl, (List.pairwise_cons.mp hup).1 c1 List.mem_cons_self, fun e => u2 (by rw [← e]; exact List.mem_cons_self), fun e => u2 (by rw [← e]; exact List.mem_cons_of_mem _ List.mem_cons_self), u1, by simp, by simp⟩
  unfold spreadF
  rw [if_neg h0]
  constructor
  · simp only [List.length_append, List.length_reverse, List.length_drop, List.length_cons, List.length_nil, down_len]
    have := List.length_pos_iff.mpr h0
    omega
  · intro g hg
    simp only [List.mem_append, List.mem_reverse, List.mem_cons, List.not_mem_nil, or_false] at hg
    rcases hg with ((((h | h) | h) | h) | h) | h
    · exact hD g h
    · rw [h]; exact hL
    · exact hD g h
    · exact hD g (List.mem_of_mem_drop h)
    · rw [h]; exact hL
    · exact hD g (List.mem_of_mem_drop h)
end Br

/-! ### programs with the modulus 2 as gates -/
namespace Br
open PySem PySem.Spec PyProof.Rows L2 Br.F
def facB (i : Nat) : Fac → Nat
  | .cell k => i + k
  | .inp k => k
/-- the gates of a step; bits of cells behind those of inputs -/
def GtsOf (i : Nat) : Stp → List Gt → Prop
  | .add t c fs, gs => (c = 0 ∧ gs = []) ∨ (c ≠ 0 ∧ ∃ cs : List Nat, cs.Pairwise (· < ·) ∧ (∀ x, x ∈ cs ↔ x ∈ fs.map (facB i)) ∧ gs = [(i + t, cs)])
  | .scale _ _, gs => gs = []
  | .swap a b, gs => gs = [(i + a, [i + b]), (i + b, [i + a]), (i + a, [i + b])]
  | .tab _ _ _ _ _, _ => False
inductive GtsAll (i : Nat) : List Stp → List Gt → Prop
  | nil : GtsAll i [] []
  | snoc {ss : List Stp} {s : Stp} {gs hs : List Gt} : GtsAll i ss gs → GtsOf i s hs → GtsAll i (ss ++ [s]) (gs ++ hs)
theorem GtsOf.len {i : Nat} {s : Stp} {gs : List Gt} (h : GtsOf i s gs) : gs.length ≤ 3 := by
  cases s with
  | add t c fs =>
    rcases h with ⟨_, rfl⟩ | ⟨_, cs, _, _, rfl⟩
    · exact Nat.zero_le _
    · show 1 ≤ 3; decide
  | scale t u => obtain rfl := h; exact Nat.zero_le _
  | swap a b => obtain rfl := h; show 3 ≤ 3; decide
  | tab t g tb a b => exact h.elim
theorem GtsAll.len {i : Nat} {ss : List Stp} {gs : List Gt} (h : GtsAll i ss gs) : gs.length ≤ 3 * ss.length := by
  induction h with
  | nil => exact Nat.le_refl _
  | snoc h g ih =>
    have := g.len
    rw [List.length_append, List.length_append, List.length_singleton]
    omega
theorem facB_lt {c i t : Nat} {f : Fac} (h : FacOk c i t f) : facB i f < i + c ∧ facB i f ≠ i + t := by
  cases f with
  | cell k => exact ⟨by show i + k < _; have := h.1; omega, by show i + k ≠ _; have := h.2; omega⟩
  | inp k =>
    have h : k < i := h
    exact ⟨by show k < _; omega, by show k ≠ _; omega⟩
theorem GtsOf.oks {m c i : Nat} {s : Stp} {gs : List Gt} (ok : StpOk m c i s) (h : GtsOf i s gs) : ∀ g, g ∈ gs → GtOk (i + c) g := by
  have one : ∀ {a b : Nat}, a < c → b < c → a ≠ b → GtOk (i + c) (i + a, [i + b]) := fun {a b} ha hb hne =>
    ⟨by show i + a < _; omega, fun x hx => by rw [List.mem_singleton.mp hx]; omega, fun hx => by have := List.mem_singleton.mp hx; omega, List.pairwise_singleton _ _⟩
  cases s with
  | add t u fs =>
    obtain ⟨o1, _, _, _, o5⟩ := ok
    rcases h with ⟨_, rfl⟩ | ⟨_, cs, hup, hmem, rfl⟩
    · exact fun g hg => by simp at hg
    · intro g hg
      rw [List.mem_singleton.mp hg]
      refine ⟨by show i + t < _; omega, fun x hx => ?_, fun hx => ?_, hup⟩
      · obtain ⟨f, hf, rfl⟩ := List.mem_map.mp ((hmem x).mp hx)
        exact (facB_lt (o5 f hf)).1
      · obtain ⟨f, hf, e⟩ := List.mem_map.mp ((hmem _).mp hx)
        exact (facB_lt (o5 f hf)).2 e
  | scale t u => obtain rfl := h; exact fun g hg => by simp at hg
  | swap a b =>
    obtain rfl := h
    obtain ⟨ha, hb, hne⟩ := ok
    intro g hg
    have e : g = (i + a, [i + b]) ∨ g = (i + b, [i + a]) := by
      simp only [List.mem_cons, List.not_mem_nil, or_false] at hg
      rcases hg with h | h | h
      · exact .inl h
      · exact .inr h
      · exact .inl h
    rcases e with rfl | rfl
    · exact one ha hb hne
    · exact one hb ha hne.symm
  | tab t g tb a b => exact h.elim
theorem GtsAll.oks {m c i : Nat} {ss : List Stp} {gs : List Gt} (h : GtsAll i ss gs) : (∀ s, s ∈ ss → StpOk m c i s) → ∀ g, g ∈ gs → GtOk (i + c) g := by
  induction h with
  | nil => exact fun _ g hg => by simp at hg
  | snoc h g ih =>
    intro ok x hx
    rcases List.mem_append.mp hx with hx | hx
    · exact ih (fun s hs => ok s (List.mem_append_left _ hs)) x hx
    · exact g.oks (ok _ (List.mem_append_right _ List.mem_cons_self)) x hx
/-- numbers as bits -/
def bitF (zs : List Int) : List Bool := zs.map fun z => decide (z = 1)
theorem bitF_len {zs : List Int} : (bitF zs).length = zs.length := by unfold bitF; rw [List.length_map]
theorem bitF_get {zs : List Int} {x : Nat} : (bitF zs).getD x false = decide (zs.getD x 0 = 1) := by
  unfold bitF
  rw [List.getD_eq_getElem?_getD, List.getD_eq_getElem?_getD, List.getElem?_map]
  cases zs[x]? <;> rfl
theorem bitF_set {zs : List Int} {x : Nat} {z : Int} : bitF (zs.set x z) = (bitF zs).set x (decide (z = 1)) := by unfold bitF; rw [List.map_set]
theorem app_getL {iv mv : List Int} {k : Nat} (h : k < iv.length) : (iv ++ mv).getD k 0 = iv.getD k 0 := by
  rw [List.getD_eq_getElem?_getD, List.getD_eq_getElem?_getD, List.getElem?_append_left h]
theorem app_getR {iv mv : List Int} {k : Nat} : (iv ++ mv).getD (iv.length + k) 0 = mv.getD k 0 := by
  rw [List.getD_eq_getElem?_getD, List.getD_eq_getElem?_getD, List.getElem?_append_right (by omega), Nat.add_sub_cancel_left]
theorem app_setR {iv mv : List Int} {k : Nat} {z : Int} : iv ++ mv.set k z = (iv ++ mv).set (iv.length + k) z := by
  rw [List.set_append_right _ _ (by omega), Nat.add_sub_cancel_left]
theorem fac_all {c i t : Nat} {mv iv : List Int} {f : Fac} (hi : iv.length = i) (h : FacOk c i t f) : facV mv iv f = (iv ++ mv).getD (facB i f) 0 := by
  subst hi
  cases f with
  | cell k => exact app_getR.symm
  | inp k => exact (app_getL h).symm
theorem two_val {z : Int} (h0 : 0 ≤ z) (h1 : z < ((2 : Nat) : Int)) : z = 0 ∨ z = 1 := by omega
theorem prod_bits {mv iv : List Int} : ∀ {fs : List Fac}, (∀ f, f ∈ fs → facV mv iv f = 0 ∨ facV mv iv f = 1) → (prodV mv iv fs = 1 ∧ ∀ f, f ∈ fs → facV mv iv f = 1) ∨ (prodV mv iv fs = 0 ∧ ∃ f, f ∈ fs ∧ facV mv iv f = 0)
  | [], _ => .inl ⟨rfl, fun f h => by simp at h⟩
  | f :: fs, h => by
    have h0 := h f List.mem_cons_self
    have ih := prod_bits fun g hg => h g (List.mem_cons_of_mem _ hg)
    show (facV mv iv f * prodV mv iv fs = 1 ∧ _) ∨ (facV mv iv f * prodV mv iv fs = 0 ∧ _)
    rcases h0 with h0 | h0
    · exact .inr ⟨by rw [h0, Int.zero_mul], f, List.mem_cons_self, h0⟩
    · rcases ih with ⟨e, ha⟩ | ⟨e, g, hg, hz⟩
      · refine .inl ⟨by rw [h0, e]; rfl, fun g hg => ?_⟩
        rcases List.mem_cons.mp hg with rfl | hg
        · exact h0
        · exact ha g hg
      · exact .inr ⟨by rw [e, Int.mul_zero], g, List.mem_cons_of_mem _ hg, hz⟩
theorem perfG_get {bs : List Bool} {t c x : Nat} (ht : t < bs.length) : (perfG bs (t, [c])).getD x false = (bs.getD x false ^^ (decide (x = t) && bs.getD c false)) := by
  have e : perfG bs (t, [c]) = if bs.getD c false then bs.set t (!bs.getD t false) else bs := by
    unfold perfG
    simp only [List.all_cons, List.all_nil, Bool.and_true]
  rw [e]
  exact getD_tog ht
theorem GtsOf.run {c i : Nat} {s : Stp} {gs : List Gt} {mv iv : List Int} (ok : StpOk 2 c i s) (h : GtsOf i s gs) (mm : Mem 2 c mv) (mi : Mem 2 i iv) : perfF gs (bitF (iv ++ mv)) = bitF (iv ++ stepF 2 iv mv s) := by
  have hil := mi.len
  cases s with
  | add t u fs =>
    obtain ⟨o1, o2, o3, _, o5⟩ := ok
    obtain ⟨z, gz, ez, z0, z1⟩ := mm.get o1
    show _ = bitF (iv ++ mv.set t ((mv.getD t 0 + u * prodV mv iv fs) % ((2 : Nat) : Int)))
    rw [ez]
    rcases h with ⟨rfl, rfl⟩ | ⟨hu, cs, hup, hmem, rfl⟩
    · rw [Int.zero_mul, Int.add_zero, Int.emod_eq_of_lt z0 z1, ← ez, set_getD]
      rfl
    · obtain rfl : u = 1 := by omega
      rw [Int.one_mul]
      have fv : ∀ f, f ∈ fs → facV mv iv f = 0 ∨ facV mv iv f = 1 := fun f hf => by
        have hok := o5 f hf
        cases f with
        | cell k =>
          obtain ⟨y, _, ey, y0, y1⟩ := mm.get hok.1
          show mv.getD k 0 = 0 ∨ mv.getD k 0 = 1
          rw [ey]; exact two_val y0 y1
        | inp k =>
          obtain ⟨y, _, ey, y0, y1⟩ := mi.get (show k < i from hok)
          show iv.getD k 0 = 0 ∨ iv.getD k 0 = 1
          rw [ey]; exact two_val y0 y1
      have hbit : (bitF (iv ++ mv)).getD (i + t) false = decide (z = 1) := by
        rw [bitF_get, ← hil, app_getR, ez]
      show perfG (bitF (iv ++ mv)) (i + t, cs) = _
      unfold perfG
      rcases prod_bits fv with ⟨e, ha⟩ | ⟨e, f, hf, hz⟩
      · have hall : cs.all (fun c => (bitF (iv ++ mv)).getD c false) = true := by
          rw [List.all_eq_true]
          intro x hx
          obtain ⟨f, hf, rfl⟩ := List.mem_map.mp ((hmem x).mp hx)
          rw [bitF_get, ← fac_all hil (o5 f hf), ha f hf]
          rfl
        rw [if_pos hall, e, app_setR, bitF_set, hil]
        show (bitF (iv ++ mv)).set (i + t) (!(bitF (iv ++ mv)).getD (i + t) false) = _
        rw [hbit]
        rcases two_val z0 z1 with rfl | rfl <;> rfl
      · have hall : ¬ cs.all (fun c => (bitF (iv ++ mv)).getD c false) = true := by
          rw [List.all_eq_true]
          intro hx
          have h1 := hx (facB i f) ((hmem _).mpr (List.mem_map.mpr ⟨f, hf, rfl⟩))
          rw [bitF_get, ← fac_all hil (o5 f hf), hz] at h1
          cases h1
        rw [if_neg hall, e, Int.add_zero, Int.emod_eq_of_lt z0 z1, ← ez, set_getD]
  | scale t u =>
    obtain rfl := h
    obtain ⟨o1, o2, o3, o4⟩ := ok
    obtain ⟨z, gz, ez, z0, z1⟩ := mm.get o1
    have hu : u = 1 := by
      rcases two_val o2 o3 with rfl | h
      · exact absurd o4 (by decide)
      · exact h
    show bitF (iv ++ mv) = bitF (iv ++ mv.set t (mv.getD t 0 * u % ((2 : Nat) : Int)))
    rw [ez, hu, Int.mul_one, Int.emod_eq_of_lt z0 z1, ← ez, set_getD]
  | swap a b =>
    obtain rfl := h
    obtain ⟨ha, hb, hne⟩ := ok
    have hl : (bitF (iv ++ mv)).length = i + c := by rw [bitF_len, List.length_append, hil, mm.len]
    show perfG (perfG (perfG (bitF (iv ++ mv)) (i + a, [i + b])) (i + b, [i + a])) (i + a, [i + b]) = bitF (iv ++ (mv.set a (mv.getD b 0)).set b (mv.getD a 0))
    refine bits_ext ?_ fun x => ?_
    · rw [perfG_len, perfG_len, perfG_len, hl, bitF_len, List.length_append, List.length_set, List.length_set, hil, mm.len]
    · have l0 : i + a < (bitF (iv ++ mv)).length := by omega
      have l1 : i + b < (perfG (bitF (iv ++ mv)) (i + a, [i + b])).length := by rw [perfG_len]; omega
      have l2 : i + a < (perfG (perfG (bitF (iv ++ mv)) (i + a, [i + b])) (i + b, [i + a])).length := by rw [perfG_len, perfG_len]; omega
      rw [app_setR, app_setR, hil, bitF_set, bitF_set]
      have ea : (bitF (iv ++ mv)).getD (i + a) false = decide (mv.getD a 0 = 1) := by rw [bitF_get, ← hil, app_getR]
      have eb : (bitF (iv ++ mv)).getD (i + b) false = decide (mv.getD b 0 = 1) := by rw [bitF_get, ← hil, app_getR]
      rw [← ea, ← eb]
      generalize bitF (iv ++ mv) = B at *
      rw [perfG_get l2, perfG_get l1, perfG_get l1, perfG_get l0, perfG_get l0, perfG_get l0]
      have nab : i + b ≠ i + a := by omega
      by_cases hxb : x = i + b
      · subst hxb
        rw [List.getD_eq_getElem?_getD (l := (B.set _ _).set _ _), List.getElem?_set_self (by rw [List.length_set]; omega)]
        rw [decide_eq_false nab, decide_eq_true (rfl : i + b = i + b), decide_eq_true (rfl : i + a = i + a)]
        cases B.getD (i + a) false <;> cases B.getD (i + b) false <;> rfl
      · rw [getD_setB (fun e => hxb e.symm)]
        by_cases hxa : x = i + a
        · subst hxa
          rw [List.getD_eq_getElem?_getD (l := B.set _ _), List.getElem?_set_self l0]
          rw [show decide (i + a = i + b) = false from decide_eq_false hxb, decide_eq_true (rfl : i + a = i + a), decide_eq_true (rfl : i + b = i + b), decide_eq_false nab]
          cases B.getD (i + a) false <;> cases B.getD (i + b) false <;> rfl
        · rw [getD_setB (fun e => hxa e.symm), decide_eq_false hxa, decide_eq_false hxb]
          cases B.getD x false <;> rfl
  | tab t g tb a b => exact h.elim
theorem GtsAll.run {c i : Nat} {ss : List Stp} {gs : List Gt} {mv iv : List Int} (h : GtsAll i ss gs) : (∀ s, s ∈ ss → StpOk 2 c i s) → Mem 2 c mv → Mem 2 i iv → perfF gs (bitF (iv ++ mv)) = bitF (iv ++ runF 2 iv ss mv) := by
  induction h with
  | nil => exact fun _ _ _ => rfl
  | snoc h g ih =>
    intro ok mm mi
    have ok1 := fun s hs => ok s (List.mem_append_left _ hs)
    rw [perfF_app, ih ok1 mm mi, runF_snoc]
    exact g.run (ok _ (List.mem_append_right _ List.mem_cons_self)) (runF_mem (by decide) mm ok1) mi
theorem up_uniq : ∀ {xs ys : List Nat}, xs.Pairwise (· < ·) → ys.Pairwise (· < ·) → (∀ z, z ∈ xs ↔ z ∈ ys) → xs = ys
  | [], [], _, _, _ => rfl
  | [], y :: ys, _, _, h => by have := (h y).mpr List.mem_cons_self; simp at this
  | x :: xs, [], _, _, h => by have := (h x).mp List.mem_cons_self; simp at this
  | x :: xs, y :: ys, hx, hy, h => by
    rw [List.pairwise_cons] at hx hy
    have e : x = y := by
      rcases List.mem_cons.mp ((h x).mp List.mem_cons_self) with e | e
      · exact e
      · rcases List.mem_cons.mp ((h y).mpr List.mem_cons_self) with e2 | e2
        · exact e2.symm
        · have := hy.1 x e
          have := hx.1 y e2
          omega
    subst e
    refine congrArg (x :: ·) (up_uniq hx.2 hy.2 fun z => ⟨fun hz => ?_, fun hz => ?_⟩)
    · rcases List.mem_cons.mp ((h z).mp (List.mem_cons_of_mem _ hz)) with e | e
      · have := hx.1 z hz; omega
      · exact e
    · rcases List.mem_cons.mp ((h z).mpr (List.mem_cons_of_mem _ hz)) with e | e
      · have := hy.1 z hz; omega
      · exact e
theorem GtsOf.uniq {i : Nat} {s : Stp} {gs hs : List Gt} (h : GtsOf i s gs) (g : GtsOf i s hs) : gs = hs := by
  cases s with
  | add t c fs =>
    rcases h with ⟨h0, rfl⟩ | ⟨h0, cs, h1, h2, rfl⟩
    · rcases g with ⟨_, rfl⟩ | ⟨g0, _⟩
      · rfl
      · exact absurd h0 g0
    · rcases g with ⟨g0, _⟩ | ⟨_, ds, g1, g2, rfl⟩
      · exact absurd g0 h0
      · rw [up_uniq h1 g1 fun z => (h2 z).trans (g2 z).symm]
  | scale => exact h.trans g.symm
  | swap => exact h.trans g.symm
  | tab => exact h.elim
theorem GtsAll.uniq {i : Nat} {ss : List Stp} {gs : List Gt} (h : GtsAll i ss gs) : ∀ {hs : List Gt}, GtsAll i ss hs → gs = hs := by
  induction h with
  | nil =>
    intro hs g
    generalize e : ([] : List Stp) = ss at g
    cases g with
    | nil => rfl
    | snoc => simp at e
  | @snoc ss s gs hs h1 h2 ih =>
    intro ks g
    generalize e : ss ++ [s] = tt at g
    cases g with
    | nil => simp at e
    | snoc g1 g2 =>
      obtain ⟨rfl, e2⟩ := List.append_inj' e rfl
      cases e2
      rw [ih g1, h2.uniq g2]
end Br

/-! ### a def that takes the rest of its arguments; cases of other forms; data in a match -/
namespace Br
open PySem PySem.Spec PyProof.Rows L2
def StarB (fd : FuncData) (ps : List Str) (pv : Str) : Prop := ∀ us rest : List Value, us.length = ps.length → bindArgs fd ⟨us ++ rest, []⟩ = (newTuple rest >>= fun t => pure (ps.zip us ++ [(pv, t)]))
def spStar (n : Nat) (sp : Sp) : Sp := fun vs H Q E => ∃ ws rest, vs = ws ++ rest ∧ ws.length = n ∧ rest.length ≤ sizeLine ∧ ∀ p, H p = Option.none → sp (ws ++ [V.ref p]) (L2.upd H p (.tup rest)) Q E
section
variable {P : Program} {w : World} {K : PySem.W.Frag} {mg : Str → Option Value} {base : Heap}
theorem star_ok {x qual : Str} {st : Stmt} {f : Addr} {fd : FuncData} {N ps : List Str} {pv : Str} {k : Nat} {sp : Sp} (F : Fun K x qual st f fd) (B : StarB fd ps pv) (S : FnScope N (ps ++ [pv]) (defScope st))
    (hbody : ∀ (cdv : Value) (A : Around) (outer : List Env) (s : Shared) (H : Hp) (vs : List V) (Q : VK) (E : XK), Room k (A.deeper (envOfC qual (defScope st) s.heap.objs.size f cdv)) → sp vs H Q E →
      ∃ t, PSs (cxOf CX0 P w K mg base N qual (defScope st) f cdv A outer s H E).nox (defBody st) t ∧ t { nx := fun _ H' => Q .non H', rt := Q } (start N vs) H) : FnR P w K mg base CX0 (k + 1) f (spStar ps.length sp) := by
  obtain ⟨oc, od, kV, doc, pm, an, cdv, ct, osl, rfl, lk, hcd⟩ := F.ex
  refine StX.fn_star lk hcd S StX.cxUp_none B fun A outer s H vs Q E hr hsp => ?_
  obtain ⟨t, h, q⟩ := hbody cdv A outer s H vs Q E hr hsp
  exact ⟨t, h.nox, q⟩
end
def tCallR (sp : Sp) (E : XK) (t : TA) : TE := fun σ H Q => t σ H fun vs H1 => sp vs H1 Q E
theorem x_callR {sp : Sp} {E : XK} {t : TA} {σ : L2.St} {H : Hp} {Q : VK} (h : t σ H fun vs H1 => sp vs H1 Q E) : tCallR sp E t σ H Q := h
section
variable {X : Cx}
theorem pe_callR {CX : CXT} {k : Nat} {f : Addr} {sp : Sp} {E : XK} {x : Str} {e : Expr} {es : List Expr} {t : TA} {p pos : Pos} (F : FnR X.prog X.w X.K X.mg X.base CX k f sp) (hr : Room k X.A) (hk : PySem.W.keepIn X.K (.ref f) = true) (hg : Gl X x) (hm : X.mg x = some (.ref f)) (hx : Passes CX X E)
    (ha : PA X (e :: es) t) (hdb : (x == ("__debug__" : Str)) = false := by decide) (he : starEach (e :: es) X.env = (false, eval e X.env) :: starEach es X.env := by rfl) (hpl : (backTo pos (starEach es X.env)).any (·.1) = false := by rfl) :
    PE X (.Call (.Name x p) (e :: es) [] pos) (tCallR sp E t) := by
  refine ⟨fun pins s σ H Q I h => ?_⟩
  refine wpAny_Call_Name_kw (ld_glob I hg hm ?_ hdb)
  refine PySem.W.callWith_K (h₀ := X.base) I.ok.mod.kin hk (thn (ha.run pos pins s σ H _ I h) fun us s1 ⟨vs, H1, I1, r, q⟩ => ⟨I1.kIn, ?_⟩) he hpl
  exact wpAny_call (run_fnR F hr hx I1 r q)
/-- a tuple of n parts, whatever they are -/
def tSeqA (K : PySem.W.Frag) (n : Nat) (is : List (Option Nat)) (body : TS) (rest : V → TS) : V → TS := fun v D σ H => ∃ (a : Addr) (xs : List V), v = .ref a ∧ SqT K H a xs ∧
  ((xs.length ≠ n ∧ rest v D σ H) ∨ (xs.length = n ∧ body D (bindS is xs σ) H))
theorem pcs_tup {n : Nat} {p3 : Pos} {ps : List Pattern} {is : List (Option Nat)} {body : List Stmt} {rest : List MatchCase} {tb : TS} {tr : V → TS} (hc : X.calm = true) (hp : PCap X ps is) (hb : PSs X body tb) (hr : PCs X rest tr) (hn : ps.length = n := by rfl)
    (hs : ps.findIdx? (·.isStar) = none := by rfl) (hw : (ps.all fun p => p.isWildcard || (p.isStar && p.names.isEmpty)) = false := by rfl) :
    PCs X (⟨.MatchSequence ps p3, none, body⟩ :: rest) (tSeqA X.K n is tb tr) := by
  refine ⟨fun first pins s σ H D v u I rv h => ?_⟩
  obtain ⟨a, xs, rfl, hx, h⟩ := h
  cases (show u = Value.ref a from rv)
  obtain ⟨its, ri, ht, hz⟩ := I.tuple hx
  have hl := ri.length
  have hfit : ((its.toArray.size : Nat) : Int) < 2 ^ 63 := by
    have h1 : its.length ≤ sizeLine := by rw [← hl]; exact hz
    have h2 : sizeLine < 2 ^ 63 := by decide
    have h3 : its.toArray.size < 2 ^ 63 := Nat.lt_of_le_of_lt (by simpa using h1) h2
    omega
  rcases h with ⟨hne, q⟩ | ⟨hxl, q⟩
  · refine wpAny_matchCases_cons (matchSeq_tuple_miss ht hfit (by simp; omega) ?_ hs hw)
    exact hr.run false pins _ σ H D (.ref a) _ (I.tok _) rfl q
  · have sz : its.toArray.size = ps.length := by simp at hxl ⊢; omega
    refine wpAny_matchCases_cons (matchSeq_tuple_hit ht hfit (by simpa using sz) ?_ hs hw)
    rw [show ps.length = its.toArray.size from sz.symm]
    refine unpackItems_tuple (I.ok.hd hc) ht fun h' hk => ?_
    have I2 : Inv X pins σ H { s with heap := h', toks := s.toks + 1 + 1 } := I.kept fun b o e => hk b o (Nat.ne_of_lt (Heap.lt_size e)) e
    refine each_caps hp.caps (by simpa using sz) ?_
    refine thn (hp.run pins _ σ H xs its I2 ri (by simpa using sz)) fun _ s4 I4 => ?_
    exact hb.run pins s4 _ H D I4 q
/-- any value, by a name -/
def tNameC (i : Nat) (body : TS) : V → TS := fun v D σ H => body D (σ.set i (some v)) H
theorem pcs_name {i : Nat} {x : Str} {pos : Pos} {body : List Stmt} {rest : List MatchCase} {t : TS} (hN : X.N.Nodup) (hi : X.N[i]? = some x) (hx : Loc X.env.scope x) (hb : PSs X body t) (hf : X.fn x = true ∨ X.env.scope.names.lookup x = some .local := by first | exact .inl rfl | exact .inr rfl) :
    PCs X (⟨.MatchAs none (some x) pos, none, body⟩ :: rest) (tNameC i t) :=
  ⟨fun _ pins s σ H D v u I r h => wpAny_matchCases_cons (wpAny_matchPattern_Capture (wpAny_assignInOrder_more (wpAny_bindName (store_ok I hN hi hx r (fun s' I' => wpAny_assignInOrder_none (hb.run pins s' _ H D I' h)) hf))))⟩
end
section
variable {σ : L2.St} {H : Hp} {D : Ends} {K : PySem.W.Frag} {v : V} {t : V → TS}
theorem x_caseA {n : Nat} {is : List (Option Nat)} {body : TS} {a : Addr} {xs : List V} (ha : SqT K H a xs) (hl : xs.length = n) (h : body D (bindS is xs σ) H) : tSeqA K n is body t (.ref a) D σ H := ⟨a, xs, rfl, ha, .inr ⟨hl, h⟩⟩
theorem x_caseAN {n : Nat} {is : List (Option Nat)} {body : TS} {a : Addr} {xs : List V} (ha : SqT K H a xs) (hl : xs.length ≠ n) (h : t (.ref a) D σ H) : tSeqA K n is body t (.ref a) D σ H := ⟨a, xs, rfl, ha, .inl ⟨hl, h⟩⟩
theorem x_nameC {i : Nat} {body : TS} (h : body D (σ.set i (some v)) H) : tNameC i body v D σ H := h
end
/-! data that may be compared -/
def Sh (e : PyData) : Prop := e.canLay0 = true ∧ e.depth ≤ 60
theorem Sh.shaped {e : PyData} (h : Sh e) : SeqAt.shaped e = true := by
  unfold SeqAt.shaped
  rw [h.1, Bool.true_and]
  exact decide_eq_true (by have := h.2; omega)
theorem canLayAll_mem : ∀ {es : List PyData}, PyData.canLayAll0 es = true ↔ ∀ e, e ∈ es → e.canLay0 = true
  | [] => ⟨fun _ e h => by simp at h, fun _ => rfl⟩
  | x :: es => by
    show (PyData.canLay0 x && PyData.canLayAll0 es) = true ↔ _
    rw [Bool.and_eq_true, canLayAll_mem (es := es)]
    exact ⟨fun h e he => (List.mem_cons.mp he).elim (fun e1 => by rw [e1]; exact h.1) (h.2 e), fun h => ⟨h x List.mem_cons_self, fun e he => h e (List.mem_cons_of_mem _ he)⟩⟩
theorem depthAll_mem : ∀ {es : List PyData} {n : Nat}, PyData.depthAll es ≤ n ↔ ∀ e, e ∈ es → e.depth ≤ n
  | [], n => ⟨fun _ e h => by simp at h, fun _ => by show PyData.depthAll [] ≤ n; rw [PyData.depthAll]; exact Nat.zero_le _⟩
  | x :: es, n => by
    have e : PyData.depthAll (x :: es) = max x.depth (PyData.depthAll es) := by rw [PyData.depthAll]
    rw [e, Nat.max_le, depthAll_mem (es := es)]
    exact ⟨fun h y hy => (List.mem_cons.mp hy).elim (fun e1 => by rw [e1]; exact h.1) (h.2 y), fun h => ⟨h x List.mem_cons_self, fun y hy => h y (List.mem_cons_of_mem _ hy)⟩⟩
/-- so deep at most -/
def ShN (n : Nat) (e : PyData) : Prop := e.canLay0 = true ∧ e.depth ≤ n
theorem ShN.sh {n : Nat} {e : PyData} (h : ShN n e) (hn : n ≤ 60) : Sh e := ⟨h.1, Nat.le_trans h.2 hn⟩
theorem ShN.mono {n m : Nat} {e : PyData} (h : ShN n e) (hn : n ≤ m) : ShN m e := ⟨h.1, Nat.le_trans h.2 hn⟩
theorem ShN.tup {n : Nat} {es : List PyData} (h : ∀ e, e ∈ es → ShN n e) : ShN (n + 1) (.tuple es) := by
  constructor
  · show PyData.canLayAll0 es = true
    exact canLayAll_mem.mpr fun e he => (h e he).1
  · rw [PyData.depth]
    have := depthAll_mem.mpr fun e he => (h e he).2
    omega
theorem ShN.lst {n : Nat} {es : List PyData} (h : ∀ e, e ∈ es → ShN n e) : ShN (n + 1) (.list es) := by
  constructor
  · show PyData.canLayAll0 es = true
    exact canLayAll_mem.mpr fun e he => (h e he).1
  · rw [PyData.depth]
    have := depthAll_mem.mpr fun e he => (h e he).2
    omega
theorem ShN.of_tup {n : Nat} {es : List PyData} (h : ShN (n + 1) (.tuple es)) : ∀ e, e ∈ es → ShN n e := fun e he => by
  obtain ⟨h1, h2⟩ := h
  have h1 : PyData.canLayAll0 es = true := h1
  rw [PyData.depth] at h2
  exact ⟨canLayAll_mem.mp h1 e he, depthAll_mem.mp (by omega) e he⟩
theorem Sh.of_tup {es : List PyData} (h : Sh (.tuple es)) : ∀ e, e ∈ es → Sh e := fun e he => by
  obtain ⟨h1, h2⟩ := h
  have h1 : PyData.canLayAll0 es = true := h1
  rw [PyData.depth] at h2
  exact ⟨canLayAll_mem.mp h1 e he, (depthAll_mem (n := 60)).mp (by omega) e he⟩
theorem ShN.int {n : Nat} {i : Int} : ShN n (.int i) := ⟨rfl, by rw [PyData.depth]; exact Nat.zero_le _⟩
theorem ShN.bl {n : Nat} {i : Bool} : ShN n (.bool i) := ⟨rfl, by rw [PyData.depth]; exact Nat.zero_le _⟩
theorem ShN.non {n : Nat} : ShN n .none := ⟨rfl, by rw [PyData.depth]; exact Nat.zero_le _⟩
theorem ShN.str {n : Nat} {x : Str} (h : PyData.strOk x = true) : ShN n (.str x) := ⟨h, by rw [PyData.depth]; exact Nat.zero_le _⟩
mutual
theorem DAt.dp {K : PySem.W.Frag} {d : Addr} {H : Hp} : ∀ (e : PyData) {v : V}, DAt d H v e → Dp K H v e
  | .none, _, h => by cases h; exact .non
  | .bool b, _, h => by cases h; exact .bl b
  | .int i, _, h => by cases h; exact .int i
  | .str x, _, h => by cases h; exact .str x
  | .list ds, _, h => by
    cases h with
    | lst hd h hs => exact .lst (sq_of h) (DAts.dp ds hs)
  | .tuple ds, _, h => by
    cases h with
    | tup h hs => exact .tup (st_of h) (DAts.dp ds hs)
  | .dict _, _, h => by cases h
theorem DAts.dp {K : PySem.W.Frag} {d : Addr} {H : Hp} : ∀ (es : List PyData) {vs : List V}, DAts d H vs es → DpAll K H vs es
  | [], _, h => by cases h; exact .nil
  | e :: es, _, h => by
    cases h with
    | cons h hs => exact .cons (DAt.dp e h) (DAts.dp es hs)
end
/-- does it begin with the word and have so many parts -/
def wordAt (es : List PyData) (n : Nat) (word : Str) : Bool := match es with
  | .str w :: er => decide (er.length + 1 = n) && decide (w = word)
  | _ => false
theorem eqv_str {e : PyData} {w : Str} : PyData.eqv e (.str w) = match e with | .str x => decide (x = w) | _ => false := by
  cases e with
  | str x => rw [PyData.eqv]; first | rfl | simp
  | none => rw [PyData.eqv]
  | bool b => rw [PyData.eqv]
  | int i => rw [PyData.eqv]
  | list xs => rw [PyData.eqv]
  | tuple xs => rw [PyData.eqv]
  | dict xs => rw [PyData.eqv]
theorem x_caseD {σ : L2.St} {H : Hp} {D : Ends} {K : PySem.W.Frag} {t : V → TS} {d a : Addr} {xs : List V} {es : List PyData} {n : Nat} {word : Str} {is : List (Option Nat)} {body : TS} (ha : SqT K H a xs) (hs : DAts d H xs es) (hsh : ∀ e, e ∈ es → Sh e) (hw : PyData.strOk word = true) (n0 : 0 < n)
    (h1 : ∀ (y : V) (ys : List V) (er : List PyData), xs = y :: ys → es = .str word :: er → er.length + 1 = n → DAts d H ys er → body D (bindS is ys σ) H) (h0 : wordAt es n word = false → t (.ref a) D σ H) : tSeqW K (rEqD K) n word is body t (.ref a) D σ H := by
  have hlen := hs.len
  refine ⟨a, xs, rfl, ha, ?_⟩
  by_cases hl : es.length = n
  · cases hs with
    | nil => simp at hl; omega
    | cons h hs =>
      rename_i y ys e er
      refine .inr ⟨y, ys, rfl, by rw [hlen]; exact hl, e, .str word, DAt.dp e h, .str word, (hsh e List.mem_cons_self).shaped, Sh.shaped ⟨hw, by rw [PyData.depth]; exact Nat.zero_le _⟩, _, rfl, ?_⟩
      rw [eqv_str]
      cases e with
      | str x =>
        show if decide (x = word) = true then _ else _
        by_cases hx : x = word
        · subst hx
          rw [if_pos (decide_eq_true rfl)]
          exact h1 y ys er rfl rfl hl hs
        · rw [if_neg (by rw [decide_eq_false hx]; decide)]
          refine h0 ?_
          show (decide _ && decide (x = word)) = false
          rw [decide_eq_false hx, Bool.and_false]
      | none => exact iteF (h0 rfl)
      | bool b => exact iteF (h0 rfl)
      | int i => exact iteF (h0 rfl)
      | list xs => exact iteF (h0 rfl)
      | tuple xs => exact iteF (h0 rfl)
      | dict xs => exact iteF (h0 rfl)
  · refine .inl ⟨by rw [hlen]; exact hl, h0 ?_⟩
    cases es with
    | nil => rfl
    | cons e er =>
      cases e with
      | str x =>
        show (decide (er.length + 1 = n) && _) = false
        rw [decide_eq_false (show ¬ er.length + 1 = n from hl), Bool.false_and]
      | _ => rfl
theorem v_str {a b : Str} : decide (V.str a = V.str b) = decide (a = b) := decide_eq_decide.mpr ⟨fun h => V.str.inj h, fun h => h ▸ rfl⟩
theorem x_EqS {i j : Str} {H : Hp} {Q : VK} (q : Q (.bl (decide (i = j))) H) : rEq (.str i) (.str j) H Q := ⟨rfl, v_str ▸ q⟩
theorem x_NeS {i j : Str} {H : Hp} {Q : VK} (q : Q (.bl (!decide (i = j))) H) : rNe (.str i) (.str j) H Q := ⟨rfl, by rw [v_str]; exact q⟩
end Br

/-! ### enumerate of a tuple -/
namespace Br
open PySem PySem.Spec PyProof.Rows L2
def IteT (K : PySem.W.Frag) (a : Addr) : It :=
  ⟨fun i H => ∃ (xs : List V) (x : V), SqT K H a xs ∧ xs[i]? = some x, fun i H v H' => ∃ T x, v = .ref T ∧ H T = none ∧ H' = upd H T (.tup [.int (i : Nat), x]) ∧ ∀ xs, SqT K H a xs → xs[i]? = some x, fun i H => ∃ xs : List V, SqT K H a xs ∧ xs.length = i⟩
theorem turn_enumT {P : Program} {w : World} {K : PySem.W.Frag} {elts : List Expr} {kk : Nat} {tpos : Pos} (a e it : Addr) :
    Turn P w K (.Tuple elts kk tpos) (IteT K a) [e, it] e (fun i h => (∃ old, IsEnum h e it ((i : Nat) : Int) old) ∧ h.IsTupleIter it a i ∧ e ≠ it ∧ e ≠ a) where
  mem := by simp
  obj := fun i h st b hb => by
    obtain ⟨⟨old, he⟩, ⟨o, ho, hc, hd⟩, _⟩ := st
    have e' : b = e ∨ b = it := by simpa using hb
    rcases e' with z | z
    · rw [z]; exact ⟨_, he, fun v q => nomatch q⟩
    · rw [z]; exact ⟨o, ho, fun v q => by rw [hd] at q; cases q⟩
  keep := fun i h h' st k => let ⟨⟨old, he⟩, hi, hne⟩ := st; ⟨⟨old, k e (by simp) _ he⟩, hi.at fun o q => k it (by simp) o q, hne⟩
  item := by
    intro X hP hw hK hc i pins s σ H E I hf st hg
    subst hP hw hK
    obtain ⟨⟨old, he⟩, hit, hne, hea⟩ := st
    obtain ⟨xs, x, hq, hx⟩ := hg
    obtain ⟨its, rv, p, hz⟩ := I.tuple hq
    obtain ⟨u, hu, ru⟩ := rv.get hx
    have hel : e < s.heap.objs.size := Heap.lt_size he
    have hil : it < s.heap.objs.size := by obtain ⟨_, q, _⟩ := hit; exact Heap.lt_size q
    have hd : X.A.in1.handled = none := I.ok.hd hc
    have nb : a ≠ it := fun e => by
      obtain ⟨o, eo, co, _⟩ := hit
      obtain ⟨o', eo', co', _⟩ := p
      rw [e, eo] at eo'
      cases eo'
      rw [co] at co'
      simp at co'
    have nx := rv.length
    have hlt : i < its.toArray.size := by
      have := (List.getElem?_eq_some_iff.mp hx).1
      simp
      omega
    refine wpAny_pyNext_enum_itemD (Draws.tuple hd it a nb its.toArray) he ⟨hit, p⟩ hlt hne (by simp; exact ⟨hne, hea⟩) fun x2 h' tk q2 ho hit' hT hsz hk => ?_
    have ex : x2 = u := by
      rw [List.getElem?_toArray, hu] at q2
      exact (Option.some.inj q2).symm
    subst ex
    refine ⟨_, rfl, wpAny_letOwnedTupleGo_enum (s := { s with heap := h', toks := tk + 1 }) ho fun h'' he' sb => ?_⟩
    have hT2 : h''.get? s.heap.objs.size = some { cls := .type "tuple", data := .seq #[.int i tk, x2] } := (sb.2 _ (Nat.ne_of_gt hel)).trans hT
    have new : ObjOk X.prog X.w (upd H s.heap.objs.size (.tup [.int (i : Nat), x])) h'' s.heap.objs.size (.tup [.int (i : Nat), x]) :=
      ⟨by show 2 ≤ sizeLine; decide, [.int i tk, x2], .cons ⟨_, rfl⟩ (.cons ru .nil), ⟨_, hT2, rfl, _, rfl⟩⟩
    have I1 : Inv X pins σ (upd H s.heap.objs.size (.tup [.int (i : Nat), x])) { s with heap := h'', toks := tk + 1 } :=
      I.turnedNew (ch := [e, it]) (t' := tk + 1) (fun b ob hb q => (sb.2 b (fun z => hb (by simp [z]))).trans (hk b ob (fun z => hb (by simp [z])) (fun z => hb (by simp [z])) q)) hf (Nat.le_refl _) new
    refine ⟨.ref s.heap.objs.size, _, I1, rfl, ⟨_, x, rfl, I.hok.fresh (Nat.le_refl _), rfl, fun ys hy => by rw [I.tuple_inj hy hq]; exact hx⟩, ⟨⟨x2, ?_⟩, hit'.1.at fun o q => (sb.2 it (Ne.symm hne)).trans q, hne, hea⟩, fun b hb => ?_⟩
    · have e1 : ((i + 1 : Nat) : Int) = (i : Int) + 1 := by omega
      rw [e1]; exact he'
    · have hb' : b < s.heap.objs.size := by
        have e' : b = e ∨ b = it := by simpa using hb
        rcases e' with z | z
        · rw [z]; exact hel
        · rw [z]; exact hil
      rw [upd_ne (Nat.ne_of_lt hb')]
      exact (hf b hb).1
  done := by
    intro X hP hw hK hc i pins s σ H E I hf st hg
    subst hP hw hK
    obtain ⟨⟨old, he⟩, hit, hne, hea⟩ := st
    obtain ⟨xs, hq, hx⟩ := hg
    obtain ⟨its, rv, p, hz⟩ := I.tuple hq
    obtain ⟨f0, f1, f2, f3, f4, f5⟩ := hf it (by simp)
    have hl := rv.length
    have hd : X.A.in1.handled = none := I.ok.hd hc
    have nb : a ≠ it := fun e => by
      obtain ⟨o, eo, co, _⟩ := hit
      obtain ⟨o', eo', co', _⟩ := p
      rw [e, eo] at eo'
      cases eo'
      rw [co] at co'
      simp at co'
    have hn : its.toArray.size = i := by simp; omega
    subst hn
    exact wpAny_pyNext_enum_endD (Draws.tuple hd it a nb its.toArray) he ⟨hit, p⟩ fun h' eb => ⟨rfl, I.turned (t' := s.toks) (fun b o hb q => eb b o hb q) f0 f1 f3 f4 f5⟩
  self := fun A i s Q E st h => let ⟨⟨_, he⟩, _⟩ := st; wpAny_pyIter_enum he h
set_option maxHeartbeats 1000000 in
theorem meets_enum_B0 {v : Value} {o : Obj} {H : Heap → Prop} (B : Begins v o H) :
    Meets (Builtin.«enumerate.__new__» ⟨[.type "enumerate", v], []⟩) (fun _ R s => H s.heap ∧
      R (.ok (.ret (.ref (s.heap.push o).objs.size))) { s with heap := (s.heap.push o).push { cls := .type "enumerate", data := .fields #[.none, .bool false, .ref s.heap.objs.size, rawInt 0, .none, .none] } }) :=
  .of_wp fun prog w A R s h => by
    obtain ⟨hp, g, d, tk, os⟩ := s; obtain ⟨h1, h⟩ := h
    have hsub := sub_enumerate
    have q1 : ∀ {A' : Around} {E : Value → Shared → Prop} {Q : Value → Shared → Prop}, Q (.ref hp.objs.size) ⟨hp.push o, g, d, tk, os⟩ → wpAny (model prog w) A' (pyIter v) Q E ⟨hp, g, d, tk, os⟩ :=
      fun q => B.iter prog w _ _ ⟨hp, g, d, tk, os⟩ _ h1 q
    wp_walk using q1
    refine wpAny_stack_any fun st => wpAny_pure ?_
    split
    · rename_i c _ _ _ _ _
      cases (c == Value.type "enumerate")
      · wp_walk using q1
        exact ⟨_, rfl, h⟩
      · wp_walk using q1
        exact ⟨_, rfl, h⟩
    · wp_walk using q1
      exact ⟨_, rfl, h⟩
theorem enum_begins0 {prog : Program} {w : World} {A : Around} {E : Value → Shared → Prop} {s : Shared} {v : Value} {o : Obj} {H : Heap → Prop} {Q : Value → Shared → Prop} (B : Begins v o H) (h1 : H s.heap)
    (h : ∀ h', IsEnum h' (s.heap.objs.size + 1) s.heap.objs.size 0 .none → h'.get? s.heap.objs.size = some o → h'.objs.size = s.heap.objs.size + 2 →
      (∀ b o, s.heap.get? b = some o → h'.get? b = some o) → Q (.ref (s.heap.objs.size + 1)) { s with heap := h' }) :
    wpAny (model prog w) A (call (.type "enumerate") [v]) Q E s := by
  refine callType_new F.called_enumerate (by decide) (F.typeCall_enumerate_1 _) (F.newCall_enumerate_1 _) (fun obj => F.args_object_init_2 obj _) F.entry_enumerate_new
    (meets_enum_B0 B) ⟨h1, ?_⟩
  have hz : (s.heap.push o).objs.size = s.heap.objs.size + 1 := Heap.size_push ..
  show _ ∧ _
  rw [hz]
  have he : IsEnum ((s.heap.push o).push { cls := .type "enumerate", data := .fields #[.none, .bool false, .ref s.heap.objs.size, rawInt 0, .none, .none] }) (s.heap.objs.size + 1) s.heap.objs.size 0 .none := by
    have := Heap.get?_push_size (s.heap.push o) (o := { cls := .type "enumerate", data := .fields #[.none, .bool false, .ref s.heap.objs.size, rawInt 0, .none, .none] }) rfl
    rw [hz] at this; exact this
  refine ⟨⟨_, he, rfl⟩, h _ he (Heap.get?_push_of_some _ (Heap.get?_push_size _ B.free)) (by rw [Heap.size_push, hz]) fun b o x => Heap.get?_push_of_some _ (Heap.get?_push_of_some _ x)⟩
def iEnumT (K : PySem.W.Frag) (ta : TA) : TI := fun σ H R => ta σ H fun vs H1 => ∃ a xs, vs = [.ref a] ∧ SqT K H1 a xs ∧ R (IteT K a) H1
theorem pi_enumT {X : Cx} {K2 : PySem.W.Frag} (hK : X.K = K2) {e : Expr} {ta : TA} {p pos tpos : Pos} {elts : List Expr} {kk : Nat} (hg : Gl X "enumerate") (hm : X.mg "enumerate" = none) (ha : PA X [e] ta) (hs : starEach [e] X.env = [(false, eval e X.env)] := by rfl) :
    PI X (.Tuple elts kk tpos) (.Call (.Name "enumerate" p) [e] [] pos) (iEnumT K2 ta) := by
  subst hK
  refine ⟨fun pins s σ H R I h => ?_⟩
  refine Call_ (ld_blt I hg hm boot_enumerate (PyProof.Rows.callWith_type1 (thn (ha.run pos pins s σ H _ I h) fun us s1 ⟨vs, H1, I1, r1, q1⟩ => ?_) hs rfl))
  obtain ⟨a, xs, ex, hq, q⟩ := q1
  subst ex
  cases r1 with
  | cons r rr =>
    cases rr
    cases r
    obtain ⟨its, rv, p', hz⟩ := I1.tuple hq
    have la : a < s1.heap.objs.size := by
      obtain ⟨_, e, _⟩ := id p'
      exact Heap.lt_size e
    refine enum_begins0 (begins_tuple a its.toArray) p' fun h' he hit hsz hk => wpAny_pyIter_enum he ?_
    have I2 : Inv X pins σ H1 { s1 with heap := h' } := I1.kept (t' := s1.toks) hk
    refine ⟨s1.heap.objs.size + 1, [s1.heap.objs.size + 1, s1.heap.objs.size], _, _, H1, rfl, I2, turn_enumT a (s1.heap.objs.size + 1) s1.heap.objs.size, ⟨⟨.none, he⟩, ⟨_, hit, rfl, rfl⟩, Nat.succ_ne_self _, Nat.ne_of_gt (Nat.lt_succ_of_lt la)⟩, fun b hb => ?_, q⟩
    have e' : b = s1.heap.objs.size + 1 ∨ b = s1.heap.objs.size := by simpa using hb
    have hle : s1.heap.objs.size ≤ b := by
      rcases e' with z | z
      · rw [z]; exact Nat.le_add_right _ _
      · rw [z]; exact Nat.le_refl _
    exact I1.fpOk hle (I1.hok.fresh hle)
def YEnT (xs : List V) : Nat → Hp → V → Hp → Prop := fun i H v H' => ∃ T x, v = .ref T ∧ H T = none ∧ H' = upd H T (.tup [.int (i : Nat), x]) ∧ xs[i]? = some x
theorem walk_enumT {K : PySem.W.Frag} {a : Addr} {xs : List V} : Walk (IteT K a) xs.length (fun H => SqT K H a xs) (YEnT xs) := by
  refine ⟨fun i H hi q => ⟨xs, xs[i], q, List.getElem?_eq_getElem hi⟩, fun H q => ⟨xs, q, rfl⟩, fun i H v H' hi q y => ?_⟩
  obtain ⟨T, x, e1, e2, e3, e4⟩ := y
  exact ⟨T, x, e1, e2, e3, e4 _ q⟩
/-- a comprehension over enumerate of a tuple, item by item -/
theorem x_lcEnT {K : PySem.W.Frag} {ta : TA} {te : TE} {vs : List Nat} {i j : Nat} {Q : VK} {σ : L2.St} {H : Hp} {a : Addr} {xs : List V} (f : Nat → V) (hn : ∀ R : List V → Hp → Prop, R [.ref a] H → ta σ H R) (ha : SqT K H a xs) (hl : xs.length ≤ 100000)
    (hv : ∀ x y, wipe (((wipe σ vs).set i (some x)).set j (some y)) vs = wipe σ vs) (hG : ∀ H', Same H H' → SqT K H' a xs)
    (he : ∀ (k : Nat) x H', Same H H' → xs[k]? = some x → ∀ R : VK, (∀ H2, Same H' H2 → R (f k) H2) → te (((wipe σ vs).set i (some (.int (k : Int)))).set j (some x)) H' R)
    (hd : ∀ p H', H p = none → Same H H' → H' p = some (.lst ((List.range xs.length).map f)) → Q (.ref p) H') : tLc (iEnumT K ta) (gTup K 2 (gCons (gName i) (gCons (gName j) gNil))) tYes te vs σ H Q := by
  refine x_lcI (J := IteT K a) (n := xs.length) (G := fun H => SqT K H a xs) (fun R r => hn _ ⟨a, xs, rfl, ha, r⟩) walk_enumT (fun p k H' => Same H H' ∧ H' p = some (.lst ((List.range k).map f))) (fun p hp => ⟨same_upd hp, upd_same⟩) (fun p k H' _ _ z => hG H' z.1) ?_ ?_ fun p H' hp z => hd p H' hp z.1 z.2
  · rintro p k x H' H2 hk hp ⟨hs, hl⟩ ⟨T, y, rfl, hT, rfl, hx⟩
    have sT := same_upd (o := .tup [.int (k : Nat), y]) hT
    refine x_gTup2 (st_of upd_same) ⟨hv _ _, he k y _ (hs.trans sT) hx _ fun H3 s3 => ?_⟩
    refine ⟨_, s3 _ _ (sT _ _ hl), lt_line (by simp; omega), sput ((hs.trans sT).trans s3) hp, ?_⟩
    rw [upd_same, List.range_succ, List.map_append]
    rfl
  · rintro x σ' H' R R' hr ⟨p, zs, e1, e2, e3, x1, r1, e4, x2, r2, e5, e6, h⟩
    exact ⟨p, zs, e1, e2, e3, x1, r1, e4, x2, r2, e5, e6, hr _ _ h⟩
end Br

/-! ### nodes that refer to nodes before them: Boolean sources as data -/
namespace Br
open PySem PySem.Spec PyProof.Rows L2
/-- values from left to right, each from those before it -/
def scanF {α β : Type} (f : List β → α → β) (ns : List α) : List β := ns.foldl (fun acc n => acc ++ [f acc n]) []
theorem scanF_snoc {α β : Type} {f : List β → α → β} {ns : List α} {n : α} : scanF f (ns ++ [n]) = scanF f ns ++ [f (scanF f ns) n] := by unfold scanF; rw [List.foldl_append]; rfl
theorem revRec {α : Type} {P : List α → Prop} (h0 : P []) (h1 : ∀ xs x, P xs → P (xs ++ [x])) : ∀ xs, P xs := fun xs => by
  have h : ∀ ys : List α, P ys.reverse := by
    intro ys
    induction ys with
    | nil => exact h0
    | cons y ys ih => rw [List.reverse_cons]; exact h1 _ _ ih
  have := h xs.reverse
  rw [List.reverse_reverse] at this
  exact this
theorem scanF_len {α β : Type} {f : List β → α → β} {ns : List α} : (scanF f ns).length = ns.length := by
  refine revRec (P := fun ns => (scanF f ns).length = ns.length) rfl (fun ns n ih => ?_) ns
  rw [scanF_snoc, List.length_append, List.length_append, ih]
  rfl
def isTupD : PyData → Bool
  | .tuple _ => true
  | _ => false
def nodesD : PyData → Bool
  | .tuple es => (decide (1 ≤ es.length) && decide (es.length ≤ 200)) && es.all isTupD
  | _ => false
theorem isBD_nat {i m : Nat} (h : i < m) : isBD (m : Int) (.int (i : Int)) = true := isBD_iff.mpr ⟨_, rfl, by omega, by omega⟩
theorem sh_cons {m : Nat} {e : PyData} {es : List PyData} (h : ShN m e) (hs : ∀ x, x ∈ es → ShN m x) : ∀ x, x ∈ e :: es → ShN m x := fun x hx => (List.mem_cons.mp hx).elim (fun e1 => by rw [e1]; exact h) (hs x)
theorem sh_nil {m : Nat} : ∀ x, x ∈ ([] : List PyData) → ShN m x := fun x hx => by simp at hx
theorem sh_app {m : Nat} {es fs : List PyData} (h : ∀ x, x ∈ es → ShN m x) (h2 : ∀ x, x ∈ fs → ShN m x) : ∀ x, x ∈ es ++ fs → ShN m x := fun x hx => (List.mem_append.mp hx).elim (h x) (h2 x)
theorem sh_take {m n : Nat} {es : List PyData} (h : ∀ x, x ∈ es → ShN m x) : ∀ x, x ∈ es.take n → ShN m x := fun x hx => h x (List.mem_of_mem_take hx)
theorem sh_drop {m n : Nat} {es : List PyData} (h : ∀ x, x ∈ es → ShN m x) : ∀ x, x ∈ es.drop n → ShN m x := fun x hx => h x (List.mem_of_mem_drop hx)
theorem sh_up {m k : Nat} {es : List PyData} (h : ∀ x, x ∈ es → ShN m x) (hm : m ≤ k) : ∀ x, x ∈ es → ShN k x := fun x hx => (h x hx).mono hm
/-! readings of slices and sums of tuples, the whole and the empty one included -/
theorem x_slA {K : PySem.W.Frag} {a : Addr} {xs : List V} {lo hi : Option Int} {H : Hp} {Q : VK} (hp : H a = some (.tup xs)) (q : ∀ r H', Same H H' → H' r = some (.tup (cutV xs lo hi)) → Q (.ref r) H') : rSlA K (.ref a) lo hi H Q := by
  refine ⟨a, xs, rfl, st_of hp, fun h => q a H (Same.refl _) ?_, fun _ p hn => q p _ (same_upd hn) upd_same⟩
  rw [hp]
  unfold cutV
  rw [h.1, h.2, List.drop_zero, Nat.sub_zero, List.take_length]
theorem x_catA {K : PySem.W.Frag} {a b : Addr} {xs ys : List V} {H : Hp} {Q : VK} (ha : H a = some (.tup xs)) (hb : H b = some (.tup ys)) (hl : xs.length + ys.length ≤ 1000000) (q : ∀ r H', Same H H' → H' r = some (.tup (xs ++ ys)) → Q (.ref r) H') : rCatA K (.ref a) (.ref b) H Q := by
  refine ⟨a, b, xs, ys, rfl, rfl, st_of ha, st_of hb, Nat.le_trans hl (by decide), fun h => q b H (Same.refl _) (by rw [h]; exact hb), fun _ h => q a H (Same.refl _) (by rw [h, List.append_nil]; exact ha), fun _ _ p hn => q p _ (same_upd hn) upd_same⟩
end Br

/-! ### Boolean sources as data -/
namespace Br
open PySem PySem.Spec PyProof.Rows L2
inductive BN where
  | inp (k : Nat)
  | neg (i : Nat)
  | conj (i j : Nat)
  | disj (i j : Nat)
def bnV : BN → List V
  | .inp k => [.str "input", .int (k : Int)]
  | .neg i => [.str "not", .int (i : Int)]
  | .conj i j => [.str "and", .int (i : Int), .int (j : Int)]
  | .disj i j => [.str "or", .int (i : Int), .int (j : Int)]
def bnD : BN → PyData
  | .inp k => .tuple [.str "input", .int (k : Int)]
  | .neg i => .tuple [.str "not", .int (i : Int)]
  | .conj i j => .tuple [.str "and", .int (i : Int), .int (j : Int)]
  | .disj i j => .tuple [.str "or", .int (i : Int), .int (j : Int)]
def BnOk (m : Nat) : BN → Prop
  | .inp k => k < 60
  | .neg i => i < m
  | .conj i j => i < m ∧ j < m
  | .disj i j => i < m ∧ j < m
theorem bn_dat {d a : Addr} {H : Hp} {n : BN} (h : H a = some (.tup (bnV n))) : DAt d H (.ref a) (bnD n) := by
  cases n with
  | inp k => exact .tup h (.cons (.str _) (.cons (.int _) .nil))
  | neg i => exact .tup h (.cons (.str _) (.cons (.int _) .nil))
  | conj i j => exact .tup h (.cons (.str _) (.cons (.int _) (.cons (.int _) .nil)))
  | disj i j => exact .tup h (.cons (.str _) (.cons (.int _) (.cons (.int _) .nil)))
theorem bnD_at {d : Addr} {H : Hp} {v : V} {n : BN} (h : DAt d H v (bnD n)) : ∃ a, v = .ref a ∧ H a = some (.tup (bnV n)) := by
  cases n with
  | inp k =>
    cases h with
    | tup h hs =>
      cases hs with
      | cons h1 hs => cases h1; cases hs with | cons h2 hs => cases h2; cases hs; exact ⟨_, rfl, h⟩
  | neg i =>
    cases h with
    | tup h hs =>
      cases hs with
      | cons h1 hs => cases h1; cases hs with | cons h2 hs => cases h2; cases hs; exact ⟨_, rfl, h⟩
  | conj i j =>
    cases h with
    | tup h hs =>
      cases hs with
      | cons h1 hs => cases h1; cases hs with | cons h2 hs => cases h2; cases hs with | cons h3 hs => cases h3; cases hs; exact ⟨_, rfl, h⟩
  | disj i j =>
    cases h with
    | tup h hs =>
      cases hs with
      | cons h1 hs => cases h1; cases hs with | cons h2 hs => cases h2; cases hs with | cons h3 hs => cases h3; cases hs; exact ⟨_, rfl, h⟩
/-- many nodes -/
structure BsOk (ns : List BN) : Prop where
  l1 : 1 ≤ ns.length
  l2 : ns.length ≤ 200
  ok : ∀ i n, ns[i]? = some n → BnOk i n
def bnodeD (m : Int) : PyData → Bool
  | .tuple [.str w, k] => if w = "input" then isBD 60 k else if w = "not" then isBD m k else false
  | .tuple [.str w, i, j] => (decide (w = "and") || decide (w = "or")) && (isBD m i && isBD m j)
  | _ => false
theorem bnodeD_iff {m : Nat} {e : PyData} : bnodeD m e = true ↔ ∃ n, e = bnD n ∧ BnOk m n := by
  constructor
  · intro h
    match e, h with
    | .tuple [.str w, k], h =>
      have h : (if w = "input" then isBD 60 k else if w = "not" then isBD m k else false) = true := h
      by_cases h1 : w = "input"
      · rw [if_pos h1] at h
        obtain ⟨i, rfl, i0, i1⟩ := isBD_iff.mp h
        exact ⟨.inp i.toNat, by subst h1; show _ = PyData.tuple [.str "input", .int ((i.toNat : Nat) : Int)]; rw [show ((i.toNat : Nat) : Int) = i by omega], by show i.toNat < 60; omega⟩
      · rw [if_neg h1] at h
        by_cases h2 : w = "not"
        · rw [if_pos h2] at h
          obtain ⟨i, rfl, i0, i1⟩ := isBD_iff.mp h
          exact ⟨.neg i.toNat, by subst h2; show _ = PyData.tuple [.str "not", .int ((i.toNat : Nat) : Int)]; rw [show ((i.toNat : Nat) : Int) = i by omega], by show i.toNat < m; omega⟩
        · rw [if_neg h2] at h; cases h
    | .tuple [.str w, i, j], h =>
      have h : ((decide (w = "and") || decide (w = "or")) && (isBD m i && isBD m j)) = true := h
      rw [Bool.and_eq_true, Bool.and_eq_true, Bool.or_eq_true, decide_eq_true_iff, decide_eq_true_iff] at h
      obtain ⟨hw, hi, hj⟩ := h
      obtain ⟨i, rfl, i0, i1⟩ := isBD_iff.mp hi
      obtain ⟨j, rfl, j0, j1⟩ := isBD_iff.mp hj
      have e1 : ((i.toNat : Nat) : Int) = i := by omega
      have e2 : ((j.toNat : Nat) : Int) = j := by omega
      rcases hw with rfl | rfl
      · exact ⟨.conj i.toNat j.toNat, by show _ = PyData.tuple [.str "and", .int ((i.toNat : Nat) : Int), .int ((j.toNat : Nat) : Int)]; rw [e1, e2], by show i.toNat < m ∧ j.toNat < m; omega⟩
      · exact ⟨.disj i.toNat j.toNat, by show _ = PyData.tuple [.str "or", .int ((i.toNat : Nat) : Int), .int ((j.toNat : Nat) : Int)]; rw [e1, e2], by show i.toNat < m ∧ j.toNat < m; omega⟩
  · rintro ⟨n, rfl, ok⟩
    cases n with
    | inp k => exact isBD_nat (m := 60) ok
    | neg i => exact isBD_nat (m := m) ok
    | conj i j =>
      have ok : i < m ∧ j < m := ok
      show (true && (isBD m (.int (i : Int)) && isBD m (.int (j : Int)))) = true
      rw [isBD_nat ok.1, isBD_nat ok.2]; rfl
    | disj i j =>
      have ok : i < m ∧ j < m := ok
      show (true && (isBD m (.int (i : Int)) && isBD m (.int (j : Int)))) = true
      rw [isBD_nat ok.1, isBD_nat ok.2]; rfl
def boolD : PyData → Bool
  | .tuple es => nodesD (.tuple es) && ((List.range es.length).all fun i => bnodeD (i : Int) (es.getD i .none))
  | _ => false
theorem boolD_iff {e : PyData} : boolD e = true ↔ ∃ ns : List BN, e = .tuple (ns.map bnD) ∧ BsOk ns := by
  constructor
  · intro h
    cases e with
    | tuple es =>
      have h : (((decide (1 ≤ es.length) && decide (es.length ≤ 200)) && es.all isTupD) && ((List.range es.length).all fun i => bnodeD (i : Int) (es.getD i .none))) = true := h
      rw [Bool.and_eq_true, Bool.and_eq_true, Bool.and_eq_true, decide_eq_true_iff, decide_eq_true_iff] at h
      obtain ⟨⟨⟨h1, h2⟩, _⟩, h3⟩ := h
      rw [List.all_eq_true] at h3
      have h4 : ∀ i e, es[i]? = some e → ∃ n, e = bnD n ∧ BnOk i n := fun i e he => by
        have := h3 i (List.mem_range.mpr (List.getElem?_eq_some_iff.mp he).1)
        rw [getDT he] at this
        exact bnodeD_iff.mp this
      have h5 : ∀ (es : List PyData) (k : Nat), (∀ i e, es[i]? = some e → ∃ n, e = bnD n ∧ BnOk (k + i) n) → ∃ ns : List BN, es = ns.map bnD ∧ ∀ i n, ns[i]? = some n → BnOk (k + i) n := by
        intro es
        induction es with
        | nil => intro k _; exact ⟨[], rfl, fun i n h => by simp at h⟩
        | cons e es ih =>
          intro k h
          obtain ⟨n, rfl, hn⟩ := h 0 e rfl
          obtain ⟨ns, rfl, hns⟩ := ih (k + 1) fun i e he => by
            have := h (i + 1) e (by simpa using he)
            rw [show k + 1 + i = k + (i + 1) by omega]
            exact this
          refine ⟨n :: ns, rfl, fun i m hm => ?_⟩
          cases i with
          | zero => cases hm; exact hn
          | succ i =>
            have := hns i m (by simpa using hm)
            rw [show k + (i + 1) = k + 1 + i by omega]
            exact this
      obtain ⟨ns, rfl, hns⟩ := h5 es 0 fun i e he => by rw [Nat.zero_add]; exact h4 i e he
      rw [List.length_map] at h1 h2
      exact ⟨ns, rfl, h1, h2, fun i n hn => by have := hns i n hn; rw [Nat.zero_add] at this; exact this⟩
    | _ => cases h
  · rintro ⟨ns, rfl, ok⟩
    show (((decide (1 ≤ (ns.map bnD).length) && decide ((ns.map bnD).length ≤ 200)) && (ns.map bnD).all isTupD) && ((List.range (ns.map bnD).length).all fun i => bnodeD (i : Int) ((ns.map bnD).getD i .none))) = true
    have h3 : (ns.map bnD).all isTupD = true := by
      rw [List.all_eq_true]
      intro e he
      obtain ⟨n, _, rfl⟩ := List.mem_map.mp he
      cases n <;> rfl
    have h4 : ((List.range (ns.map bnD).length).all fun i => bnodeD (i : Int) ((ns.map bnD).getD i .none)) = true := by
      rw [List.all_eq_true]
      intro i hi
      rw [List.length_map] at hi
      have hi := List.mem_range.mp hi
      have e1 : (ns.map bnD)[i]? = some (bnD ns[i]) := by rw [List.getElem?_map, List.getElem?_eq_getElem hi]; rfl
      rw [getDT e1]
      exact bnodeD_iff.mpr ⟨_, rfl, ok.ok i _ (List.getElem?_eq_getElem hi)⟩
    rw [h3, h4, List.length_map, decide_eq_true ok.l1, decide_eq_true ok.l2]
    rfl
def bnOf : PyData → BN
  | .tuple [.str w, .int k] => if w = "input" then .inp k.toNat else .neg k.toNat
  | .tuple [.str w, .int i, .int j] => if w = "and" then .conj i.toNat j.toNat else .disj i.toNat j.toNat
  | _ => .inp 0
theorem bnOf_bnD {n : BN} : bnOf (bnD n) = n := by
  cases n with
  | inp k =>
    show (if (Str.ofString "input") = (Str.ofString "input") then BN.inp ((k : Int)).toNat else .neg ((k : Int)).toNat) = _
    rw [if_pos rfl]; rfl
  | neg i =>
    show (if (Str.ofString "not") = (Str.ofString "input") then BN.inp ((i : Int)).toNat else .neg ((i : Int)).toNat) = _
    rw [if_neg (by decide)]; rfl
  | conj i j =>
    show (if (Str.ofString "and") = (Str.ofString "and") then BN.conj ((i : Int)).toNat ((j : Int)).toNat else .disj ((i : Int)).toNat ((j : Int)).toNat) = _
    rw [if_pos rfl]; rfl
  | disj i j =>
    show (if (Str.ofString "or") = (Str.ofString "and") then BN.conj ((i : Int)).toNat ((j : Int)).toNat else .disj ((i : Int)).toNat ((j : Int)).toNat) = _
    rw [if_neg (by decide)]; rfl
theorem bns_inj {a b : List BN} (h : a.map bnD = b.map bnD) : a = b :=
  (List.map_inj_right fun x y hxy => by have := congrArg bnOf hxy; rw [bnOf_bnD, bnOf_bnD] at this; exact this).mp h
def len1 (ls : List Nat) : BN → Nat
  | .inp _ => 1
  | .neg i => ls.getD i 0
  | .conj i j => 2 * (ls.getD i 0 + ls.getD j 0)
  | .disj i j => 2 * (ls.getD i 0 + ls.getD j 0)
def lensF (ns : List BN) : List Nat := scanF len1 ns
def tru1 (bs : List Bool) (ts : List Bool) : BN → Bool
  | .inp k => bs.getD k false
  | .neg i => !ts.getD i false
  | .conj i j => ts.getD i false && ts.getD j false
  | .disj i j => ts.getD i false || ts.getD j false
def trusF (bs : List Bool) (ns : List BN) : List Bool := scanF (tru1 bs) ns
theorem bn_sh {n : BN} {m : Nat} : ShN (m + 1) (bnD n) := by
  have w1 : ShN m (.str "input") := ShN.str (by decide +kernel)
  have w2 : ShN m (.str "not") := ShN.str (by decide +kernel)
  have w3 : ShN m (.str "and") := ShN.str (by decide +kernel)
  have w4 : ShN m (.str "or") := ShN.str (by decide +kernel)
  cases n with
  | inp k => exact .tup (sh_cons w1 (sh_cons .int sh_nil))
  | neg i => exact .tup (sh_cons w2 (sh_cons .int sh_nil))
  | conj i j => exact .tup (sh_cons w3 (sh_cons .int (sh_cons .int sh_nil)))
  | disj i j => exact .tup (sh_cons w4 (sh_cons .int (sh_cons .int sh_nil)))
theorem bns_at {d : Addr} {H : Hp} : ∀ {xs : List V} {ns : List BN}, DAts d H xs (ns.map bnD) → ∃ as : List Addr, xs = as.map V.ref ∧ as.length = ns.length ∧ ∀ (i : Nat) n a, ns[i]? = some n → as[i]? = some a → H a = some (.tup (bnV n))
  | _, [], h => by cases h; exact ⟨[], rfl, rfl, fun i n a h _ => by simp at h⟩
  | _, n :: ns, h => by
    cases h with
    | cons h hs =>
      obtain ⟨a, rfl, ha⟩ := bnD_at h
      obtain ⟨as, rfl, hl, hat⟩ := bns_at hs
      refine ⟨a :: as, rfl, congrArg (· + 1) hl, fun i m b h1 h2 => ?_⟩
      cases i with
      | zero => cases h1; cases h2; exact ha
      | succ i => exact hat i m b (by simpa using h1) (by simpa using h2)
end Br

/-! ### sources as data -/
namespace Br
open PySem PySem.Spec PyProof.Rows L2
inductive SN where
  | con (c : Nat)
  | inp (k : Nat)
  | sum (i j : Nat)
  | prod (i j : Nat)
  | scl (c i : Nat)
  | cho (i j l : Nat)
def snV : SN → List V
  | .con c => [.str "const", .int (c : Int)]
  | .inp k => [.str "input", .int (k : Int)]
  | .sum i j => [.str "sum", .int (i : Int), .int (j : Int)]
  | .prod i j => [.str "product", .int (i : Int), .int (j : Int)]
  | .scl c i => [.str "scaled", .int (c : Int), .int (i : Int)]
  | .cho i j l => [.str "choose", .int (i : Int), .int (j : Int), .int (l : Int)]
def snEs : SN → List PyData
  | .con c => [.str "const", .int (c : Int)]
  | .inp k => [.str "input", .int (k : Int)]
  | .sum i j => [.str "sum", .int (i : Int), .int (j : Int)]
  | .prod i j => [.str "product", .int (i : Int), .int (j : Int)]
  | .scl c i => [.str "scaled", .int (c : Int), .int (i : Int)]
  | .cho i j l => [.str "choose", .int (i : Int), .int (j : Int), .int (l : Int)]
def snD (n : SN) : PyData := .tuple (snEs n)
def SnOk (m : Nat) : SN → Prop
  | .con c => c < 1000000000
  | .inp k => k < 60
  | .sum i j => i < m ∧ j < m
  | .prod i j => i < m ∧ j < m
  | .scl c i => c < 1000000000 ∧ i < m
  | .cho i j l => i < m ∧ j < m ∧ l < m
theorem snEs_at {d : Addr} {H : Hp} {b : SN} : DAts d H (snV b) (snEs b) := by
  cases b with
  | con c => exact .cons (.str _) (.cons (.int _) .nil)
  | inp k => exact .cons (.str _) (.cons (.int _) .nil)
  | sum i j => exact .cons (.str _) (.cons (.int _) (.cons (.int _) .nil))
  | prod i j => exact .cons (.str _) (.cons (.int _) (.cons (.int _) .nil))
  | scl i j => exact .cons (.str _) (.cons (.int _) (.cons (.int _) .nil))
  | cho i j l => exact .cons (.str _) (.cons (.int _) (.cons (.int _) (.cons (.int _) .nil)))
theorem sn_dat {d a : Addr} {H : Hp} {n : SN} (h : H a = some (.tup (snV n))) : DAt d H (.ref a) (snD n) := .tup h snEs_at
theorem snEs_of {d : Addr} {H : Hp} {xs : List V} {n : SN} (h : DAts d H xs (snEs n)) : xs = snV n := by
  have one : ∀ {d : Addr} {H : Hp} {x : V} {i : Int}, DAt d H x (.int i) → x = .int i := fun h => by cases h; rfl
  have ons : ∀ {d : Addr} {H : Hp} {x : V} {i : Str}, DAt d H x (.str i) → x = .str i := fun h => by cases h; rfl
  cases n with
  | con c => cases h with | cons h1 h => cases h with | cons h2 h => cases h; rw [ons h1, one h2]; rfl
  | inp c => cases h with | cons h1 h => cases h with | cons h2 h => cases h; rw [ons h1, one h2]; rfl
  | sum i j => cases h with | cons h1 h => cases h with | cons h2 h => cases h with | cons h3 h => cases h; rw [ons h1, one h2, one h3]; rfl
  | prod i j => cases h with | cons h1 h => cases h with | cons h2 h => cases h with | cons h3 h => cases h; rw [ons h1, one h2, one h3]; rfl
  | scl i j => cases h with | cons h1 h => cases h with | cons h2 h => cases h with | cons h3 h => cases h; rw [ons h1, one h2, one h3]; rfl
  | cho i j l => cases h with | cons h1 h => cases h with | cons h2 h => cases h with | cons h3 h => cases h with | cons h4 h => cases h; rw [ons h1, one h2, one h3, one h4]; rfl
theorem snD_at {d : Addr} {H : Hp} {v : V} {n : SN} (h : DAt d H v (snD n)) : ∃ a, v = .ref a ∧ H a = some (.tup (snV n)) := by
  unfold snD at h
  cases h with
  | tup h hs => exact ⟨_, rfl, by rw [h, snEs_of hs]⟩
structure SsOk (ns : List SN) : Prop where
  l1 : 1 ≤ ns.length
  l2 : ns.length ≤ 200
  ok : ∀ i n, ns[i]? = some n → SnOk i n
def snodeD (m : Int) : PyData → Bool
  | .tuple [.str w, x] => if w = "const" then isBD 1000000000 x else if w = "input" then isBD 60 x else false
  | .tuple [.str w, x, y] => if w = "sum" then isBD m x && isBD m y else if w = "product" then isBD m x && isBD m y else if w = "scaled" then isBD 1000000000 x && isBD m y else false
  | .tuple [.str w, x, y, z] => if w = "choose" then isBD m x && (isBD m y && isBD m z) else false
  | _ => false
theorem sn1 {m : Int} {w : Str} {x : PyData} : snodeD m (.tuple [.str w, x]) = (if w = "const" then isBD 1000000000 x else if w = "input" then isBD 60 x else false) := rfl
theorem sn2 {m : Int} {w : Str} {x y : PyData} : snodeD m (.tuple [.str w, x, y]) = (if w = "sum" then isBD m x && isBD m y else if w = "product" then isBD m x && isBD m y else if w = "scaled" then isBD 1000000000 x && isBD m y else false) := rfl
theorem sn3 {m : Int} {w : Str} {x y z : PyData} : snodeD m (.tuple [.str w, x, y, z]) = (if w = "choose" then isBD m x && (isBD m y && isBD m z) else false) := rfl
theorem isBD_toNat {b : Int} {x : PyData} (h : isBD b x = true) : ∃ c : Nat, x = .int (c : Int) ∧ (c : Int) < b := by
  obtain ⟨i, rfl, i0, i1⟩ := isBD_iff.mp h
  exact ⟨i.toNat, by rw [show ((i.toNat : Nat) : Int) = i by omega], by omega⟩
theorem snodeD_iff {m : Nat} {e : PyData} : snodeD m e = true ↔ ∃ n, e = snD n ∧ SnOk m n := by
  constructor
  · intro h
    match e, h with
    | .tuple [.str w, x], h =>
      rw [sn1] at h
      by_cases h1 : w = "const"
      · rw [if_pos h1] at h
        obtain ⟨c, rfl, hc⟩ := isBD_toNat h
        exact ⟨.con c, by rw [h1]; rfl, by show c < 1000000000; omega⟩
      rw [if_neg h1] at h
      by_cases h2 : w = "input"
      · rw [if_pos h2] at h
        obtain ⟨c, rfl, hc⟩ := isBD_toNat h
        exact ⟨.inp c, by rw [h2]; rfl, by show c < 60; omega⟩
      rw [if_neg h2] at h
      cases h
    | .tuple [.str w, x, y], h =>
      rw [sn2] at h
      by_cases h1 : w = "sum"
      · rw [if_pos h1, Bool.and_eq_true] at h
        obtain ⟨i, rfl, hi⟩ := isBD_toNat h.1
        obtain ⟨j, rfl, hj⟩ := isBD_toNat h.2
        exact ⟨.sum i j, by rw [h1]; rfl, by show i < m ∧ j < m; omega⟩
      rw [if_neg h1] at h
      by_cases h2 : w = "product"
      · rw [if_pos h2, Bool.and_eq_true] at h
        obtain ⟨i, rfl, hi⟩ := isBD_toNat h.1
        obtain ⟨j, rfl, hj⟩ := isBD_toNat h.2
        exact ⟨.prod i j, by rw [h2]; rfl, by show i < m ∧ j < m; omega⟩
      rw [if_neg h2] at h
      by_cases h3 : w = "scaled"
      · rw [if_pos h3, Bool.and_eq_true] at h
        obtain ⟨i, rfl, hi⟩ := isBD_toNat h.1
        obtain ⟨j, rfl, hj⟩ := isBD_toNat h.2
        exact ⟨.scl i j, by rw [h3]; rfl, by show i < 1000000000 ∧ j < m; omega⟩
      rw [if_neg h3] at h
      cases h
    | .tuple [.str w, x, y, z], h =>
      rw [sn3] at h
      by_cases h1 : w = "choose"
      · rw [if_pos h1, Bool.and_eq_true, Bool.and_eq_true] at h
        obtain ⟨i, rfl, hi⟩ := isBD_toNat h.1
        obtain ⟨j, rfl, hj⟩ := isBD_toNat h.2.1
        obtain ⟨l, rfl, hl⟩ := isBD_toNat h.2.2
        exact ⟨.cho i j l, by rw [h1]; rfl, by show i < m ∧ j < m ∧ l < m; omega⟩
      rw [if_neg h1] at h
      cases h
  · rintro ⟨n, rfl, ok⟩
    cases n with
    | con c => show snodeD m (.tuple [.str "const", .int (c : Int)]) = true; rw [sn1, if_pos rfl]; exact isBD_nat (m := 1000000000) ok
    | inp k => show snodeD m (.tuple [.str "input", .int (k : Int)]) = true; rw [sn1, if_neg (by decide), if_pos rfl]; exact isBD_nat (m := 60) ok
    | sum i j =>
      have ok : i < m ∧ j < m := ok
      show snodeD m (.tuple [.str "sum", .int (i : Int), .int (j : Int)]) = true
      rw [sn2, if_pos rfl, isBD_nat ok.1, isBD_nat ok.2]; rfl
    | prod i j =>
      have ok : i < m ∧ j < m := ok
      show snodeD m (.tuple [.str "product", .int (i : Int), .int (j : Int)]) = true
      rw [sn2, if_neg (by decide), if_pos rfl, isBD_nat ok.1, isBD_nat ok.2]; rfl
    | scl c i =>
      have ok : c < 1000000000 ∧ i < m := ok
      show snodeD m (.tuple [.str "scaled", .int (c : Int), .int (i : Int)]) = true
      rw [sn2, if_neg (by decide), if_neg (by decide), if_pos rfl, show isBD 1000000000 (.int (c : Int)) = true from isBD_nat (m := 1000000000) ok.1, isBD_nat ok.2]; rfl
    | cho i j l =>
      have ok : i < m ∧ j < m ∧ l < m := ok
      show snodeD m (.tuple [.str "choose", .int (i : Int), .int (j : Int), .int (l : Int)]) = true
      rw [sn3, if_pos rfl, isBD_nat ok.1, isBD_nat ok.2.1, isBD_nat ok.2.2]; rfl
def sourceD : PyData → Bool
  | .tuple es => nodesD (.tuple es) && ((List.range es.length).all fun i => snodeD (i : Int) (es.getD i .none))
  | _ => false
theorem sourceD_iff {e : PyData} : sourceD e = true ↔ ∃ ns : List SN, e = .tuple (ns.map snD) ∧ SsOk ns := by
  constructor
  · intro h
    cases e with
    | tuple es =>
      have h : (((decide (1 ≤ es.length) && decide (es.length ≤ 200)) && es.all isTupD) && ((List.range es.length).all fun i => snodeD (i : Int) (es.getD i .none))) = true := h
      rw [Bool.and_eq_true, Bool.and_eq_true, Bool.and_eq_true, decide_eq_true_iff, decide_eq_true_iff] at h
      obtain ⟨⟨⟨h1, h2⟩, _⟩, h3⟩ := h
      rw [List.all_eq_true] at h3
      have h4 : ∀ i e, es[i]? = some e → ∃ n, e = snD n ∧ SnOk i n := fun i e he => by
        have := h3 i (List.mem_range.mpr (List.getElem?_eq_some_iff.mp he).1)
        rw [getDT he] at this
        exact snodeD_iff.mp this
      have h5 : ∀ (es : List PyData) (k : Nat), (∀ i e, es[i]? = some e → ∃ n, e = snD n ∧ SnOk (k + i) n) → ∃ ns : List SN, es = ns.map snD ∧ ∀ i n, ns[i]? = some n → SnOk (k + i) n := by
        intro es
        induction es with
        | nil => intro k _; exact ⟨[], rfl, fun i n h => by simp at h⟩
        | cons e es ih =>
          intro k h
          obtain ⟨n, rfl, hn⟩ := h 0 e rfl
          obtain ⟨ns, rfl, hns⟩ := ih (k + 1) fun i e he => by
            have := h (i + 1) e (by simpa using he)
            rw [show k + 1 + i = k + (i + 1) by omega]
            exact this
          refine ⟨n :: ns, rfl, fun i m hm => ?_⟩
          cases i with
          | zero => cases hm; exact hn
          | succ i =>
            have := hns i m (by simpa using hm)
            rw [show k + (i + 1) = k + 1 + i by omega]
            exact this
      obtain ⟨ns, rfl, hns⟩ := h5 es 0 fun i e he => by rw [Nat.zero_add]; exact h4 i e he
      rw [List.length_map] at h1 h2
      exact ⟨ns, rfl, h1, h2, fun i n hn => by have := hns i n hn; rw [Nat.zero_add] at this; exact this⟩
    | _ => cases h
  · rintro ⟨ns, rfl, ok⟩
    show (((decide (1 ≤ (ns.map snD).length) && decide ((ns.map snD).length ≤ 200)) && (ns.map snD).all isTupD) && ((List.range (ns.map snD).length).all fun i => snodeD (i : Int) ((ns.map snD).getD i .none))) = true
    have h3 : (ns.map snD).all isTupD = true := by
      rw [List.all_eq_true]
      intro e he
      obtain ⟨n, _, rfl⟩ := List.mem_map.mp he
      rfl
    have h4 : ((List.range (ns.map snD).length).all fun i => snodeD (i : Int) ((ns.map snD).getD i .none)) = true := by
      rw [List.all_eq_true]
      intro i hi
      rw [List.length_map] at hi
      have hi := List.mem_range.mp hi
      have e1 : (ns.map snD)[i]? = some (snD ns[i]) := by rw [List.getElem?_map, List.getElem?_eq_getElem hi]; rfl
      rw [getDT e1]
      exact snodeD_iff.mpr ⟨_, rfl, ok.ok i _ (List.getElem?_eq_getElem hi)⟩
    rw [h3, h4, List.length_map, decide_eq_true ok.l1, decide_eq_true ok.l2]
    rfl
def snOf : PyData → SN
  | .tuple [.str w, .int k] => if w = "const" then .con k.toNat else .inp k.toNat
  | .tuple [.str w, .int i, .int j] => if w = "sum" then .sum i.toNat j.toNat else if w = "product" then .prod i.toNat j.toNat else .scl i.toNat j.toNat
  | .tuple [.str _, .int i, .int j, .int l] => .cho i.toNat j.toNat l.toNat
  | _ => .inp 0
theorem snOf_snD {n : SN} : snOf (snD n) = n := by
  cases n with
  | con k =>
    show (if (Str.ofString "const") = (Str.ofString "const") then SN.con ((k : Int)).toNat else .inp ((k : Int)).toNat) = _
    rw [if_pos rfl]; rfl
  | inp i =>
    show (if (Str.ofString "input") = (Str.ofString "const") then SN.con ((i : Int)).toNat else .inp ((i : Int)).toNat) = _
    rw [if_neg (by decide)]; rfl
  | sum i j =>
    show (if (Str.ofString "sum") = (Str.ofString "sum") then SN.sum ((i : Int)).toNat ((j : Int)).toNat else if (Str.ofString "sum") = (Str.ofString "product") then .prod ((i : Int)).toNat ((j : Int)).toNat else .scl ((i : Int)).toNat ((j : Int)).toNat) = _
    rw [if_pos rfl]; rfl
  | prod i j =>
    show (if (Str.ofString "product") = (Str.ofString "sum") then SN.sum ((i : Int)).toNat ((j : Int)).toNat else if (Str.ofString "product") = (Str.ofString "product") then .prod ((i : Int)).toNat ((j : Int)).toNat else .scl ((i : Int)).toNat ((j : Int)).toNat) = _
    rw [if_neg (by decide), if_pos rfl]; rfl
  | scl i j =>
    show (if (Str.ofString "scaled") = (Str.ofString "sum") then SN.sum ((i : Int)).toNat ((j : Int)).toNat else if (Str.ofString "scaled") = (Str.ofString "product") then .prod ((i : Int)).toNat ((j : Int)).toNat else .scl ((i : Int)).toNat ((j : Int)).toNat) = _
    rw [if_neg (by decide), if_neg (by decide)]; rfl
  | cho i j l => rfl
theorem sns_inj {a b : List SN} (h : a.map snD = b.map snD) : a = b :=
  (List.map_inj_right fun x y hxy => by have := congrArg snOf hxy; rw [snOf_snD, snOf_snD] at this; exact this).mp h
theorem snEs_sh {b : SN} {m : Nat} : ∀ e, e ∈ snEs b → ShN m e := by
  have w1 : ShN m (.str "const") := ShN.str (by decide +kernel)
  have w2 : ShN m (.str "input") := ShN.str (by decide +kernel)
  have w3 : ShN m (.str "sum") := ShN.str (by decide +kernel)
  have w4 : ShN m (.str "product") := ShN.str (by decide +kernel)
  have w5 : ShN m (.str "scaled") := ShN.str (by decide +kernel)
  have w6 : ShN m (.str "choose") := ShN.str (by decide +kernel)
  cases b with
  | con k => exact sh_cons w1 (sh_cons .int sh_nil)
  | inp k => exact sh_cons w2 (sh_cons .int sh_nil)
  | sum i j => exact sh_cons w3 (sh_cons .int (sh_cons .int sh_nil))
  | prod i j => exact sh_cons w4 (sh_cons .int (sh_cons .int sh_nil))
  | scl i j => exact sh_cons w5 (sh_cons .int (sh_cons .int sh_nil))
  | cho i j l => exact sh_cons w6 (sh_cons .int (sh_cons .int (sh_cons .int sh_nil)))
theorem sns_sh {ns : List SN} {m : Nat} : ∀ e, e ∈ ns.map snD → ShN (m + 1) e := fun e he => by
  obtain ⟨b, _, rfl⟩ := List.mem_map.mp he
  exact ShN.tup snEs_sh
theorem sns_at {d : Addr} {H : Hp} : ∀ {xs : List V} {ns : List SN}, DAts d H xs (ns.map snD) → ∃ as : List Addr, xs = as.map V.ref ∧ as.length = ns.length ∧ ∀ (i : Nat) n a, ns[i]? = some n → as[i]? = some a → H a = some (.tup (snV n))
  | _, [], h => by cases h; exact ⟨[], rfl, rfl, fun i n a h _ => by simp at h⟩
  | _, n :: ns, h => by
    cases h with
    | cons h hs =>
      obtain ⟨a, rfl, ha⟩ := snD_at h
      obtain ⟨as, rfl, hl, hat⟩ := sns_at hs
      refine ⟨a :: as, rfl, congrArg (· + 1) hl, fun i m b h1 h2 => ?_⟩
      cases i with
      | zero => cases h1; cases h2; exact ha
      | succ i => exact hat i m b (by simpa using h1) (by simpa using h2)
theorem sns_dats {d : Addr} {H : Hp} {as : List Addr} {ns : List SN} (hl : as.length = ns.length) (h : ∀ (i : Nat) n a, ns[i]? = some n → as[i]? = some a → H a = some (.tup (snV n))) : DAts d H (as.map V.ref) (ns.map snD) := by
  refine DAts.of (by rw [List.length_map, List.length_map, hl]) fun i x e h1 h2 => ?_
  obtain ⟨a, ha, rfl⟩ := map_getR h1
  rw [List.getElem?_map] at h2
  cases hn : ns[i]? with
  | none => rw [hn] at h2; cases h2
  | some n => rw [hn] at h2; cases h2; exact sn_dat (h i n a hn ha)
/-- costs -/
def cost1 (cs : List Nat) : SN → Nat
  | .sum i j => cs.getD i 0 + cs.getD j 0
  | .prod i j => 2 * (cs.getD i 0 + cs.getD j 0)
  | .scl _ i => cs.getD i 0
  | .cho i j l => cs.getD l 0 + 2 * (cs.getD i 0 + cs.getD j 0 + cs.getD l 0)
  | _ => 1
def costsF (ns : List SN) : List Nat := scanF cost1 ns
theorem costs_snoc {ns : List SN} {n : SN} : costsF (ns ++ [n]) = costsF ns ++ [cost1 (costsF ns) n] := scanF_snoc
theorem costs_len {ns : List SN} : (costsF ns).length = ns.length := scanF_len
/-- the cost of the last node -/
def costF (ns : List SN) : Nat := (costsF ns).getD (ns.length - 1) 0
end Br

/-! ### values of sources, and what they need -/
namespace Br
open PySem PySem.Spec PyProof.Rows L2
def need1 : SN → Option Nat
  | .inp k => some (k + 1)
  | _ => none
def needL (ns : List SN) : List Nat := ns.filterMap need1
def needF (ns : List SN) : Nat := (needL ns).foldr max 0
theorem needL_snoc {ns : List SN} {n : SN} : needL (ns ++ [n]) = needL ns ++ (match need1 n with | some k => [k] | none => []) := by
  unfold needL
  rw [List.filterMap_append]
  cases h : need1 n with
  | none => simp [List.filterMap_cons, h]
  | some k => simp [List.filterMap_cons, h]
theorem needF_max {ls : List Nat} {m : Int} (h : (ls.map fun (c : Nat) => (c : Int)) = [] ∧ m = 0 ∨ m ∈ (ls.map fun (c : Nat) => (c : Int)) ∧ ∀ y, y ∈ (ls.map fun (c : Nat) => (c : Int)) → y ≤ m) : m = ((ls.foldr max 0 : Nat) : Int) := by
  obtain ⟨f1, f2, f3⟩ := foldr_max (cs := ls) (t := 0)
  rcases h with ⟨h, rfl⟩ | ⟨h, hle⟩
  · rw [List.map_eq_nil_iff.mp h]; rfl
  · obtain ⟨c, hc, rfl⟩ := List.mem_map.mp h
    have k1 := f2 c hc
    have k2 : ((ls.foldr max 0 : Nat) : Int) ≤ (c : Int) := by
      rcases f3 with f3 | f3
      · rw [f3]; omega
      · exact hle _ (List.mem_map.mpr ⟨_, f3, rfl⟩)
    omega
def val1 (gs vs : List Int) : SN → Int
  | .con c => (c : Int)
  | .inp k => gs.getD k 0
  | .sum i j => vs.getD i 0 + vs.getD j 0
  | .prod i j => vs.getD i 0 * vs.getD j 0
  | .scl c i => (c : Int) * vs.getD i 0
  | .cho i j l => vs.getD l 0 + vs.getD i 0 * (vs.getD j 0 - vs.getD l 0)
def valsF (m : Int) (gs : List Int) (ns : List SN) : List Int := scanF (fun acc n => val1 gs acc n % m) ns
def valF (m : Int) (gs : List Int) (ns : List SN) : Int := (valsF m gs ns).getD (ns.length - 1) 0
def SnIn (m b : Nat) : SN → Prop
  | .con _ => True
  | .inp k => k < b
  | .sum i j => i < m ∧ j < m
  | .prod i j => i < m ∧ j < m
  | .scl _ i => i < m
  | .cho i j l => i < m ∧ j < m ∧ l < m
theorem int_get {vs : List Int} {i : Nat} (h : i < vs.length) : (vs.map V.int)[i]? = some (.int (vs.getD i 0)) := by
  rw [List.getElem?_map, List.getElem?_eq_getElem h, List.getD_eq_getElem?_getD, List.getElem?_eq_getElem h]
  rfl
theorem rg_get {lo hi : Int} {xs : List Int} {i : Nat} (h : Rg lo hi xs) (hi2 : i < xs.length) : lo ≤ xs.getD i 0 ∧ xs.getD i 0 < hi := by
  rw [List.getD_eq_getElem?_getD, List.getElem?_eq_getElem hi2]
  exact h _ (List.getElem_mem hi2)
theorem vals_rg {m : Int} (hm : 0 < m) {gs : List Int} : ∀ ns : List SN, Rg 0 m (valsF m gs ns) := revRec (fun z hz => by simp [valsF, scanF] at hz) fun ns n ih z hz => by
  have e : valsF m gs (ns ++ [n]) = valsF m gs ns ++ [val1 gs (valsF m gs ns) n % m] := scanF_snoc
  rw [e] at hz
  rcases List.mem_append.mp hz with hz | hz
  · exact ih z hz
  · rw [List.mem_singleton.mp hz]
    exact ⟨Int.emod_nonneg _ (by omega), Int.emod_lt_of_pos _ hm⟩
theorem needF_le {ns : List SN} {k c : Nat} (h : ns[k]? = some (.inp c)) : c < needF ns := by
  have hm : c + 1 ∈ needL ns := List.mem_filterMap.mpr ⟨_, List.mem_of_getElem? h, rfl⟩
  exact (foldr_max (cs := needL ns) (t := 0)).2.1 _ hm
end Br

/-! ### compiled sources: the mathematics -/
namespace Br
open PySem PySem.Spec PyProof.Rows L2 Br.F
/-! ### compiled sources: the tasks, and what they do -/
/-- alike modulo m -/
def Cg (m a b : Int) : Prop := m ∣ a - b
theorem Cg.rfl' {m a : Int} : Cg m a a := ⟨0, by omega⟩
theorem Cg.symm {m a b : Int} (h : Cg m a b) : Cg m b a := by obtain ⟨k, h⟩ := h; exact ⟨-k, by rw [Int.mul_neg]; omega⟩
theorem Cg.trans {m a b c : Int} (h : Cg m a b) (g : Cg m b c) : Cg m a c := by
  obtain ⟨k, h⟩ := h; obtain ⟨l, g⟩ := g; exact ⟨k + l, by rw [Int.mul_add]; omega⟩
theorem Cg.add {m a b c d : Int} (h : Cg m a b) (g : Cg m c d) : Cg m (a + c) (b + d) := by
  obtain ⟨k, h⟩ := h; obtain ⟨l, g⟩ := g; exact ⟨k + l, by rw [Int.mul_add]; omega⟩
theorem Cg.mul {m a b c d : Int} (h : Cg m a b) (g : Cg m c d) : Cg m (a * c) (b * d) := by
  obtain ⟨k, h⟩ := h; obtain ⟨l, g⟩ := g
  refine ⟨k * c + b * l, ?_⟩
  have e1 : a = b + m * k := by omega
  have e2 : c = d + m * l := by omega
  subst e1; subst e2
  grind
theorem Cg.md {m a : Int} : Cg m (a % m) a := by
  have := Int.mul_ediv_add_emod a m
  exact ⟨-(a / m), by rw [Int.mul_neg]; omega⟩
theorem Cg.eq {m a b : Int} (h : Cg m a b) : a % m = b % m := by
  obtain ⟨k, h⟩ := h
  have e : a = b + m * k := by omega
  rw [e, Int.add_mul_emod_self_left]
theorem Cg.small {m a b : Int} (h : Cg m a b) (a0 : 0 ≤ b) (a1 : b < m) : a % m = b := by rw [h.eq, Int.emod_eq_of_lt a0 a1]
theorem Cg.of {m a b : Int} (h : a % m = b % m) : Cg m a b := by
  have h1 := Int.mul_ediv_add_emod a m
  have h2 := Int.mul_ediv_add_emod b m
  exact ⟨a / m - b / m, by rw [Int.mul_sub]; omega⟩
structure Tk where
  at_ : Nat
  t : Nat
  c : Int
  f : Option Nat
def fcV (mem : List Int) : Option Nat → Int
  | none => 1
  | some g => mem.getD g 0
def tkF (m : Int) (vs mem : List Int) (k : Tk) : List Int := mem.set k.t ((mem.getD k.t 0 + k.c * vs.getD k.at_ 0 * fcV mem k.f) % m)
def tksF (m : Int) (vs : List Int) (ks : List Tk) (mem : List Int) : List Int := ks.foldl (fun mem k => tkF m vs mem k) mem
theorem tksF_app {m : Int} {vs : List Int} {ks ls : List Tk} {mem : List Int} : tksF m vs (ks ++ ls) mem = tksF m vs ls (tksF m vs ks mem) := List.foldl_append ..
structure TkOk (n : Nat) (k : Tk) : Prop where
  lt : k.at_ < n
  t3 : k.t < 3
  f3 : ∀ g, k.f = some g → g < 3 ∧ g ≠ k.t
  c0 : -1000000000 ≤ k.c
  c1 : k.c ≤ 1000000000
def borF (t : Nat) (f : Option Nat) : Nat := if 0 ≠ t ∧ some 0 ≠ f then 0 else if 1 ≠ t ∧ some 1 ≠ f then 1 else 2
def partsF (t : Nat) (c : Int) (f : Option Nat) : SN → List Tk
  | .sum i j => [⟨i, t, c, f⟩, ⟨j, t, c, f⟩]
  | .prod i j => [⟨i, borF t f, 1, f⟩, ⟨j, t, c, some (borF t f)⟩, ⟨i, borF t f, -1, f⟩, ⟨j, t, -c, some (borF t f)⟩]
  | .cho i j l => [⟨l, t, c, f⟩, ⟨i, borF t f, 1, f⟩, ⟨j, t, c, some (borF t f)⟩, ⟨l, t, -c, some (borF t f)⟩,
      ⟨i, borF t f, -1, f⟩, ⟨j, t, -c, some (borF t f)⟩, ⟨l, t, c, some (borF t f)⟩]
  | _ => []
theorem borF_ok {t : Nat} {f : Option Nat} (h3 : t < 3) (hf : ∀ g, f = some g → g < 3 ∧ g ≠ t) : borF t f < 3 ∧ borF t f ≠ t ∧ some (borF t f) ≠ f := by
  unfold borF
  split
  · rename_i h; exact ⟨by omega, h.1, h.2⟩
  · split
    · rename_i h; exact ⟨by omega, h.1, h.2⟩
    · rename_i h0 h1
      have ne : ∀ i, ¬ (i ≠ t ∧ some i ≠ f) → i = t ∨ f = some i := fun i h => by
        by_cases e : i = t
        · exact .inl e
        · right
          by_cases e2 : some i = f
          · exact e2.symm
          · exact absurd ⟨e, e2⟩ h
      refine ⟨by omega, fun e => ?_, fun e => ?_⟩
      · have h0 := ne 0 h0
        have h1 := ne 1 h1
        rcases h0 with h0 | h0
        · omega
        · rcases h1 with h1 | h1
          · omega
          · rw [h0] at h1; cases h1
      · have e := e.symm
        have h0 := ne 0 h0
        have h1 := ne 1 h1
        rcases h0 with h0 | h0
        · rcases h1 with h1 | h1
          · omega
          · rw [e] at h1; cases h1
        · rw [e] at h0; cases h0
theorem sum_v {m x a b c F v : Int} (hv : Cg m v (a + b)) : ((x + c * a * F) % m + c * b * F) % m = (x + c * v * F) % m := by
  apply Cg.eq
  refine Cg.trans (Cg.add Cg.md Cg.rfl') ?_
  refine Cg.trans (b := x + c * (a + b) * F) ?_ (Cg.add Cg.rfl' (Cg.mul (Cg.mul Cg.rfl' hv.symm) Cg.rfl'))
  exact ⟨0, by grind⟩
theorem bor_v {m y a F : Int} (y0 : 0 ≤ y) (y1 : y < m) : ((y + 1 * a * F) % m + -1 * a * F) % m = y :=
  Cg.small (Cg.trans (Cg.add Cg.md Cg.rfl') ⟨0, by grind⟩) y0 y1
theorem prod_v {m x y a b c F v : Int} (hv : Cg m v (a * b)) : ((x + c * b * ((y + 1 * a * F) % m)) % m + -c * b * y) % m = (x + c * v * F) % m := by
  apply Cg.eq
  refine Cg.trans (Cg.add (Cg.trans Cg.md (Cg.add Cg.rfl' (Cg.mul Cg.rfl' Cg.md))) Cg.rfl') ?_
  refine Cg.trans (b := x + c * (a * b) * F) ?_ (Cg.add Cg.rfl' (Cg.mul (Cg.mul Cg.rfl' hv.symm) Cg.rfl'))
  exact ⟨0, by grind⟩
theorem cho_v {m x y a b l c F v : Int} (hv : Cg m v (l + a * (b - l))) : (((((x + c * l * F) % m + c * b * ((y + 1 * a * F) % m)) % m + -c * l * ((y + 1 * a * F) % m)) % m + -c * b * y) % m + c * l * y) % m = (x + c * v * F) % m := by
  apply Cg.eq
  refine Cg.trans (Cg.add (Cg.trans Cg.md (Cg.add (Cg.trans Cg.md (Cg.add (Cg.trans Cg.md (Cg.add Cg.md (Cg.mul Cg.rfl' Cg.md))) (Cg.mul Cg.rfl' Cg.md))) Cg.rfl')) Cg.rfl') ?_
  refine Cg.trans (b := x + c * (l + a * (b - l)) * F) ?_ (Cg.add Cg.rfl' (Cg.mul (Cg.mul Cg.rfl' hv.symm) Cg.rfl'))
  exact ⟨0, by grind⟩
theorem getD_set {xs : List Int} {i j : Nat} {z : Int} (hi : i < xs.length) : (xs.set i z).getD j 0 = if j = i then z else xs.getD j 0 := by
  rw [List.getD_eq_getElem?_getD, List.getD_eq_getElem?_getD, List.getElem?_set]
  by_cases e : i = j
  · subst e; rw [if_pos rfl, if_pos rfl, if_pos hi]; rfl
  · rw [if_neg e, if_neg (fun h => e h.symm)]
theorem mem_ext {xs ys : List Int} (hl : xs.length = ys.length) (h : ∀ i, i < xs.length → xs.getD i 0 = ys.getD i 0) : xs = ys := by
  apply List.ext_getElem hl
  intro i h1 h2
  have := h i h1
  rw [List.getD_eq_getElem?_getD, List.getD_eq_getElem?_getD, List.getElem?_eq_getElem h1, List.getElem?_eq_getElem h2] at this
  exact this
theorem tkF_len {m : Int} {vs mem : List Int} {k : Tk} : (tkF m vs mem k).length = mem.length := List.length_set ..
theorem tkF_get {m : Int} {vs mem : List Int} {k : Tk} {j : Nat} (h : k.t < mem.length) : (tkF m vs mem k).getD j 0 = if j = k.t then (mem.getD k.t 0 + k.c * vs.getD k.at_ 0 * fcV mem k.f) % m else mem.getD j 0 := getD_set h
theorem tksF_len {m : Int} {vs : List Int} : ∀ {ks : List Tk} {mem : List Int}, (tksF m vs ks mem).length = mem.length
  | [], _ => rfl
  | k :: ks, mem => (tksF_len (ks := ks) (mem := tkF m vs mem k)).trans tkF_len
theorem tkF_mem {m n : Nat} {vs mem : List Int} {k : Tk} (hm : 1 ≤ m) (h : Mem m n mem) : Mem m n (tkF m vs mem k) := h.set (Int.emod_nonneg _ (by omega)) (Int.emod_lt_of_pos _ (by omega))
/-- the parts of a node do what the node does -/
theorem parts_do {m : Nat} {vs mem : List Int} {n : SN} {base t : Nat} {c : Int} {f : Option Nat} (hm : 1 ≤ m) (hM : Mem m 3 mem) (ht : t < 3) (hf : ∀ g, f = some g → g < 3 ∧ g ≠ t)
    (hn : partsF t c f n ≠ []) (hv : Cg m (vs.getD base 0) (val1 [] vs n)) : tksF m vs (partsF t c f n) mem = tkF m vs mem ⟨base, t, c, f⟩ := by
  have hl := hM.len
  obtain ⟨b3, bt, bf⟩ := borF_ok ht hf
  have htl : t < mem.length := by omega
  have hbl : borF t f < mem.length := by omega
  have fk : ∀ (mm : List Int) (k : Tk), mm.length = 3 → (k.t = t ∨ k.t = borF t f) → (∀ g, f = some g → mm.getD g 0 = mem.getD g 0) → (∀ g, f = some g → (tkF m vs mm k).getD g 0 = mem.getD g 0) := fun mm k h3 hk h g hg => by
    rw [tkF_get (by omega)]
    have hgt := (hf g hg).2
    have hgb : g ≠ borF t f := fun e => bf (by rw [← e, hg])
    rw [if_neg (by rcases hk with hk | hk <;> rw [hk] <;> assumption)]
    exact h g hg
  have fv : ∀ mm : List Int, (∀ g, f = some g → mm.getD g 0 = mem.getD g 0) → fcV mm f = fcV mem f := fun mm h => by
    cases f with
    | none => rfl
    | some g => exact h g rfl
  have hy := hM.get b3
  obtain ⟨y, _, hy, y0, y1⟩ := hy
  refine mem_ext (by rw [tksF_len, tkF_len]) fun i hi => ?_
  rw [tksF_len] at hi
  rw [tkF_get htl]
  generalize hb : borF t f = b at *
  generalize hF : fcV mem f = F at *
  cases n with
  | con => exact absurd rfl hn
  | inp => exact absurd rfl hn
  | scl => exact absurd rfl hn
  | sum p q =>
    have hv : Cg m (vs.getD base 0) (vs.getD p 0 + vs.getD q 0) := hv
    show (tkF m vs (tkF m vs mem ⟨p, t, c, f⟩) ⟨q, t, c, f⟩).getD i 0 = _
    have f1 := fk mem ⟨p, t, c, f⟩ hl (.inl rfl) (fun _ _ => rfl)
    rw [tkF_get (by rw [tkF_len]; exact htl)]
    dsimp only
    by_cases e : i = t
    · rw [if_pos e, if_pos e, fv _ f1, tkF_get htl, if_pos rfl]
      dsimp only
      rw [hF]
      exact sum_v hv
    · rw [if_neg e, if_neg e, tkF_get htl, if_neg e]
  | prod p q =>
    have hv : Cg m (vs.getD base 0) (vs.getD p 0 * vs.getD q 0) := hv
    have e0 : partsF t c f (.prod p q) = [⟨p, b, 1, f⟩, ⟨q, t, c, some b⟩, ⟨p, b, -1, f⟩, ⟨q, t, -c, some b⟩] := by unfold partsF; rw [hb]
    rw [e0]
    show (tkF m vs (tkF m vs (tkF m vs (tkF m vs mem ⟨p, b, 1, f⟩) ⟨q, t, c, some b⟩) ⟨p, b, -1, f⟩) ⟨q, t, -c, some b⟩).getD i 0 = _
    have f1 := fk mem ⟨p, b, 1, f⟩ hl (.inr rfl) (fun _ _ => rfl)
    have g1 : ∀ j, (tkF m vs mem ⟨p, b, 1, f⟩).getD j 0 = if j = b then (y + 1 * vs.getD p 0 * F) % m else mem.getD j 0 := fun j => by rw [tkF_get (by exact hbl)]; simp only [hy, hF]
    have l1 : (tkF m vs mem ⟨p, b, 1, f⟩).length = 3 := by rw [tkF_len, hl]
    generalize tkF m vs mem ⟨p, b, 1, f⟩ = m1 at *
    have f2 := fk m1 ⟨q, t, c, some b⟩ l1 (.inl rfl) f1
    have g2 : ∀ j, (tkF m vs m1 ⟨q, t, c, some b⟩).getD j 0 = if j = t then (mem.getD t 0 + c * vs.getD q 0 * ((y + 1 * vs.getD p 0 * F) % m)) % m else m1.getD j 0 := fun j => by
      rw [tkF_get (by show t < _; omega)]
      simp only [fcV, g1, if_pos, if_neg (Ne.symm bt)]
    have l2 : (tkF m vs m1 ⟨q, t, c, some b⟩).length = 3 := by rw [tkF_len, l1]
    generalize tkF m vs m1 ⟨q, t, c, some b⟩ = m2 at *
    have f3 := fk m2 ⟨p, b, -1, f⟩ l2 (.inr rfl) f2
    have g3 : ∀ j, (tkF m vs m2 ⟨p, b, -1, f⟩).getD j 0 = if j = b then y else m2.getD j 0 := fun j => by
      rw [tkF_get (by show b < _; omega)]
      simp only [fv _ f2, hF, g2, g1, if_neg bt, if_pos]
      by_cases e : j = b
      · rw [if_pos e, if_pos e]; exact bor_v y0 y1
      · simp only [if_neg e]
    have l3 : (tkF m vs m2 ⟨p, b, -1, f⟩).length = 3 := by rw [tkF_len, l2]
    generalize tkF m vs m2 ⟨p, b, -1, f⟩ = m3 at *
    rw [tkF_get (by show t < _; omega)]
    simp only [fcV, g3, g2, g1, if_pos, if_neg (Ne.symm bt)]
    by_cases e : i = t
    · rw [if_pos e, if_pos e]; exact prod_v hv
    · by_cases e2 : i = b
      · simp only [if_neg e, if_pos e2]; rw [e2, hy]
      · simp only [if_neg e, if_neg e2]
  | cho p q l =>
    have hv : Cg m (vs.getD base 0) (vs.getD l 0 + vs.getD p 0 * (vs.getD q 0 - vs.getD l 0)) := hv
    have e0 : partsF t c f (.cho p q l) = [⟨l, t, c, f⟩, ⟨p, b, 1, f⟩, ⟨q, t, c, some b⟩, ⟨l, t, -c, some b⟩, ⟨p, b, -1, f⟩, ⟨q, t, -c, some b⟩, ⟨l, t, c, some b⟩] := by unfold partsF; rw [hb]
    rw [e0]
    show (tkF m vs (tkF m vs (tkF m vs (tkF m vs (tkF m vs (tkF m vs (tkF m vs mem ⟨l, t, c, f⟩) ⟨p, b, 1, f⟩) ⟨q, t, c, some b⟩) ⟨l, t, -c, some b⟩) ⟨p, b, -1, f⟩) ⟨q, t, -c, some b⟩) ⟨l, t, c, some b⟩).getD i 0 = _
    have f0 := fk mem ⟨l, t, c, f⟩ hl (.inl rfl) (fun _ _ => rfl)
    have g0 : ∀ j, (tkF m vs mem ⟨l, t, c, f⟩).getD j 0 = if j = t then (mem.getD t 0 + c * vs.getD l 0 * F) % m else mem.getD j 0 := fun j => by rw [tkF_get (by exact htl)]; simp only [hF]
    have l0 : (tkF m vs mem ⟨l, t, c, f⟩).length = 3 := by rw [tkF_len, hl]
    generalize tkF m vs mem ⟨l, t, c, f⟩ = m0 at *
    have f1 := fk m0 ⟨p, b, 1, f⟩ l0 (.inr rfl) f0
    have g1 : ∀ j, (tkF m vs m0 ⟨p, b, 1, f⟩).getD j 0 = if j = b then (y + 1 * vs.getD p 0 * F) % m else m0.getD j 0 := fun j => by
      rw [tkF_get (by show b < _; omega)]
      simp only [fv _ f0, hF, g0, if_neg bt, hy]
    have l1 : (tkF m vs m0 ⟨p, b, 1, f⟩).length = 3 := by rw [tkF_len, l0]
    generalize tkF m vs m0 ⟨p, b, 1, f⟩ = m1 at *
    have f2 := fk m1 ⟨q, t, c, some b⟩ l1 (.inl rfl) f1
    have g2 : ∀ j, (tkF m vs m1 ⟨q, t, c, some b⟩).getD j 0 = if j = t then ((mem.getD t 0 + c * vs.getD l 0 * F) % m + c * vs.getD q 0 * ((y + 1 * vs.getD p 0 * F) % m)) % m else m1.getD j 0 := fun j => by
      rw [tkF_get (by show t < _; omega)]
      simp only [fcV, g1, g0, if_pos, if_neg (Ne.symm bt)]
    have l2 : (tkF m vs m1 ⟨q, t, c, some b⟩).length = 3 := by rw [tkF_len, l1]
    generalize tkF m vs m1 ⟨q, t, c, some b⟩ = m2 at *
    have f3 := fk m2 ⟨l, t, -c, some b⟩ l2 (.inl rfl) f2
    have g3 : ∀ j, (tkF m vs m2 ⟨l, t, -c, some b⟩).getD j 0 = if j = t then (((mem.getD t 0 + c * vs.getD l 0 * F) % m + c * vs.getD q 0 * ((y + 1 * vs.getD p 0 * F) % m)) % m + -c * vs.getD l 0 * ((y + 1 * vs.getD p 0 * F) % m)) % m else m1.getD j 0 := fun j => by
      rw [tkF_get (by show t < _; omega)]
      simp only [fcV, g2, g1, if_pos, if_neg bt]
      by_cases e : j = t
      · rw [if_pos e, if_pos e]
      · rw [if_neg e, if_neg e, if_neg e]
    have l3 : (tkF m vs m2 ⟨l, t, -c, some b⟩).length = 3 := by rw [tkF_len, l2]
    generalize tkF m vs m2 ⟨l, t, -c, some b⟩ = m3 at *
    have f4 := fk m3 ⟨p, b, -1, f⟩ l3 (.inr rfl) f3
    have g4 : ∀ j, (tkF m vs m3 ⟨p, b, -1, f⟩).getD j 0 = if j = b then y else m3.getD j 0 := fun j => by
      rw [tkF_get (by show b < _; omega)]
      simp only [fv _ f3, hF, g3, g1, if_neg bt, if_pos]
      by_cases e : j = b
      · rw [if_pos e, if_pos e]; exact bor_v y0 y1
      · simp only [if_neg e]
    have l4 : (tkF m vs m3 ⟨p, b, -1, f⟩).length = 3 := by rw [tkF_len, l3]
    generalize tkF m vs m3 ⟨p, b, -1, f⟩ = m4 at *
    have g5 : ∀ j, (tkF m vs m4 ⟨q, t, -c, some b⟩).getD j 0 = if j = t then ((((mem.getD t 0 + c * vs.getD l 0 * F) % m + c * vs.getD q 0 * ((y + 1 * vs.getD p 0 * F) % m)) % m + -c * vs.getD l 0 * ((y + 1 * vs.getD p 0 * F) % m)) % m + -c * vs.getD q 0 * y) % m else m4.getD j 0 := fun j => by
      rw [tkF_get (by show t < _; omega)]
      simp only [fcV, g4, g3, if_pos, if_neg (Ne.symm bt)]
    have l5 : (tkF m vs m4 ⟨q, t, -c, some b⟩).length = 3 := by rw [tkF_len, l4]
    generalize tkF m vs m4 ⟨q, t, -c, some b⟩ = m5 at *
    rw [tkF_get (by show t < _; omega)]
    simp only [fcV, g5, g4, g3, g1, g0, if_pos, if_neg bt]
    by_cases e : i = t
    · rw [if_pos e, if_pos e]; exact cho_v hv
    · by_cases e2 : i = b
      · simp only [if_neg e, if_pos e2]; rw [e2, hy]
      · simp only [if_neg e, if_neg e2]
/-! ### nodes behind scaling, and the tasks that are left -/
theorem getD_take {α : Type} {xs : List α} {i j : Nat} {d : α} (h : j < i) : (xs.take i).getD j d = xs.getD j d := by
  rw [List.getD_eq_getElem?_getD, List.getD_eq_getElem?_getD, List.getElem?_take, if_pos h]
theorem scanF_get {α β : Type} {f : List β → α → β} {ns : List α} : ∀ {i : Nat} {n : α}, ns[i]? = some n → (scanF f ns)[i]? = some (f ((scanF f ns).take i) n) := by
  refine revRec (P := fun ns => ∀ {i : Nat} {n : α}, ns[i]? = some n → (scanF f ns)[i]? = some (f ((scanF f ns).take i) n)) (fun h => by simp at h) (fun ns n ih => ?_) ns
  intro i x h
  rw [scanF_snoc]
  have hl : (scanF f ns).length = ns.length := scanF_len
  by_cases hi : i < ns.length
  · rw [List.getElem?_append_left hi] at h
    rw [List.getElem?_append_left (by omega), ih h, List.take_append_of_le_length (by omega)]
  · have hi2 : i = ns.length := by
      have := (List.getElem?_eq_some_iff.mp h).1
      simp at this
      omega
    subst hi2
    rw [List.getElem?_append_right (Nat.le_refl _), Nat.sub_self] at h
    cases h
    rw [← hl, List.getElem?_append_right (Nat.le_refl _), Nat.sub_self, List.take_append_of_le_length (Nat.le_refl _), List.take_length]
    rfl
theorem scanF_getD {α β : Type} {f : List β → α → β} {ns : List α} {i : Nat} {n : α} {d : β} (h : ns[i]? = some n) : (scanF f ns).getD i d = f ((scanF f ns).take i) n := by
  rw [List.getD_eq_getElem?_getD, scanF_get h]; rfl
theorem costs_at {ns : List SN} (ok : SsOk ns) {i : Nat} {n : SN} (h : ns[i]? = some n) : (costsF ns).getD i 0 = cost1 (costsF ns) n := by
  have hn := ok.ok i n h
  unfold costsF
  rw [scanF_getD h]
  cases n with
  | con => rfl
  | inp => rfl
  | sum p q => show (_ : List Nat).getD p 0 + (_ : List Nat).getD q 0 = _; rw [getD_take hn.1, getD_take hn.2]; rfl
  | prod p q => show 2 * ((_ : List Nat).getD p 0 + (_ : List Nat).getD q 0) = _; rw [getD_take hn.1, getD_take hn.2]; rfl
  | scl c p => show (_ : List Nat).getD p 0 = _; rw [getD_take hn.2]; rfl
  | cho p q l => show (_ : List Nat).getD l 0 + 2 * ((_ : List Nat).getD p 0 + (_ : List Nat).getD q 0 + (_ : List Nat).getD l 0) = _; rw [getD_take hn.1, getD_take hn.2.1, getD_take hn.2.2]; rfl
theorem vals_at {m : Int} {gs : List Int} {ns : List SN} (ok : SsOk ns) {i : Nat} {n : SN} (h : ns[i]? = some n) : (valsF m gs ns).getD i 0 = val1 gs (valsF m gs ns) n % m := by
  have hn := ok.ok i n h
  unfold valsF
  rw [scanF_getD h]
  cases n with
  | con => rfl
  | inp => rfl
  | sum p q => show ((_ : List Int).getD p 0 + (_ : List Int).getD q 0) % m = _; rw [getD_take hn.1, getD_take hn.2]; rfl
  | prod p q => show ((_ : List Int).getD p 0 * (_ : List Int).getD q 0) % m = _; rw [getD_take hn.1, getD_take hn.2]; rfl
  | scl c p => show ((c : Int) * (_ : List Int).getD p 0) % m = _; rw [getD_take hn.2]; rfl
  | cho p q l => show ((_ : List Int).getD l 0 + (_ : List Int).getD p 0 * ((_ : List Int).getD q 0 - (_ : List Int).getD l 0)) % m = _; rw [getD_take hn.1, getD_take hn.2.1, getD_take hn.2.2]; rfl
theorem cost_pos {ns : List SN} (ok : SsOk ns) : ∀ {i : Nat}, i < ns.length → 1 ≤ (costsF ns).getD i 0 := by
  intro i
  induction i using Nat.strongRecOn with
  | ind i ih =>
    intro hi
    have h := List.getElem?_eq_getElem hi
    have hn := ok.ok i _ h
    rw [costs_at ok h]
    generalize ns[i] = n at *
    cases n with
    | con => exact Nat.le_refl 1
    | inp => exact Nat.le_refl 1
    | sum p q =>
      have := ih p hn.1 (by have := hn.1; omega)
      show 1 ≤ (costsF ns).getD p 0 + (costsF ns).getD q 0
      omega
    | prod p q =>
      have := ih p hn.1 (by have := hn.1; omega)
      show 1 ≤ 2 * ((costsF ns).getD p 0 + (costsF ns).getD q 0)
      omega
    | scl c p => exact ih p hn.2 (by have := hn.2; omega)
    | cho p q l =>
      have := ih l hn.2.2 (by have := hn.2.2; omega)
      show 1 ≤ (costsF ns).getD l 0 + 2 * ((costsF ns).getD p 0 + (costsF ns).getD q 0 + (costsF ns).getD l 0)
      omega
def base1 (m : Int) (bs : List (Nat × Int)) : SN → Nat × Int
  | .scl c i => ((bs.getD i (0, 0)).1, (bs.getD i (0, 0)).2 * (c : Int) % m)
  | _ => (bs.length, 1)
def basesF (m : Int) (ns : List SN) : List (Nat × Int) := scanF (base1 m) ns
def isScl : SN → Bool
  | .scl _ _ => true
  | _ => false
structure BasAt (m : Nat) (ns : List SN) (i b : Nat) (s : Int) (n : SN) : Prop where
  e : (basesF m ns).getD i (0, 0) = (b, s)
  le : b ≤ i
  nd : ns[b]? = some n
  nsc : isScl n = false
  s0 : 0 ≤ s
  s1 : s ≤ 1000000000
  co : (costsF ns).getD i 0 = cost1 (costsF ns) n
  va : ∀ gs, Cg m ((valsF m gs ns).getD i 0) (s * (valsF m gs ns).getD b 0)
theorem bases_at {m : Nat} {ns : List SN} (m1 : 1 ≤ m) (m9 : m ≤ 1000000000) (ok : SsOk ns) : ∀ {i : Nat}, i < ns.length → ∃ b s n, BasAt m ns i b s n := by
  intro i
  induction i using Nat.strongRecOn with
  | ind i ih =>
    intro hi
    have h := List.getElem?_eq_getElem hi
    have hn := ok.ok i _ h
    have hc := costs_at ok h
    have hv := fun gs => vals_at (m := m) (gs := gs) ok h
    have hb : (basesF m ns).getD i (0, 0) = base1 m ((basesF m ns).take i) ns[i] := scanF_getD h
    have hbl : ((basesF (m : Int) ns).take i).length = i := by
      rw [List.length_take]
      have : (basesF (m : Int) ns).length = ns.length := scanF_len
      omega
    have own : ∀ n, ns[i]? = some n → isScl n = false → (basesF (m : Int) ns).getD i (0, 0) = (i, 1) → (costsF ns).getD i 0 = cost1 (costsF ns) n → ∃ b s n, BasAt m ns i b s n := fun n h1 h2 h3 h4 =>
      ⟨i, 1, n, h3, Nat.le_refl _, h1, h2, by decide, by decide, h4, fun gs => by rw [Int.one_mul]; exact Cg.rfl'⟩
    generalize hne : ns[i] = n at *
    cases n with
    | con => exact own _ h rfl (by rw [hb]; show (_, _) = _; rw [hbl]) hc
    | inp => exact own _ h rfl (by rw [hb]; show (_, _) = _; rw [hbl]) hc
    | sum p q => exact own _ h rfl (by rw [hb]; show (_, _) = _; rw [hbl]) hc
    | prod p q => exact own _ h rfl (by rw [hb]; show (_, _) = _; rw [hbl]) hc
    | cho p q l => exact own _ h rfl (by rw [hb]; show (_, _) = _; rw [hbl]) hc
    | scl c p =>
      obtain ⟨b, s, n, hB⟩ := ih p hn.2 (by have := hn.2; omega)
      have hp := hn.2
      have e1 : (basesF (m : Int) ns).getD i (0, 0) = (b, s * (c : Int) % m) := by
        rw [hb]
        show ((((basesF (m : Int) ns).take i).getD p (0, 0)).1, (((basesF (m : Int) ns).take i).getD p (0, 0)).2 * (c : Int) % m) = _
        rw [getD_take hp, hB.e]
      have s9 := Int.emod_lt_of_pos (s * (c : Int)) (show (0 : Int) < m by omega)
      refine ⟨b, _, n, e1, by have := hB.le; omega, hB.nd, hB.nsc, Int.emod_nonneg _ (by omega), by omega, by rw [hc, ← hB.co]; rfl, fun gs => ?_⟩
      rw [hv gs]
      refine Cg.trans Cg.md ?_
      refine Cg.trans (b := (c : Int) * (s * (valsF m gs ns).getD b 0)) (Cg.mul Cg.rfl' (hB.va gs)) ?_
      refine Cg.trans (b := (s * (c : Int)) * (valsF m gs ns).getD b 0) ⟨0, by grind⟩ (Cg.mul Cg.md.symm Cg.rfl')
def facsF : Option Nat → List Fac
  | none => []
  | some g => [.cell g]
def isAdd : Stp → Bool
  | .add _ _ _ => true
  | _ => false
def tkCost (ns : List SN) (k : Tk) : Nat := (costsF ns).getD k.at_ 0
def tksCost (ns : List SN) (T : List Tk) : Nat := (T.map (tkCost ns)).sum
/-- the steps so far and the tasks that are left (the next one last) -/
structure Cmp (m : Nat) (ns : List SN) (i : Nat) (S : List Stp) (T : List Tk) : Prop where
  sok : ∀ s, s ∈ S → StpOk m 3 i s ∧ isAdd s = true
  tok : ∀ k, k ∈ T → TkOk ns.length k
  len : S.length + tksCost ns T = costF ns
  eff : ∀ gs mem, Mem m i gs → Mem m 3 mem → tksF m (valsF m gs ns) T.reverse (runF m gs S mem) = mem.set 0 ((mem.getD 0 0 + valF m gs ns) % m)
theorem tksCost_app {ns : List SN} {T U : List Tk} : tksCost ns (T ++ U) = tksCost ns T + tksCost ns U := by
  unfold tksCost; rw [List.map_append, List.sum_append]
theorem tksCost_rev {ns : List SN} {T : List Tk} : tksCost ns T.reverse = tksCost ns T := by
  induction T with
  | nil => rfl
  | cons k T ih => rw [List.reverse_cons, tksCost_app, ih]; show _ + (tkCost ns k + 0) = tkCost ns k + tksCost ns T; omega
theorem Cmp.init {m i : Nat} {ns : List SN} (ok : SsOk ns) : Cmp m ns i [] [⟨ns.length - 1, 0, 1, none⟩] where
  sok := fun s h => by simp at h
  tok := fun k h => by
    rw [List.mem_singleton.mp h]
    exact ⟨(by have := ok.l1; show ns.length - 1 < ns.length; omega), (by show 0 < 3; decide), (fun g hg => by cases hg), (by show (-1000000000 : Int) ≤ 1; decide), (by show (1 : Int) ≤ 1000000000; decide)⟩
  len := by show 0 + (tkCost ns _ + 0) = _; rw [Nat.zero_add]; rfl
  eff := fun gs mem _ hM => by
    show mem.set 0 ((mem.getD 0 0 + 1 * (valsF m gs ns).getD (ns.length - 1) 0 * 1) % m) = _
    rw [Int.one_mul, Int.mul_one]; rfl
theorem Cmp.pop {m i : Nat} {ns : List SN} {S : List Stp} {T : List Tk} {k : Tk} (h : Cmp m ns i S (T ++ [k])) : TkOk ns.length k ∧ S.length + tksCost ns T + tkCost ns k = costF ns := by
  refine ⟨h.tok k (List.mem_append_right _ List.mem_cons_self), ?_⟩
  have := h.len
  rw [tksCost_app] at this
  have e : tksCost ns [k] = tkCost ns k := by show _ + 0 = _; omega
  omega
theorem rev_snoc {T : List Tk} {k : Tk} : (T ++ [k]).reverse = k :: T.reverse := by rw [List.reverse_append]; rfl
theorem coef_ok {m : Nat} {c : Int} (m1 : 1 ≤ m) : 0 ≤ c % m ∧ c % m < m := ⟨Int.emod_nonneg _ (by omega), Int.emod_lt_of_pos _ (by omega)⟩
/-- a task by the node behind scaling -/
theorem base_do {m : Nat} {ns : List SN} {gs mem : List Int} {k : Tk} {b : Nat} {s : Int} {n : SN} (hB : BasAt m ns k.at_ b s n) :
    tkF m (valsF m gs ns) mem k = tkF m (valsF m gs ns) mem ⟨b, k.t, k.c * s % m, k.f⟩ := by
  unfold tkF
  dsimp only
  congr 1
  apply Cg.eq
  refine Cg.add Cg.rfl' (Cg.mul ?_ Cg.rfl')
  refine Cg.trans (Cg.mul Cg.rfl' (hB.va gs)) ?_
  refine Cg.trans (b := k.c * s * (valsF m gs ns).getD b 0) ⟨0, by grind⟩ (Cg.mul (Cg.md (a := k.c * s)).symm Cg.rfl')
theorem facs_v {mem inp : List Int} {f : Option Nat} : prodV mem inp (facsF f) = fcV mem f := by
  cases f with
  | none => rfl
  | some g => show mem.getD g 0 * 1 = mem.getD g 0; rw [Int.mul_one]
theorem facs_v2 {mem inp : List Int} {f : Option Nat} {k : Nat} : prodV mem inp (facsF f ++ [.inp k]) = fcV mem f * inp.getD k 0 := by
  cases f with
  | none => show inp.getD k 0 * 1 = 1 * inp.getD k 0; rw [Int.mul_one, Int.one_mul]
  | some g => show mem.getD g 0 * (inp.getD k 0 * 1) = mem.getD g 0 * inp.getD k 0; rw [Int.mul_one]
theorem facs_ok {n i : Nat} {k : Tk} (h : TkOk n k) : ∀ f, f ∈ facsF k.f → FacOk 3 i k.t f := fun f hf => by
  cases hk : k.f with
  | none => rw [hk] at hf; simp [facsF] at hf
  | some g =>
    rw [hk] at hf
    have : f = .cell g := by simpa [facsF] using hf
    rw [this]
    exact h.f3 g hk
theorem facs_len {f : Option Nat} : (facsF f).length ≤ 1 := by cases f <;> simp [facsF]
theorem Cmp.con {m i : Nat} {ns : List SN} {S : List Stp} {T : List Tk} {k : Tk} {b c : Nat} {s : Int} (m1 : 1 ≤ m) (ok : SsOk ns) (h : Cmp m ns i S (T ++ [k])) (hB : BasAt m ns k.at_ b s (.con c)) :
    Cmp m ns i (S ++ [.add k.t (k.c * s % m * (c : Int) % m) (facsF k.f)]) T := by
  obtain ⟨hk, hlen⟩ := h.pop
  refine ⟨fun x hx => ?_, fun x hx => h.tok x (List.mem_append_left _ hx), ?_, fun gs mem hg hM => ?_⟩
  · rcases List.mem_append.mp hx with hx | hx
    · exact h.sok x hx
    · rw [List.mem_singleton.mp hx]
      exact ⟨⟨hk.t3, (coef_ok m1).1, (coef_ok m1).2, Nat.le_trans facs_len (by decide), facs_ok hk⟩, rfl⟩
  · have e : tkCost ns k = 1 := hB.co
    rw [List.length_append]
    show S.length + 1 + _ = _
    omega
  · have e := h.eff gs mem hg hM
    rw [rev_snoc] at e
    rw [← e, runF_snoc]
    show _ = tksF m (valsF m gs ns) T.reverse (tkF m (valsF m gs ns) (runF m gs S mem) k)
    congr 1
    rw [base_do hB]
    have hv : (valsF m gs ns).getD b 0 = (c : Int) % m := vals_at ok hB.nd
    unfold tkF
    dsimp only [stepF]
    congr 1
    rw [hv, facs_v]
    apply Cg.eq
    refine Cg.add Cg.rfl' (Cg.mul ?_ Cg.rfl')
    exact Cg.trans Cg.md (Cg.mul Cg.rfl' Cg.md.symm)
theorem Cmp.inp {m i : Nat} {ns : List SN} {S : List Stp} {T : List Tk} {k : Tk} {b c : Nat} {s : Int} (m1 : 1 ≤ m) (ok : SsOk ns) (hi : ∀ (j : Nat) (c : Nat), ns[j]? = some (SN.inp c) → c < i) (h : Cmp m ns i S (T ++ [k])) (hB : BasAt m ns k.at_ b s (.inp c)) :
    Cmp m ns i (S ++ [.add k.t (k.c * s % m) (facsF k.f ++ [.inp c])]) T := by
  obtain ⟨hk, hlen⟩ := h.pop
  refine ⟨fun x hx => ?_, fun x hx => h.tok x (List.mem_append_left _ hx), ?_, fun gs mem hg hM => ?_⟩
  · rcases List.mem_append.mp hx with hx | hx
    · exact h.sok x hx
    · rw [List.mem_singleton.mp hx]
      refine ⟨⟨hk.t3, (coef_ok m1).1, (coef_ok m1).2, ?_, fun f hf => ?_⟩, rfl⟩
      · rw [List.length_append]
        have := facs_len (f := k.f)
        show _ + 1 ≤ 3
        omega
      · rcases List.mem_append.mp hf with hf | hf
        · exact facs_ok hk f hf
        · rw [List.mem_singleton.mp hf]
          exact hi b c hB.nd
  · have e : tkCost ns k = 1 := hB.co
    rw [List.length_append]
    show S.length + 1 + _ = _
    omega
  · have e := h.eff gs mem hg hM
    rw [rev_snoc] at e
    rw [← e, runF_snoc]
    show _ = tksF m (valsF m gs ns) T.reverse (tkF m (valsF m gs ns) (runF m gs S mem) k)
    congr 1
    rw [base_do hB]
    have hv : (valsF m gs ns).getD b 0 = gs.getD c 0 % m := vals_at ok hB.nd
    unfold tkF
    dsimp only [stepF]
    congr 1
    rw [hv, facs_v2]
    apply Cg.eq
    refine Cg.add Cg.rfl' ?_
    refine Cg.trans (b := k.c * s % m * (gs.getD c 0) * fcV (runF m gs S mem) k.f) ⟨0, by grind⟩ (Cg.mul (Cg.mul Cg.rfl' Cg.md.symm) Cg.rfl')
theorem parts_ok {ns : List SN} (ok : SsOk ns) {b : Nat} {n : SN} (hb : ns[b]? = some n) {t : Nat} {c : Int} {f : Option Nat} (ht : t < 3) (hf : ∀ g, f = some g → g < 3 ∧ g ≠ t) (c0 : 0 ≤ c) (c1 : c < 1000000000) : ∀ k, k ∈ partsF t c f n → TkOk ns.length k := by
  have hn := ok.ok b n hb
  have hbl := (List.getElem?_eq_some_iff.mp hb).1
  obtain ⟨b3, bt, bf⟩ := borF_ok ht hf
  have A : ∀ p d, p < b → -1000000000 ≤ d → d ≤ 1000000000 → TkOk ns.length ⟨p, t, d, f⟩ := fun p d h1 h2 h3 => ⟨by show p < _; omega, ht, hf, h2, h3⟩
  have B : ∀ p d, p < b → -1000000000 ≤ d → d ≤ 1000000000 → TkOk ns.length ⟨p, borF t f, d, f⟩ := fun p d h1 h2 h3 => ⟨by show p < _; omega, b3, fun g hg => ⟨(hf g hg).1, fun e => bf (by have e : g = borF t f := e; have hg : f = some g := hg; rw [← e, ← hg])⟩, h2, h3⟩
  have D : ∀ p d, p < b → -1000000000 ≤ d → d ≤ 1000000000 → TkOk ns.length ⟨p, t, d, some (borF t f)⟩ := fun p d h1 h2 h3 => ⟨by show p < _; omega, ht, fun g hg => by cases hg; exact ⟨b3, bt⟩, h2, h3⟩
  intro k hk
  cases n with
  | con => simp [partsF] at hk
  | inp => simp [partsF] at hk
  | scl => simp [partsF] at hk
  | sum p q =>
    have hk : k = ⟨p, t, c, f⟩ ∨ k = ⟨q, t, c, f⟩ := by simpa [partsF] using hk
    rcases hk with rfl | rfl
    · exact A _ _ hn.1 (by omega) (by omega)
    · exact A _ _ hn.2 (by omega) (by omega)
  | prod p q =>
    have hk : k = ⟨p, borF t f, 1, f⟩ ∨ k = ⟨q, t, c, some (borF t f)⟩ ∨ k = ⟨p, borF t f, -1, f⟩ ∨ k = ⟨q, t, -c, some (borF t f)⟩ := by simpa [partsF] using hk
    rcases hk with rfl | rfl | rfl | rfl
    · exact B _ _ hn.1 (by omega) (by omega)
    · exact D _ _ hn.2 (by omega) (by omega)
    · exact B _ _ hn.1 (by omega) (by omega)
    · exact D _ _ hn.2 (by omega) (by omega)
  | cho p q l =>
    have hk : k = ⟨l, t, c, f⟩ ∨ k = ⟨p, borF t f, 1, f⟩ ∨ k = ⟨q, t, c, some (borF t f)⟩ ∨ k = ⟨l, t, -c, some (borF t f)⟩ ∨ k = ⟨p, borF t f, -1, f⟩ ∨ k = ⟨q, t, -c, some (borF t f)⟩ ∨ k = ⟨l, t, c, some (borF t f)⟩ := by simpa [partsF] using hk
    rcases hk with rfl | rfl | rfl | rfl | rfl | rfl | rfl
    · exact A _ _ hn.2.2 (by omega) (by omega)
    · exact B _ _ hn.1 (by omega) (by omega)
    · exact D _ _ hn.2.1 (by omega) (by omega)
    · exact D _ _ hn.2.2 (by omega) (by omega)
    · exact B _ _ hn.1 (by omega) (by omega)
    · exact D _ _ hn.2.1 (by omega) (by omega)
    · exact D _ _ hn.2.2 (by omega) (by omega)
def isLeaf : SN → Bool
  | .con _ => true
  | .inp _ => true
  | _ => false
theorem parts_cost {ns : List SN} {n : SN} {t : Nat} {c : Int} {f : Option Nat} (h1 : isScl n = false) (h2 : isLeaf n = false) : tksCost ns (partsF t c f n) = cost1 (costsF ns) n ∧ 2 ≤ (partsF t c f n).length ∧ (partsF t c f n).length ≤ 7 := by
  cases n with
  | con => cases h2
  | inp => cases h2
  | scl => cases h1
  | sum p q => exact ⟨by simp [partsF, tksCost, tkCost, cost1], Nat.le_refl 2, by show 2 ≤ 7; decide⟩
  | prod p q => exact ⟨by simp [partsF, tksCost, tkCost, cost1]; omega, by show 2 ≤ 4; decide, by show 4 ≤ 7; decide⟩
  | cho p q l => exact ⟨by simp [partsF, tksCost, tkCost, cost1]; omega, by show 2 ≤ 7; decide, Nat.le_refl 7⟩
theorem Cmp.node {m i : Nat} {ns : List SN} {S : List Stp} {T : List Tk} {k : Tk} {b : Nat} {s : Int} {n : SN} (m1 : 1 ≤ m) (m9 : m ≤ 1000000000) (ok : SsOk ns) (h : Cmp m ns i S (T ++ [k])) (hB : BasAt m ns k.at_ b s n) (hn : isLeaf n = false) :
    Cmp m ns i S (T ++ (partsF k.t (k.c * s % m) k.f n).reverse) := by
  obtain ⟨hk, hlen⟩ := h.pop
  obtain ⟨pc, p2, _⟩ := parts_cost (ns := ns) (t := k.t) (c := k.c * s % m) (f := k.f) hB.nsc hn
  have cc := coef_ok (c := k.c * s) m1
  have po := parts_ok ok hB.nd (c := k.c * s % m) hk.t3 hk.f3 cc.1 (by omega)
  refine ⟨h.sok, fun x hx => ?_, ?_, fun gs mem hg hM => ?_⟩
  · rcases List.mem_append.mp hx with hx | hx
    · exact h.tok x (List.mem_append_left _ hx)
    · exact po x (List.mem_reverse.mp hx)
  · have e : tkCost ns k = cost1 (costsF ns) n := hB.co
    rw [tksCost_app, tksCost_rev, pc]
    omega
  · have e := h.eff gs mem hg hM
    rw [rev_snoc] at e
    rw [← e, List.reverse_append, List.reverse_reverse, tksF_app]
    show _ = tksF m (valsF m gs ns) T.reverse (tkF m (valsF m gs ns) (runF m gs S mem) k)
    congr 1
    rw [base_do hB]
    have hrun : Mem m 3 (runF m gs S mem) := runF_mem m1 hM fun s hs => (h.sok s hs).1
    refine parts_do m1 hrun hk.t3 hk.f3 (fun e => by rw [e] at p2; simp at p2) ?_
    rw [vals_at ok hB.nd]
    refine Cg.trans Cg.md ?_
    cases n with
    | con => cases hn
    | inp => cases hn
    | _ => exact Cg.rfl'
/-- what a compiled program is -/
structure CompOk (m : Nat) (ns : List SN) (i : Nat) (S : List Stp) : Prop where
  len : S.length = costF ns
  ok : ∀ s, s ∈ S → StpOk m 3 i s
  add : ∀ s, s ∈ S → isAdd s = true
  eff : ∀ gs mem, Mem m i gs → Mem m 3 mem → runF m gs S mem = mem.set 0 ((mem.getD 0 0 + valF m gs ns) % m)
theorem Cmp.done {m i : Nat} {ns : List SN} {S : List Stp} (h : Cmp m ns i S []) : CompOk m ns i S :=
  ⟨by have := h.len; have e : tksCost ns [] = 0 := rfl; omega, fun s hs => (h.sok s hs).1, fun s hs => (h.sok s hs).2, fun gs mem hg hM => h.eff gs mem hg hM⟩
/-- how long it still takes -/
def tksM (ns : List SN) (T : List Tk) : Nat := 2 * tksCost ns T - T.length
theorem tks_len {ns : List SN} (ok : SsOk ns) : ∀ {T : List Tk}, (∀ k, k ∈ T → TkOk ns.length k) → T.length ≤ tksCost ns T
  | [], _ => Nat.le_refl _
  | k :: T, h => by
    have h1 := tks_len ok (T := T) fun x hx => h x (List.mem_cons_of_mem _ hx)
    have h2 := cost_pos ok (h k List.mem_cons_self).lt
    show T.length + 1 ≤ (costsF ns).getD k.at_ 0 + tksCost ns T
    omega
theorem tksM_pop {m i : Nat} {ns : List SN} {S : List Stp} {T : List Tk} {k : Tk} (ok : SsOk ns) (h : Cmp m ns i S (T ++ [k])) : tksM ns T < tksM ns (T ++ [k]) := by
  have h1 := tks_len ok (T := T) fun x hx => h.tok x (List.mem_append_left _ hx)
  have h2 := cost_pos ok h.pop.1.lt
  unfold tksM
  rw [tksCost_app, List.length_append]
  have e : tksCost ns [k] = (costsF ns).getD k.at_ 0 := by show _ + 0 = _; rfl
  show _ < 2 * (tksCost ns T + tksCost ns [k]) - (T.length + 1)
  omega
theorem tksM_node {m i : Nat} {ns : List SN} {S : List Stp} {T : List Tk} {k : Tk} {b : Nat} {s : Int} {n : SN} (ok : SsOk ns) (h : Cmp m ns i S (T ++ [k])) (hB : BasAt m ns k.at_ b s n) (hn : isLeaf n = false) :
    tksM ns (T ++ (partsF k.t (k.c * s % m) k.f n).reverse) < tksM ns (T ++ [k]) := by
  have h1 := tks_len ok (T := T) fun x hx => h.tok x (List.mem_append_left _ hx)
  obtain ⟨pc, p2, p7⟩ := parts_cost (ns := ns) (t := k.t) (c := k.c * s % m) (f := k.f) hB.nsc hn
  have e : tksCost ns [k] = cost1 (costsF ns) n := by show _ + 0 = _; rw [Nat.add_zero]; exact hB.co
  have h2 := cost_pos ok h.pop.1.lt
  have h3 : tkCost ns k = cost1 (costsF ns) n := hB.co
  unfold tksM
  rw [tksCost_app, tksCost_app, tksCost_rev, pc, e, List.length_append, List.length_append, List.length_reverse]
  show 2 * _ - (T.length + _) < 2 * _ - (T.length + 1)
  unfold tkCost at h3
  omega
theorem Cmp.most {m i : Nat} {ns : List SN} {S : List Stp} {T : List Tk} (ok : SsOk ns) (h : Cmp m ns i S T) : S.length + T.length ≤ costF ns ∧ tksM ns T ≤ 2 * costF ns := by
  have h1 := tks_len ok h.tok
  have h2 := h.len
  unfold tksM
  omega
end Br

/-! ### not in, a tuple of data; tasks as tuples -/
namespace L2
open PySem PySem.Spec PyProof.Rows
section
variable {X : Cx}
def rNotInT (K : PySem.W.Frag) : R2 := fun x y H Q => ∃ d ds, Dp K H x d ∧ Dp K H y (.tuple ds) ∧ (d.canLay0 = true ∧ d.depth ≤ 60) ∧ PyData.canLayAll0 ds = true ∧ Q (.bl (!ds.any fun z => PyData.eqv z d)) H
theorem op_notInT (hu : X.A.units + 64 < cLine) : OpR X (compareOp .NotIn) (rNotInT X.K) := by
  intro pins s σ H x y v u Q I rx ry h
  obtain ⟨d, ds, hd, he, ⟨sd, sd2⟩, se, q⟩ := h
  obtain ⟨as, r1⟩ := Dp.reads I d x v hd rx
  obtain ⟨bs, r2⟩ := Dp.reads I (.tuple ds) y u he ry
  exact SeqAt.notIn_tuple_reads r2 r1 se sd (by omega) ⟨.bl _, H, I, rfl, q⟩
end
end L2
namespace Br
open PySem PySem.Spec PyProof.Rows L2 Br.F
def FcAt (H : Hp) (a : Addr) : Option Nat → Prop
  | none => H a = some (.tup [])
  | some g => ∃ b, H a = some (.tup [.ref b]) ∧ H b = some (.tup [.str "cell", .int (g : Int)])
theorem FcAt.tups {H H' : Hp} {a : Addr} {f : Option Nat} (h : FcAt H a f) (s : Tups H H') : FcAt H' a f := by
  cases f with
  | none => exact s _ _ h
  | some g =>
    obtain ⟨b, h1, h2⟩ := h
    exact ⟨b, s _ _ h1, s _ _ h2⟩
def fcD : Option Nat → List PyData
  | none => []
  | some g => [.tuple [.str "cell", .int (g : Int)]]
theorem cellD_sh {m : Nat} {i : Int} : ShN (m + 1) (.tuple [.str "cell", .int i]) := ShN.tup (sh_cons (ShN.str (by decide +kernel)) (sh_cons .int sh_nil))
theorem fcD_sh {f : Option Nat} {m : Nat} : ShN (m + 2) (.tuple (fcD f)) := by
  cases f with
  | none => exact ShN.tup sh_nil
  | some g => exact ShN.tup (sh_cons cellD_sh sh_nil)
theorem FcAt.dat {d : Addr} {H : Hp} {a : Addr} {f : Option Nat} (h : FcAt H a f) : DAt d H (.ref a) (.tuple (fcD f)) := by
  cases f with
  | none => exact .tup h .nil
  | some g =>
    obtain ⟨b, h1, h2⟩ := h
    exact .tup h1 (.cons (.tup h2 (.cons (.str _) (.cons (.int _) .nil))) .nil)
theorem fcD_in {f : Option Nat} {i : Nat} : ((fcD f).any fun z => PyData.eqv z (.tuple [.str "cell", .int (i : Int)])) = decide (f = some i) := by
  cases f with
  | none => rfl
  | some g =>
    show (PyData.eqv (.tuple [.str "cell", .int (g : Int)]) (.tuple [.str "cell", .int (i : Int)]) || false) = _
    rw [Bool.or_false]
    by_cases e : g = i
    · subst e
      rw [decide_eq_true rfl]
      simp [PyData.eqv, PyData.eqvAll]
    · rw [decide_eq_false (fun h => e (Option.some.inj h))]
      simp [PyData.eqv, PyData.eqvAll]
      omega
def TkAt (H : Hp) (a : Addr) (k : Tk) : Prop := ∃ f, H a = some (.tup [.int (k.at_ : Int), .int (k.t : Int), .int k.c, .ref f]) ∧ FcAt H f k.f
theorem TkAt.tups {H H' : Hp} {a : Addr} {k : Tk} (h : TkAt H a k) (s : Tups H H') : TkAt H' a k := by
  obtain ⟨f, h1, h2⟩ := h
  exact ⟨f, s _ _ h1, h2.tups s⟩
def TksAt (H : Hp) (as : List Addr) (ts : List Tk) : Prop := as.length = ts.length ∧ ∀ (i : Nat) x b, ts[i]? = some x → as[i]? = some b → TkAt H b x
theorem TksAt.tups {H H' : Hp} {as : List Addr} {ts : List Tk} (h : TksAt H as ts) (s : Tups H H') : TksAt H' as ts := ⟨h.1, fun i x b e1 e2 => (h.2 i x b e1 e2).tups s⟩
theorem TksAt.nil {H : Hp} : TksAt H [] [] := ⟨rfl, fun i x b h _ => by simp at h⟩
theorem TksAt.cons {H : Hp} {as : List Addr} {ts : List Tk} {b : Addr} {x : Tk} (hx : TkAt H b x) (h : TksAt H as ts) : TksAt H (b :: as) (x :: ts) := by
  refine ⟨congrArg (· + 1) h.1, fun i y c e1 e2 => ?_⟩
  cases i with
  | zero => cases e1; cases e2; exact hx
  | succ i => exact h.2 i y c (by simpa using e1) (by simpa using e2)
theorem TksAt.app {H : Hp} : ∀ {as bs : List Addr} {ts us : List Tk}, TksAt H as ts → TksAt H bs us → TksAt H (as ++ bs) (ts ++ us)
  | [], _, [], _, _, h => h
  | [], _, t :: ts, _, h, _ => by have := h.1; simp at this
  | a :: as, _, [], _, h, _ => by have := h.1; simp at this
  | a :: as, _, t :: ts, _, h, h2 => by
    refine TksAt.cons (h.2 0 t a rfl rfl) (TksAt.app ⟨by have := h.1; simpa using this, fun i x b e1 e2 => h.2 (i + 1) x b (by simpa using e1) (by simpa using e2)⟩ h2)
theorem TksAt.rev {H : Hp} : ∀ {as : List Addr} {ts : List Tk}, TksAt H as ts → TksAt H as.reverse ts.reverse
  | [], [], h => h
  | [], t :: ts, h => by have := h.1; simp at this
  | a :: as, [], h => by have := h.1; simp at this
  | a :: as, t :: ts, h => by
    rw [List.reverse_cons, List.reverse_cons]
    exact TksAt.app (TksAt.rev ⟨by have := h.1; simpa using this, fun i x b e1 e2 => h.2 (i + 1) x b (by simpa using e1) (by simpa using e2)⟩) (TksAt.cons (h.2 0 t a rfl rfl) TksAt.nil)
/-- the last one -/
theorem TksAt.last {H : Hp} {as : List Addr} {ts : List Tk} (h : TksAt H as ts) (hn : as ≠ []) : ∃ bs us b k, as = bs ++ [b] ∧ ts = us ++ [k] ∧ TksAt H bs us ∧ TkAt H b k := by
  have hl := h.1
  have ht : ts ≠ [] := fun e => by rw [e] at hl; exact hn (List.eq_nil_of_length_eq_zero hl)
  refine ⟨as.dropLast, ts.dropLast, as.getLast hn, ts.getLast ht, (List.dropLast_concat_getLast hn).symm, (List.dropLast_concat_getLast ht).symm, ⟨by rw [List.length_dropLast, List.length_dropLast, hl], fun i x b e1 e2 => ?_⟩, ?_⟩
  · have h1 := (List.getElem?_eq_some_iff.mp e1).1
    have h2 := (List.getElem?_eq_some_iff.mp e2).1
    rw [List.length_dropLast] at h1 h2
    rw [List.getElem?_dropLast] at e1 e2
    rw [if_pos (by omega)] at e1 e2
    exact h.2 i x b e1 e2
  · refine h.2 (as.length - 1) _ _ ?_ ?_
    · rw [hl, List.getLast_eq_getElem]
      exact List.getElem?_eq_getElem _
    · rw [List.getLast_eq_getElem]
      exact List.getElem?_eq_getElem _
theorem tk_put {H0 H : Hp} {as : List Addr} {ts : List Tk} {p f : Addr} {i t : Nat} {c : Int} {g : Option Nat} (s : Same H0 H) (hT : TksAt H as ts) (hp : H p = none) (hf : FcAt H f g) :
    Same H0 (upd H p (.tup [.int (i : Int), .int (t : Int), .int c, .ref f])) ∧ TksAt (upd H p (.tup [.int (i : Int), .int (t : Int), .int c, .ref f])) (as ++ [p]) (ts ++ [⟨i, t, c, g⟩]) := by
  have s1 := same_upd (o := .tup [.int (i : Int), .int (t : Int), .int c, .ref f]) hp
  exact ⟨s.trans s1, (hT.tups (Tups.same s1)).app (TksAt.cons ⟨f, upd_same, hf.tups (Tups.same s1)⟩ TksAt.nil)⟩
def BasL (H : Hp) (as : List Addr) (bs : List (Nat × Int)) : Prop := as.length = bs.length ∧ ∀ (i : Nat) x b, bs[i]? = some x → as[i]? = some b → H b = some (.tup [.int (x.1 : Int), .int x.2])
theorem BasL.tups {H H' : Hp} {as : List Addr} {bs : List (Nat × Int)} (h : BasL H as bs) (s : Tups H H') : BasL H' as bs := ⟨h.1, fun i x b e1 e2 => s _ _ (h.2 i x b e1 e2)⟩
theorem BasL.nil {H : Hp} : BasL H [] [] := ⟨rfl, fun i x b h _ => by simp at h⟩
theorem BasL.snoc {H : Hp} {as : List Addr} {bs : List (Nat × Int)} {b : Addr} {x : Nat × Int} (h : BasL H as bs) (hx : H b = some (.tup [.int (x.1 : Int), .int x.2])) : BasL H (as ++ [b]) (bs ++ [x]) := by
  refine ⟨by rw [List.length_append, List.length_append, h.1]; rfl, fun i y c e1 e2 => ?_⟩
  rcases snoc_at rfl e1 with ⟨h1, e1⟩ | ⟨h1, rfl⟩
  · rcases snoc_at rfl e2 with ⟨h2, e2⟩ | ⟨h2, rfl⟩
    · exact h.2 i y c e1 e2
    · have := h.1; omega
  · rcases snoc_at rfl e2 with ⟨h2, e2⟩ | ⟨h2, rfl⟩
    · have := h.1; omega
    · exact hx
theorem BasL.get {H : Hp} {as : List Addr} {bs : List (Nat × Int)} (h : BasL H as bs) {i : Nat} (hi : i < bs.length) : ∃ b, as[i]? = some b ∧ H b = some (.tup [.int (((bs.getD i (0, 0)).1 : Nat) : Int), .int (bs.getD i (0, 0)).2]) := by
  have ha : i < as.length := by rw [h.1]; exact hi
  refine ⟨as[i], List.getElem?_eq_getElem ha, ?_⟩
  rw [List.getD_eq_getElem?_getD, List.getElem?_eq_getElem hi]
  exact h.2 i _ _ (List.getElem?_eq_getElem hi) (List.getElem?_eq_getElem ha)
theorem x_gTup4 {K : PySem.W.Frag} {σ : L2.St} {H : Hp} {p : Addr} {x y z u : V} {i j k l : Nat} {R : L2.St → Hp → Prop} (hp : SqT K H p [x, y, z, u]) (h : R ((((σ.set i (some x)).set j (some y)).set k (some z)).set l (some u)) H) : gTup K 4 (gCons (gName i) (gCons (gName j) (gCons (gName k) (gCons (gName l) gNil)))) (.ref p) σ H R :=
  ⟨p, [x, y, z, u], rfl, hp, rfl, x, [y, z, u], rfl, y, [z, u], rfl, z, [u], rfl, u, [], rfl, rfl, h⟩
def FacsAt (H : Hp) (as : List Addr) (fs : List Fac) : Prop := as.length = fs.length ∧ ∀ (i : Nat) x b, fs[i]? = some x → as[i]? = some b → FacAt H b x
theorem FacsAt.tups {H H' : Hp} {as : List Addr} {fs : List Fac} (h : FacsAt H as fs) (s : Tups H H') : FacsAt H' as fs := ⟨h.1, fun i x b e1 e2 => (h.2 i x b e1 e2).tups s⟩
theorem FacsAt.snoc {H : Hp} {as : List Addr} {bs : List Fac} {b : Addr} {x : Fac} (h : FacsAt H as bs) (hx : FacAt H b x) : FacsAt H (as ++ [b]) (bs ++ [x]) := by
  refine ⟨by rw [List.length_append, List.length_append, h.1]; rfl, fun i y c e1 e2 => ?_⟩
  rcases snoc_at rfl e1 with ⟨h1, e1⟩ | ⟨h1, rfl⟩
  · rcases snoc_at rfl e2 with ⟨h2, e2⟩ | ⟨h2, rfl⟩
    · exact h.2 i y c e1 e2
    · have := h.1; omega
  · rcases snoc_at rfl e2 with ⟨h2, e2⟩ | ⟨h2, rfl⟩
    · have := h.1; omega
    · exact hx
theorem FcAt.facs {H : Hp} {a : Addr} {f : Option Nat} (h : FcAt H a f) : ∃ as : List Addr, H a = some (.tup (as.map V.ref)) ∧ FacsAt H as (facsF f) ∧ as.length ≤ 1 := by
  cases f with
  | none => exact ⟨[], h, ⟨rfl, fun i x b e _ => by simp [facsF] at e⟩, by decide⟩
  | some g =>
    obtain ⟨b, h1, h2⟩ := h
    exact ⟨[b], h1, FacsAt.snoc (as := []) (bs := []) ⟨rfl, fun i x b e _ => by simp at e⟩ h2, Nat.le_refl 1⟩
theorem FacsAt.stp {H : Hp} {a f : Addr} {as : List Addr} {fs : List Fac} {t : Nat} {c : Int} (h : FacsAt H as fs) (hf : H f = some (.tup (as.map V.ref))) (ha : H a = some (.tup [.str "add", .int (t : Int), .int c, .ref f])) : StpAt H a (.add t c fs) := ⟨f, as, ha, hf, h.1, h.2⟩
/-- the lists of the loop: nodes behind scaling, steps, tasks -/
structure LoopAt (H H' : Hp) (pb ps pt : Addr) (bas sas tas : List Addr) (B : List (Nat × Int)) (S : List Stp) (T : List Tk) : Prop where
  same : Same H H'
  hb : H' pb = some (.lst (bas.map V.ref))
  B : BasL H' bas B
  e : H' ps = some (.lst (sas.map V.ref))
  st : StpsAt H' sas S
  t : H' pt = some (.lst (tas.map V.ref))
  tk : TksAt H' tas T
theorem LoopAt.next {H H1 H2 : Hp} {pb ps pt : Addr} {bas sas tas : List Addr} {B : List (Nat × Int)} {S : List Stp} {T : List Tk} (h : LoopAt H H1 pb ps pt bas sas tas B S T) (s : Same H1 H2) : LoopAt H H2 pb ps pt bas sas tas B S T :=
  ⟨h.same.trans s, s _ _ h.hb, h.B.tups (Tups.same s), s _ _ h.e, h.st.tups (Tups.same s), s _ _ h.t, h.tk.tups (Tups.same s)⟩
theorem LoopAt.step {H H1 : Hp} {pb ps pt : Addr} {bas sas tas : List Addr} {B : List (Nat × Int)} {S : List Stp} {T : List Tk} (h : LoopAt H H1 pb ps pt bas sas tas B S T) (h0 : H ps = none) (n1 : pb ≠ ps) (n2 : ps ≠ pt) {r : Addr} {x : Stp} (hx : StpAt H1 r x) :
    LoopAt H (upd H1 ps (.lst (sas.map V.ref ++ [.ref r]))) pb ps pt bas (sas ++ [r]) tas B (S ++ [x]) T := by
  have u : Tups H1 (upd H1 ps (.lst (sas.map V.ref ++ [.ref r]))) := (Tups.refl _).put (no_tupL h.e)
  exact ⟨Same.put h.same h0, by rw [upd_ne n1]; exact h.hb, h.B.tups u, by rw [upd_same, List.map_append]; rfl, (h.st.tups u).snoc (hx.tups u), by rw [upd_ne n2.symm]; exact h.t, h.tk.tups u⟩
theorem LoopAt.push {H H1 : Hp} {pb ps pt : Addr} {bas sas tas : List Addr} {B : List (Nat × Int)} {S : List Stp} {T : List Tk} (h : LoopAt H H1 pb ps pt bas sas tas B S T) (h0 : H pt = none) (n1 : pb ≠ pt) (n2 : ps ≠ pt) {bs : List Addr} {us : List Tk} (hx : TksAt H1 bs us) :
    LoopAt H (upd H1 pt (.lst (tas.map V.ref ++ bs.map V.ref))) pb ps pt bas sas (tas ++ bs) B S (T ++ us) := by
  have u : Tups H1 (upd H1 pt (.lst (tas.map V.ref ++ bs.map V.ref))) := (Tups.refl _).put (no_tupL h.t)
  exact ⟨Same.put h.same h0, by rw [upd_ne n1]; exact h.hb, h.B.tups u, by rw [upd_ne n2]; exact h.e, h.st.tups u, by rw [upd_same, List.map_append], (h.tk.tups u).app (hx.tups u)⟩
theorem LoopAt.pop {H H1 : Hp} {pb ps pt : Addr} {bas sas tas : List Addr} {B : List (Nat × Int)} {S : List Stp} {T : List Tk} {b : Addr} {k : Tk} (h : LoopAt H H1 pb ps pt bas sas (tas ++ [b]) B S (T ++ [k])) (h0 : H pt = none) (n1 : pb ≠ pt) (n2 : ps ≠ pt) (hl : tas.length = T.length) :
    LoopAt H (upd H1 pt (.lst ((tas ++ [b]).map V.ref).dropLast)) pb ps pt bas sas tas B S T ∧ TkAt (upd H1 pt (.lst ((tas ++ [b]).map V.ref).dropLast)) b k := by
  have u : Tups H1 (upd H1 pt (.lst ((tas ++ [b]).map V.ref).dropLast)) := (Tups.refl _).put (no_tupL h.t)
  have hk : TkAt H1 b k := h.tk.2 T.length k b (by rw [List.getElem?_append_right (Nat.le_refl _), Nat.sub_self]; rfl) (by rw [← hl, List.getElem?_append_right (Nat.le_refl _), Nat.sub_self]; rfl)
  have ht : TksAt H1 tas T := ⟨hl, fun i x c e1 e2 => h.tk.2 i x c (by rw [List.getElem?_append_left (List.getElem?_eq_some_iff.mp e1).1]; exact e1) (by rw [List.getElem?_append_left (List.getElem?_eq_some_iff.mp e2).1]; exact e2)⟩
  exact ⟨⟨Same.put h.same h0, by rw [upd_ne n1]; exact h.hb, h.B.tups u, by rw [upd_ne n2]; exact h.e, h.st.tups u, by rw [upd_same, List.map_append]; simp, ht.tups u⟩, hk.tups u⟩
theorem x_revL2 {K : PySem.W.Frag} {te : TE} {σ : L2.St} {H : Hp} {Q : VK} (h : te σ H fun x H1 => ∃ a xs, x = .ref a ∧ SqL K H1 a xs ∧ ∀ p, H1 p = none → Q (.ref p) (upd H1 p (.lst xs.reverse))) : tRevL K te σ H Q := h
end Br

/-! ### gates of a source's program on a longer list of bits -/
namespace Br
open PySem PySem.Spec PyProof.Rows L2 Br.F
theorem getD_appL {xs ys : List Bool} {c : Nat} (h : c < xs.length) : (xs ++ ys).getD c false = xs.getD c false := by
  rw [List.getD_eq_getElem?_getD, List.getD_eq_getElem?_getD, List.getElem?_append_left h]
theorem all_congrB {cs : List Nat} {f g : Nat → Bool} (h : ∀ c, c ∈ cs → f c = g c) : cs.all f = cs.all g := by
  induction cs with
  | nil => rfl
  | cons c cs ih =>
    rw [List.all_cons, List.all_cons, h c List.mem_cons_self, ih fun x hx => h x (List.mem_cons_of_mem _ hx)]
theorem perfG_long {n : Nat} {xs ys : List Bool} {g : Gt} (ok : GtOk n g) (hn : n ≤ xs.length) : perfG (xs ++ ys) g = perfG xs g ++ ys := by
  have ht : g.1 < xs.length := Nat.lt_of_lt_of_le ok.t hn
  have e : g.2.all (fun c => (xs ++ ys).getD c false) = g.2.all (fun c => xs.getD c false) := all_congrB fun c hc => getD_appL (Nat.lt_of_lt_of_le (ok.c c hc) hn)
  unfold perfG
  rw [e]
  split
  · rw [getD_appL ht, List.set_append_left _ _ ht]
  · rfl
theorem perfF_long {n : Nat} {ys : List Bool} : ∀ {gs : List Gt} {xs : List Bool}, (∀ g, g ∈ gs → GtOk n g) → n ≤ xs.length → perfF gs (xs ++ ys) = perfF gs xs ++ ys
  | [], _, _, _ => rfl
  | g :: gs, xs, ok, hn => by
    show perfF gs (perfG (xs ++ ys) g) = perfF gs (perfG xs g) ++ ys
    rw [perfG_long (ok g List.mem_cons_self) hn]
    exact perfF_long (fun x hx => ok x (List.mem_cons_of_mem _ hx)) (by rw [perfG_len]; exact hn)
def b2i (b : Bool) : Int := if b then 1 else 0
theorem bitF_b2i : ∀ bs : List Bool, bitF (bs.map b2i) = bs
  | [] => rfl
  | b :: bs => by
    have ih := bitF_b2i bs
    show decide (b2i b = 1) :: bitF (bs.map b2i) = b :: bs
    rw [ih]
    cases b <;> rfl
theorem b2i_rg (bs : List Bool) : Rg 0 ((2 : Nat) : Int) (bs.map b2i) := fun z hz => by
  obtain ⟨b, _, rfl⟩ := List.mem_map.mp hz
  cases b <;> exact ⟨by decide, by decide⟩
theorem bitF_app {xs ys : List Int} : bitF (xs ++ ys) = bitF xs ++ bitF ys := by unfold bitF; rw [List.map_append]
def dueB (bs : List Bool) (k : Nat) (v : Int) : List Bool := if v = 1 then bs.set k (!bs.getD k false) else bs
theorem source_gates {i : Nat} {ns : List SN} {S : List Stp} {gs : List Gt} {bs : List Bool} (hco : CompOk 2 ns i S) (h1 : 1 ≤ ns.length) (hA : GtsAll i S gs) (hl : i + 3 ≤ bs.length) : perfF gs bs = dueB bs i (valF ((2 : Nat) : Int) ((bs.take i).map b2i) ns) := by
  have okG := hA.oks hco.ok
  have mi : Mem 2 i ((bs.take i).map b2i) := ⟨by rw [List.length_map, List.length_take]; omega, b2i_rg _⟩
  have mm : Mem 2 3 (((bs.drop i).take 3).map b2i) := ⟨by rw [List.length_map, List.length_take, List.length_drop]; omega, b2i_rg _⟩
  have hrun := hA.run hco.ok mm mi
  rw [hco.eff _ _ mi mm] at hrun
  have hv : 0 ≤ valF ((2 : Nat) : Int) ((bs.take i).map b2i) ns ∧ valF ((2 : Nat) : Int) ((bs.take i).map b2i) ns < ((2 : Nat) : Int) := by
    have hll : (valsF ((2 : Nat) : Int) ((bs.take i).map b2i) ns).length = ns.length := by unfold valsF; rw [scanF_len]
    exact rg_get (vals_rg (by decide) ns) (by omega)
  generalize valF ((2 : Nat) : Int) ((bs.take i).map b2i) ns = v at hrun hv
  have hsplit : bs = bitF ((bs.take i).map b2i ++ ((bs.drop i).take 3).map b2i) ++ bs.drop (i + 3) := by
    rw [bitF_app, bitF_b2i, bitF_b2i, List.append_assoc]
    have e1 : (bs.drop i).take 3 ++ bs.drop (i + 3) = bs.drop i := by
      rw [← List.drop_drop]
      exact List.take_append_drop 3 (bs.drop i)
    rw [e1, List.take_append_drop]
  have hlen : (bitF ((bs.take i).map b2i ++ ((bs.drop i).take 3).map b2i)).length = i + 3 := by rw [bitF_len, List.length_append, mi.len, mm.len]
  have hbit : bs.getD i false = decide ((((bs.drop i).take 3).map b2i).getD 0 0 = 1) := by
    conv => lhs; rw [hsplit]
    rw [getD_appL (by omega), bitF_get]
    have := app_getR (iv := (bs.take i).map b2i) (mv := ((bs.drop i).take 3).map b2i) (k := 0)
    rw [mi.len, Nat.add_zero] at this
    rw [this]
  obtain ⟨z, gz, ez, z0, z1⟩ := mm.get (show 0 < 3 by decide)
  rw [ez] at hbit hrun
  have hres : perfF gs bs = bs.set i (decide ((z + v) % ((2 : Nat) : Int) = 1)) := by
    conv => lhs; rw [hsplit]
    rw [perfF_long okG (by omega), hrun, app_setR, bitF_set, mi.len, Nat.add_zero, ← List.set_append_left _ _ (by omega), ← hsplit]
  rw [hres]
  unfold dueB
  rcases two_val hv.1 hv.2 with rfl | rfl
  · rw [if_neg (by decide), Int.add_zero, Int.emod_eq_of_lt z0 z1, ← hbit]
    apply List.ext_getElem?
    intro j
    by_cases hj : i = j
    · subst hj
      have hi : i < bs.length := by omega
      rw [List.getElem?_set_self hi, List.getD_eq_getElem?_getD, List.getElem?_eq_getElem hi]
      rfl
    · rw [List.getElem?_set_ne hj]
  · rw [if_pos rfl, hbit]
    rcases two_val z0 z1 with rfl | rfl <;> rfl
theorem cut_dropS {xs : List V} {n : Nat} : cutV xs (some (n : Int)) none = xs.drop n := by
  unfold cutV
  rw [HT.sIx_nat]
  show (xs.drop (min n xs.length)).take (xs.length - min n xs.length) = xs.drop n
  by_cases h : n ≤ xs.length
  · rw [Nat.min_eq_left h, List.take_of_length_le (by rw [List.length_drop]; omega)]
  · rw [Nat.min_eq_right (by omega), List.drop_length, List.drop_of_length_le (by omega), List.take_nil]
end Br









namespace Br
open PySem PySem.Spec PyProof.Rows L2
def topS (i : Nat) : Stmt := PySem.Challenge.pw_brimful_k36_whole_sources_on_borrowed_bi.main.body.getD i (.Pass ⟨0, 0, 0, 0⟩)
abbrev s_are_bits : Stmt := topS 3
abbrev N_are_bits : List Str := ["values", "least", "value"]
theorem sc_are_bits : FnScope N_are_bits ["values", "least"] (defScope s_are_bits) := ⟨rfl, rfl, rfl, by decide +kernel, rfl, by decide +kernel, by decide +kernel⟩
abbrev s_is_below : Stmt := topS 13
abbrev N_is_below : List Str := ["value", "bound"]
theorem sc_is_below : FnScope N_is_below ["value", "bound"] (defScope s_is_below) := ⟨rfl, rfl, rfl, by decide +kernel, rfl, by decide +kernel, by decide +kernel⟩
abbrev s_is_modulus : Stmt := topS 14
abbrev N_is_modulus : List Str := ["value"]
theorem sc_is_modulus : FnScope N_is_modulus ["value"] (defScope s_is_modulus) := ⟨rfl, rfl, rfl, by decide +kernel, rfl, by decide +kernel, by decide +kernel⟩
abbrev s_is_prime : Stmt := topS 15
abbrev N_is_prime : List Str := ["n", "divisor"]
theorem sc_is_prime : FnScope N_is_prime ["n"] (defScope s_is_prime) := ⟨rfl, rfl, rfl, by decide +kernel, rfl, by decide +kernel, by decide +kernel⟩
abbrev s_perform : Stmt := topS 20
abbrev N_perform : List Str := ["gates", "bits", "behind", "target", "controls", "control", "gate"]
theorem sc_perform : FnScope N_perform ["gates", "bits"] (defScope s_perform) := ⟨rfl, rfl, rfl, by decide +kernel, rfl, by decide +kernel, by decide +kernel⟩
abbrev s_are_gates : Stmt := topS 21
abbrev N_are_gates : List Str := ["gates", "gate"]
theorem sc_are_gates : FnScope N_are_gates ["gates"] (defScope s_are_gates) := ⟨rfl, rfl, rfl, by decide +kernel, rfl, by decide +kernel, by decide +kernel⟩
abbrev s_is_gate : Stmt := topS 22
abbrev N_is_gate : List Str := ["gate", "target", "controls"]
theorem sc_is_gate : FnScope N_is_gate ["gate"] (defScope s_is_gate) := ⟨rfl, rfl, rfl, by decide +kernel, rfl, by decide +kernel, by decide +kernel⟩
abbrev s_is_bit : Stmt := topS 23
abbrev N_is_bit : List Str := ["value"]
theorem sc_is_bit : FnScope N_is_bit ["value"] (defScope s_is_bit) := ⟨rfl, rfl, rfl, by decide +kernel, rfl, by decide +kernel, by decide +kernel⟩
abbrev s_are_rising : Stmt := topS 24
abbrev N_are_rising : List Str := ["controls", "last", "control"]
theorem sc_are_rising : FnScope N_are_rising ["controls"] (defScope s_are_rising) := ⟨rfl, rfl, rfl, by decide +kernel, rfl, by decide +kernel, by decide +kernel⟩
abbrev s_bits_touched : Stmt := topS 25
abbrev N_bits_touched : List Str := ["gate", "target", "controls"]
theorem sc_bits_touched : FnScope N_bits_touched ["gate"] (defScope s_bits_touched) := ⟨rfl, rfl, rfl, by decide +kernel, rfl, by decide +kernel, by decide +kernel⟩
abbrev s_spread : Stmt := topS 26
abbrev N_spread : List Str := ["target", "controls", "borrowed", "turned", "down", "last", "again", "at"]
theorem sc_spread : FnScope N_spread ["target", "controls", "borrowed"] (defScope s_spread) := ⟨rfl, rfl, rfl, by decide +kernel, rfl, by decide +kernel, by decide +kernel⟩
abbrev s_are_borrowed : Stmt := topS 27
abbrev N_are_borrowed : List Str := ["borrowed", "needed", "taken", "bit"]
theorem sc_are_borrowed : FnScope N_are_borrowed ["borrowed", "needed", "taken"] (defScope s_are_borrowed) := ⟨rfl, rfl, rfl, by decide +kernel, rfl, by decide +kernel, by decide +kernel⟩
abbrev s_gate_of_two : Stmt := topS 28
abbrev N_gate_of_two : List Str := ["target", "a", "b"]
theorem sc_gate_of_two : FnScope N_gate_of_two ["target", "a", "b"] (defScope s_gate_of_two) := ⟨rfl, rfl, rfl, by decide +kernel, rfl, by decide +kernel, by decide +kernel⟩
abbrev s_gates_of : Stmt := topS 29
abbrev N_gates_of : List Str := ["program", "gates", "step"]
theorem sc_gates_of : FnScope N_gates_of ["program"] (defScope s_gates_of) := ⟨rfl, rfl, rfl, by decide +kernel, rfl, by decide +kernel, by decide +kernel⟩
abbrev s_gates_of_step : Stmt := topS 30
abbrev N_gates_of_step : List Str := ["step", "inputs", "target", "factors", "controls", "a", "b", "there", "back", "place", "at"]
theorem sc_gates_of_step : FnScope N_gates_of_step ["step", "inputs"] (defScope s_gates_of_step) := ⟨rfl, rfl, rfl, by decide +kernel, rfl, by decide +kernel, by decide +kernel⟩
abbrev s_is_step : Stmt := topS 33
abbrev N_is_step : List Str := ["step", "modulus", "cells", "inputs", "target", "coefficient", "factors", "unit", "a", "b", "sign", "table"]
theorem sc_is_step : FnScope N_is_step ["step", "modulus", "cells", "inputs"] (defScope s_is_step) := ⟨rfl, rfl, rfl, by decide +kernel, rfl, by decide +kernel, by decide +kernel⟩
abbrev s_are_factors : Stmt := topS 34
abbrev N_are_factors : List Str := ["factors", "target", "cells", "inputs", "factor"]
theorem sc_are_factors : FnScope N_are_factors ["factors", "target", "cells", "inputs"] (defScope s_are_factors) := ⟨rfl, rfl, rfl, by decide +kernel, rfl, by decide +kernel, by decide +kernel⟩
abbrev s_is_factor : Stmt := topS 35
abbrev N_is_factor : List Str := ["factor", "target", "cells", "inputs", "at"]
theorem sc_is_factor : FnScope N_is_factor ["factor", "target", "cells", "inputs"] (defScope s_is_factor) := ⟨rfl, rfl, rfl, by decide +kernel, rfl, by decide +kernel, by decide +kernel⟩
abbrev s_are_three_cells : Stmt := topS 36
abbrev N_are_three_cells : List Str := ["target", "a", "b", "cells", "cell"]
theorem sc_are_three_cells : FnScope N_are_three_cells ["target", "a", "b", "cells"] (defScope s_are_three_cells) := ⟨rfl, rfl, rfl, by decide +kernel, rfl, by decide +kernel, by decide +kernel⟩
abbrev s_is_sign : Stmt := topS 37
abbrev N_is_sign : List Str := ["sign", "modulus"]
theorem sc_is_sign : FnScope N_is_sign ["sign", "modulus"] (defScope s_is_sign) := ⟨rfl, rfl, rfl, by decide +kernel, rfl, by decide +kernel, by decide +kernel⟩
abbrev s_is_table : Stmt := topS 38
abbrev N_is_table : List Str := ["table", "modulus", "row"]
theorem sc_is_table : FnScope N_is_table ["table", "modulus"] (defScope s_is_table) := ⟨rfl, rfl, rfl, by decide +kernel, rfl, by decide +kernel, by decide +kernel⟩
abbrev s_is_row : Stmt := topS 39
abbrev N_is_row : List Str := ["row", "size", "modulus", "value"]
theorem sc_is_row : FnScope N_is_row ["row", "size", "modulus"] (defScope s_is_row) := ⟨rfl, rfl, rfl, by decide +kernel, rfl, by decide +kernel, by decide +kernel⟩
abbrev s_check_sizes : Stmt := topS 46
abbrev N_check_sizes : List Str := ["modulus", "cells", "inputs"]
theorem sc_check_sizes : FnScope N_check_sizes ["modulus", "cells", "inputs"] (defScope s_check_sizes) := ⟨rfl, rfl, rfl, by decide +kernel, rfl, by decide +kernel, by decide +kernel⟩
abbrev s_check_steps : Stmt := topS 47
abbrev N_check_steps : List Str := ["steps", "modulus", "cells", "inputs", "at", "step"]
theorem sc_check_steps : FnScope N_check_steps ["steps", "modulus", "cells", "inputs"] (defScope s_check_steps) := ⟨rfl, rfl, rfl, by decide +kernel, rfl, by decide +kernel, by decide +kernel⟩
abbrev s_are_nodes : Stmt := topS 51
abbrev N_are_nodes : List Str := ["source", "node"]
theorem sc_are_nodes : FnScope N_are_nodes ["source"] (defScope s_are_nodes) := ⟨rfl, rfl, rfl, by decide +kernel, rfl, by decide +kernel, by decide +kernel⟩
abbrev s_is_input : Stmt := topS 52
abbrev N_is_input : List Str := ["k"]
theorem sc_is_input : FnScope N_is_input ["k"] (defScope s_is_input) := ⟨rfl, rfl, rfl, by decide +kernel, rfl, by decide +kernel, by decide +kernel⟩
abbrev s_are_before : Stmt := topS 53
abbrev N_are_before : List Str := ["at", "references", "reference"]
theorem sc_are_before : FnScope N_are_before ["at", "references"] (defScope s_are_before) := ⟨rfl, rfl, rfl, by decide +kernel, rfl, by decide +kernel, by decide +kernel⟩
abbrev s_inputs_needed : Stmt := topS 54
abbrev N_inputs_needed : List Str := ["source", "node"]
theorem sc_inputs_needed : FnScope N_inputs_needed ["source"] (defScope s_inputs_needed) := ⟨rfl, rfl, rfl, by decide +kernel, rfl, by decide +kernel, by decide +kernel⟩
abbrev s_check_source : Stmt := topS 57
abbrev N_check_source : List Str := ["source"]
theorem sc_check_source : FnScope N_check_source ["source"] (defScope s_check_source) := ⟨rfl, rfl, rfl, by decide +kernel, rfl, by decide +kernel, by decide +kernel⟩
abbrev s_is_source : Stmt := topS 58
abbrev N_is_source : List Str := ["source", "at", "node"]
theorem sc_is_source : FnScope N_is_source ["source"] (defScope s_is_source) := ⟨rfl, rfl, rfl, by decide +kernel, rfl, by decide +kernel, by decide +kernel⟩
abbrev s_is_node : Stmt := topS 59
abbrev N_is_node : List Str := ["node", "at", "c", "k", "i", "j", "other"]
theorem sc_is_node : FnScope N_is_node ["node", "at"] (defScope s_is_node) := ⟨rfl, rfl, rfl, by decide +kernel, rfl, by decide +kernel, by decide +kernel⟩
abbrev s_needs : Stmt := topS 60
abbrev N_needs : List Str := ["source"]
theorem sc_needs : FnScope N_needs ["source"] (defScope s_needs) := ⟨rfl, rfl, rfl, by decide +kernel, rfl, by decide +kernel, by decide +kernel⟩
abbrev s_cost : Stmt := topS 61
abbrev N_cost : List Str := ["source", "costs", "node"]
theorem sc_cost : FnScope N_cost ["source"] (defScope s_cost) := ⟨rfl, rfl, rfl, by decide +kernel, rfl, by decide +kernel, by decide +kernel⟩
abbrev s_cost_of : Stmt := topS 62
abbrev N_cost_of : List Str := ["node", "costs", "i", "j", "other"]
theorem sc_cost_of : FnScope N_cost_of ["node", "costs"] (defScope s_cost_of) := ⟨rfl, rfl, rfl, by decide +kernel, rfl, by decide +kernel, by decide +kernel⟩
abbrev s_compile_source : Stmt := topS 65
abbrev N_compile_source : List Str := ["source", "modulus"]
theorem sc_compile_source : FnScope N_compile_source ["source", "modulus"] (defScope s_compile_source) := ⟨rfl, rfl, rfl, by decide +kernel, rfl, by decide +kernel, by decide +kernel⟩
abbrev s_steps_of : Stmt := topS 66
abbrev N_steps_of : List Str := ["source", "modulus", "bases", "steps", "tasks", "at", "target", "coefficient", "factors", "base", "scale", "c", "k", "node"]
theorem sc_steps_of : FnScope N_steps_of ["source", "modulus"] (defScope s_steps_of) := ⟨rfl, rfl, rfl, by decide +kernel, rfl, by decide +kernel, by decide +kernel⟩
abbrev s_without_scaling : Stmt := topS 67
abbrev N_without_scaling : List Str := ["source", "modulus", "bases", "at", "node", "c", "i", "base", "scale"]
theorem sc_without_scaling : FnScope N_without_scaling ["source", "modulus"] (defScope s_without_scaling) := ⟨rfl, rfl, rfl, by decide +kernel, rfl, by decide +kernel, by decide +kernel⟩
abbrev s_parts_of : Stmt := topS 68
abbrev N_parts_of : List Str := ["node", "target", "coefficient", "factors", "borrowed", "by", "i", "j", "other"]
theorem sc_parts_of : FnScope N_parts_of ["node", "target", "coefficient", "factors"] (defScope s_parts_of) := ⟨rfl, rfl, rfl, by decide +kernel, rfl, by decide +kernel, by decide +kernel⟩
abbrev s_borrowed_cell : Stmt := topS 69
abbrev N_borrowed_cell : List Str := ["target", "factors", "cell"]
theorem sc_borrowed_cell : FnScope N_borrowed_cell ["target", "factors"] (defScope s_borrowed_cell) := ⟨rfl, rfl, rfl, by decide +kernel, rfl, by decide +kernel, by decide +kernel⟩
abbrev s_law_mixed : Stmt := topS 71
abbrev N_law_mixed : List Str := ["number", "k", "step"]
theorem sc_law_mixed : FnScope N_law_mixed ["number", "k"] (defScope s_law_mixed) := ⟨rfl, rfl, rfl, by decide +kernel, rfl, by decide +kernel, by decide +kernel⟩
abbrev s_law_numbers : Stmt := topS 72
abbrev N_law_numbers : List Str := ["script", "numbers", "cell", "rest", "k"]
theorem sc_law_numbers : FnScope N_law_numbers ["script"] (defScope s_law_numbers) := ⟨rfl, rfl, rfl, by decide +kernel, rfl, by decide +kernel, by decide +kernel⟩
abbrev s_law_draw : Stmt := topS 73
abbrev N_law_draw : List Str := ["draws", "at", "first"]
theorem sc_law_draw : FnScope N_law_draw ["draws"] (defScope s_law_draw) := ⟨rfl, rfl, rfl, by decide +kernel, rfl, by decide +kernel, by decide +kernel⟩
abbrev s_law_equal : Stmt := topS 74
abbrev N_law_equal : List Str := ["actual", "due"]
theorem sc_law_equal : FnScope N_law_equal ["actual", "due"] (defScope s_law_equal) := ⟨rfl, rfl, rfl, by decide +kernel, rfl, by decide +kernel, by decide +kernel⟩
abbrev s_law_all_equal : Stmt := topS 75
abbrev N_law_all_equal : List Str := ["actual", "due", "k"]
theorem sc_law_all_equal : FnScope N_law_all_equal ["actual", "due"] (defScope s_law_all_equal) := ⟨rfl, rfl, rfl, by decide +kernel, rfl, by decide +kernel, by decide +kernel⟩
abbrev s_law_source : Stmt := topS 76
abbrev N_law_source : List Str := ["draws", "many", "inputs", "nodes", "costs", "k", "pick", "i", "j", "l", "node", "cost_v"]
theorem sc_law_source : FnScope N_law_source ["draws", "many", "inputs"] (defScope s_law_source) := ⟨rfl, rfl, rfl, by decide +kernel, rfl, by decide +kernel, by decide +kernel⟩
abbrev s_law_meaning : Stmt := topS 77
abbrev N_law_meaning : List Str := ["source", "modulus", "given", "worth", "node", "i"]
theorem sc_law_meaning : FnScope N_law_meaning ["source", "modulus", "given"] (defScope s_law_meaning) := ⟨rfl, rfl, rfl, by decide +kernel, rfl, by decide +kernel, by decide +kernel⟩
abbrev s_law_needs : Stmt := topS 78
abbrev N_law_needs : List Str := ["source", "node"]
theorem sc_law_needs : FnScope N_law_needs ["source"] (defScope s_law_needs) := ⟨rfl, rfl, rfl, by decide +kernel, rfl, by decide +kernel, by decide +kernel⟩
abbrev s_law_spread : Stmt := topS 79
abbrev N_law_spread : List Str := ["draws", "gates", "many", "wide", "target", "controls", "free", "need", "bit"]
theorem sc_law_spread : FnScope N_law_spread ["draws", "gates", "many"] (defScope s_law_spread) := ⟨rfl, rfl, rfl, by decide +kernel, rfl, by decide +kernel, by decide +kernel⟩
abbrev s_law : Stmt := topS 80
abbrev N_law : List Str := ["script", "draws", "source", "inputs", "gates", "many", "wide", "turn", "bits", "given", "due", "kept", "k"]
theorem sc_law : FnScope N_law ["script"] (defScope s_law) := ⟨rfl, rfl, rfl, by decide +kernel, rfl, by decide +kernel, by decide +kernel⟩
abbrev s_Program___init : Stmt := inClass (topS 45) 0
abbrev N_Program___init : List Str := ["self", "modulus", "cells", "inputs", "steps"]
theorem sc_Program___init : FnScope N_Program___init ["self", "modulus", "cells", "inputs", "steps"] (defScope s_Program___init) := ⟨rfl, rfl, rfl, by decide +kernel, rfl, by decide +kernel, by decide +kernel⟩
structure Txt (K : PySem.W.Frag) (mg : Str → Option Value) where
  a_are_bits : Addr
  fd_are_bits : FuncData
  F_are_bits : Fun K "are_bits" "are_bits" s_are_bits a_are_bits fd_are_bits
  b_are_bits : Binds K fd_are_bits ["values", "least"] []
  g_are_bits : mg "are_bits" = some (.ref a_are_bits)
  a_is_below : Addr
  fd_is_below : FuncData
  F_is_below : Fun K "is_below" "is_below" s_is_below a_is_below fd_is_below
  b_is_below : Binds K fd_is_below ["value", "bound"] []
  g_is_below : mg "is_below" = some (.ref a_is_below)
  a_is_modulus : Addr
  fd_is_modulus : FuncData
  F_is_modulus : Fun K "is_modulus" "is_modulus" s_is_modulus a_is_modulus fd_is_modulus
  b_is_modulus : Binds K fd_is_modulus ["value"] []
  g_is_modulus : mg "is_modulus" = some (.ref a_is_modulus)
  a_is_prime : Addr
  fd_is_prime : FuncData
  F_is_prime : Fun K "is_prime" "is_prime" s_is_prime a_is_prime fd_is_prime
  b_is_prime : Binds K fd_is_prime ["n"] []
  g_is_prime : mg "is_prime" = some (.ref a_is_prime)
  a_perform : Addr
  fd_perform : FuncData
  F_perform : Fun K "perform" "perform" s_perform a_perform fd_perform
  b_perform : Binds K fd_perform ["gates", "bits"] []
  g_perform : mg "perform" = some (.ref a_perform)
  a_are_gates : Addr
  fd_are_gates : FuncData
  F_are_gates : Fun K "_are_gates" "_are_gates" s_are_gates a_are_gates fd_are_gates
  b_are_gates : Binds K fd_are_gates ["gates"] []
  g_are_gates : mg "_are_gates" = some (.ref a_are_gates)
  a_is_gate : Addr
  fd_is_gate : FuncData
  F_is_gate : Fun K "_is_gate" "_is_gate" s_is_gate a_is_gate fd_is_gate
  b_is_gate : Binds K fd_is_gate ["gate"] []
  g_is_gate : mg "_is_gate" = some (.ref a_is_gate)
  a_is_bit : Addr
  fd_is_bit : FuncData
  F_is_bit : Fun K "_is_bit" "_is_bit" s_is_bit a_is_bit fd_is_bit
  b_is_bit : Binds K fd_is_bit ["value"] []
  g_is_bit : mg "_is_bit" = some (.ref a_is_bit)
  a_are_rising : Addr
  fd_are_rising : FuncData
  F_are_rising : Fun K "_are_rising" "_are_rising" s_are_rising a_are_rising fd_are_rising
  b_are_rising : Binds K fd_are_rising ["controls"] []
  g_are_rising : mg "_are_rising" = some (.ref a_are_rising)
  a_bits_touched : Addr
  fd_bits_touched : FuncData
  F_bits_touched : Fun K "_bits_touched" "_bits_touched" s_bits_touched a_bits_touched fd_bits_touched
  b_bits_touched : Binds K fd_bits_touched ["gate"] []
  g_bits_touched : mg "_bits_touched" = some (.ref a_bits_touched)
  a_spread : Addr
  fd_spread : FuncData
  F_spread : Fun K "spread" "spread" s_spread a_spread fd_spread
  b_spread : Binds K fd_spread ["target", "controls", "borrowed"] []
  g_spread : mg "spread" = some (.ref a_spread)
  a_are_borrowed : Addr
  fd_are_borrowed : FuncData
  F_are_borrowed : Fun K "_are_borrowed" "_are_borrowed" s_are_borrowed a_are_borrowed fd_are_borrowed
  b_are_borrowed : Binds K fd_are_borrowed ["borrowed", "needed", "taken"] []
  g_are_borrowed : mg "_are_borrowed" = some (.ref a_are_borrowed)
  a_gate_of_two : Addr
  fd_gate_of_two : FuncData
  F_gate_of_two : Fun K "_gate_of_two" "_gate_of_two" s_gate_of_two a_gate_of_two fd_gate_of_two
  b_gate_of_two : Binds K fd_gate_of_two ["target", "a", "b"] []
  g_gate_of_two : mg "_gate_of_two" = some (.ref a_gate_of_two)
  a_gates_of : Addr
  fd_gates_of : FuncData
  F_gates_of : Fun K "gates_of" "gates_of" s_gates_of a_gates_of fd_gates_of
  b_gates_of : Binds K fd_gates_of ["program"] []
  g_gates_of : mg "gates_of" = some (.ref a_gates_of)
  a_gates_of_step : Addr
  fd_gates_of_step : FuncData
  F_gates_of_step : Fun K "_gates_of_step" "_gates_of_step" s_gates_of_step a_gates_of_step fd_gates_of_step
  b_gates_of_step : Binds K fd_gates_of_step ["step", "inputs"] []
  g_gates_of_step : mg "_gates_of_step" = some (.ref a_gates_of_step)
  a_is_step : Addr
  fd_is_step : FuncData
  F_is_step : Fun K "is_step" "is_step" s_is_step a_is_step fd_is_step
  b_is_step : Binds K fd_is_step ["step", "modulus", "cells", "inputs"] []
  g_is_step : mg "is_step" = some (.ref a_is_step)
  a_are_factors : Addr
  fd_are_factors : FuncData
  F_are_factors : Fun K "_are_factors" "_are_factors" s_are_factors a_are_factors fd_are_factors
  b_are_factors : Binds K fd_are_factors ["factors", "target", "cells", "inputs"] []
  g_are_factors : mg "_are_factors" = some (.ref a_are_factors)
  a_is_factor : Addr
  fd_is_factor : FuncData
  F_is_factor : Fun K "_is_factor" "_is_factor" s_is_factor a_is_factor fd_is_factor
  b_is_factor : Binds K fd_is_factor ["factor", "target", "cells", "inputs"] []
  g_is_factor : mg "_is_factor" = some (.ref a_is_factor)
  a_are_three_cells : Addr
  fd_are_three_cells : FuncData
  F_are_three_cells : Fun K "_are_three_cells" "_are_three_cells" s_are_three_cells a_are_three_cells fd_are_three_cells
  b_are_three_cells : Binds K fd_are_three_cells ["target", "a", "b", "cells"] []
  g_are_three_cells : mg "_are_three_cells" = some (.ref a_are_three_cells)
  a_is_sign : Addr
  fd_is_sign : FuncData
  F_is_sign : Fun K "_is_sign" "_is_sign" s_is_sign a_is_sign fd_is_sign
  b_is_sign : Binds K fd_is_sign ["sign", "modulus"] []
  g_is_sign : mg "_is_sign" = some (.ref a_is_sign)
  a_is_table : Addr
  fd_is_table : FuncData
  F_is_table : Fun K "is_table" "is_table" s_is_table a_is_table fd_is_table
  b_is_table : Binds K fd_is_table ["table", "modulus"] []
  g_is_table : mg "is_table" = some (.ref a_is_table)
  a_is_row : Addr
  fd_is_row : FuncData
  F_is_row : Fun K "_is_row" "_is_row" s_is_row a_is_row fd_is_row
  b_is_row : Binds K fd_is_row ["row", "size", "modulus"] []
  g_is_row : mg "_is_row" = some (.ref a_is_row)
  a_check_sizes : Addr
  fd_check_sizes : FuncData
  F_check_sizes : Fun K "_check_sizes" "_check_sizes" s_check_sizes a_check_sizes fd_check_sizes
  b_check_sizes : Binds K fd_check_sizes ["modulus", "cells", "inputs"] []
  g_check_sizes : mg "_check_sizes" = some (.ref a_check_sizes)
  a_check_steps : Addr
  fd_check_steps : FuncData
  F_check_steps : Fun K "_check_steps" "_check_steps" s_check_steps a_check_steps fd_check_steps
  b_check_steps : Binds K fd_check_steps ["steps", "modulus", "cells", "inputs"] []
  g_check_steps : mg "_check_steps" = some (.ref a_check_steps)
  a_are_nodes : Addr
  fd_are_nodes : FuncData
  F_are_nodes : Fun K "are_nodes" "are_nodes" s_are_nodes a_are_nodes fd_are_nodes
  b_are_nodes : Binds K fd_are_nodes ["source"] []
  g_are_nodes : mg "are_nodes" = some (.ref a_are_nodes)
  a_is_input : Addr
  fd_is_input : FuncData
  F_is_input : Fun K "is_input" "is_input" s_is_input a_is_input fd_is_input
  b_is_input : Binds K fd_is_input ["k"] []
  g_is_input : mg "is_input" = some (.ref a_is_input)
  a_are_before : Addr
  fd_are_before : FuncData
  F_are_before : Fun K "are_before" "are_before" s_are_before a_are_before fd_are_before
  b_are_before : StarB fd_are_before ["at"] "references"
  g_are_before : mg "are_before" = some (.ref a_are_before)
  a_inputs_needed : Addr
  fd_inputs_needed : FuncData
  F_inputs_needed : Fun K "inputs_needed" "inputs_needed" s_inputs_needed a_inputs_needed fd_inputs_needed
  b_inputs_needed : Binds K fd_inputs_needed ["source"] []
  g_inputs_needed : mg "inputs_needed" = some (.ref a_inputs_needed)
  a_check_source : Addr
  fd_check_source : FuncData
  F_check_source : Fun K "check_source" "check_source" s_check_source a_check_source fd_check_source
  b_check_source : Binds K fd_check_source ["source"] []
  g_check_source : mg "check_source" = some (.ref a_check_source)
  a_is_source : Addr
  fd_is_source : FuncData
  F_is_source : Fun K "_is_source" "_is_source" s_is_source a_is_source fd_is_source
  b_is_source : Binds K fd_is_source ["source"] []
  g_is_source : mg "_is_source" = some (.ref a_is_source)
  a_is_node : Addr
  fd_is_node : FuncData
  F_is_node : Fun K "_is_node" "_is_node" s_is_node a_is_node fd_is_node
  b_is_node : Binds K fd_is_node ["node", "at"] []
  g_is_node : mg "_is_node" = some (.ref a_is_node)
  a_needs : Addr
  fd_needs : FuncData
  F_needs : Fun K "needs" "needs" s_needs a_needs fd_needs
  b_needs : Binds K fd_needs ["source"] []
  g_needs : mg "needs" = some (.ref a_needs)
  a_cost : Addr
  fd_cost : FuncData
  F_cost : Fun K "cost" "cost" s_cost a_cost fd_cost
  b_cost : Binds K fd_cost ["source"] []
  g_cost : mg "cost" = some (.ref a_cost)
  a_cost_of : Addr
  fd_cost_of : FuncData
  F_cost_of : Fun K "_cost_of" "_cost_of" s_cost_of a_cost_of fd_cost_of
  b_cost_of : Binds K fd_cost_of ["node", "costs"] []
  g_cost_of : mg "_cost_of" = some (.ref a_cost_of)
  a_compile_source : Addr
  fd_compile_source : FuncData
  F_compile_source : Fun K "compile_source" "compile_source" s_compile_source a_compile_source fd_compile_source
  b_compile_source : Binds K fd_compile_source ["source", "modulus"] []
  g_compile_source : mg "compile_source" = some (.ref a_compile_source)
  a_steps_of : Addr
  fd_steps_of : FuncData
  F_steps_of : Fun K "_steps_of" "_steps_of" s_steps_of a_steps_of fd_steps_of
  b_steps_of : Binds K fd_steps_of ["source", "modulus"] []
  g_steps_of : mg "_steps_of" = some (.ref a_steps_of)
  a_without_scaling : Addr
  fd_without_scaling : FuncData
  F_without_scaling : Fun K "_without_scaling" "_without_scaling" s_without_scaling a_without_scaling fd_without_scaling
  b_without_scaling : Binds K fd_without_scaling ["source", "modulus"] []
  g_without_scaling : mg "_without_scaling" = some (.ref a_without_scaling)
  a_parts_of : Addr
  fd_parts_of : FuncData
  F_parts_of : Fun K "_parts_of" "_parts_of" s_parts_of a_parts_of fd_parts_of
  b_parts_of : Binds K fd_parts_of ["node", "target", "coefficient", "factors"] []
  g_parts_of : mg "_parts_of" = some (.ref a_parts_of)
  a_borrowed_cell : Addr
  fd_borrowed_cell : FuncData
  F_borrowed_cell : Fun K "_borrowed_cell" "_borrowed_cell" s_borrowed_cell a_borrowed_cell fd_borrowed_cell
  b_borrowed_cell : Binds K fd_borrowed_cell ["target", "factors"] []
  g_borrowed_cell : mg "_borrowed_cell" = some (.ref a_borrowed_cell)
  a_law_mixed : Addr
  fd_law_mixed : FuncData
  F_law_mixed : Fun K "_law_mixed" "_law_mixed" s_law_mixed a_law_mixed fd_law_mixed
  b_law_mixed : Binds K fd_law_mixed ["number", "k"] []
  g_law_mixed : mg "_law_mixed" = some (.ref a_law_mixed)
  a_law_numbers : Addr
  fd_law_numbers : FuncData
  F_law_numbers : Fun K "_law_numbers" "_law_numbers" s_law_numbers a_law_numbers fd_law_numbers
  b_law_numbers : Binds K fd_law_numbers ["script"] []
  g_law_numbers : mg "_law_numbers" = some (.ref a_law_numbers)
  a_law_draw : Addr
  fd_law_draw : FuncData
  F_law_draw : Fun K "_law_draw" "_law_draw" s_law_draw a_law_draw fd_law_draw
  b_law_draw : Binds K fd_law_draw ["draws"] []
  g_law_draw : mg "_law_draw" = some (.ref a_law_draw)
  a_law_equal : Addr
  fd_law_equal : FuncData
  F_law_equal : Fun K "_law_equal" "_law_equal" s_law_equal a_law_equal fd_law_equal
  b_law_equal : Binds K fd_law_equal ["actual", "due"] []
  g_law_equal : mg "_law_equal" = some (.ref a_law_equal)
  a_law_all_equal : Addr
  fd_law_all_equal : FuncData
  F_law_all_equal : Fun K "_law_all_equal" "_law_all_equal" s_law_all_equal a_law_all_equal fd_law_all_equal
  b_law_all_equal : Binds K fd_law_all_equal ["actual", "due"] []
  g_law_all_equal : mg "_law_all_equal" = some (.ref a_law_all_equal)
  a_law_source : Addr
  fd_law_source : FuncData
  F_law_source : Fun K "_law_source" "_law_source" s_law_source a_law_source fd_law_source
  b_law_source : Binds K fd_law_source ["draws", "many", "inputs"] []
  g_law_source : mg "_law_source" = some (.ref a_law_source)
  a_law_meaning : Addr
  fd_law_meaning : FuncData
  F_law_meaning : Fun K "_law_meaning" "_law_meaning" s_law_meaning a_law_meaning fd_law_meaning
  b_law_meaning : Binds K fd_law_meaning ["source", "modulus", "given"] []
  g_law_meaning : mg "_law_meaning" = some (.ref a_law_meaning)
  a_law_needs : Addr
  fd_law_needs : FuncData
  F_law_needs : Fun K "_law_needs" "_law_needs" s_law_needs a_law_needs fd_law_needs
  b_law_needs : Binds K fd_law_needs ["source"] []
  g_law_needs : mg "_law_needs" = some (.ref a_law_needs)
  a_law_spread : Addr
  fd_law_spread : FuncData
  F_law_spread : Fun K "_law_spread" "_law_spread" s_law_spread a_law_spread fd_law_spread
  b_law_spread : Binds K fd_law_spread ["draws", "gates", "many"] []
  g_law_spread : mg "_law_spread" = some (.ref a_law_spread)
  a_law : Addr
  fd_law : FuncData
  F_law : Fun K "law" "law" s_law a_law fd_law
  b_law : Binds K fd_law ["script"] []
  g_law : mg "law" = some (.ref a_law)
  a_Program___init : Addr
  fd_Program___init : FuncData
  F_Program___init : Fun K "__init__" "Program.__init__" s_Program___init a_Program___init fd_Program___init
  b_Program___init : Binds K fd_Program___init ["self", "modulus", "cells", "inputs", "steps"] []
  C_Program : Addr
  cl_Program : Cls K C_Program
  gc_Program : mg "Program" = some (.ref C_Program)
  na_Program_modulus : NoAttr K C_Program "modulus"
  na_Program_cells : NoAttr K C_Program "cells"
  na_Program_inputs : NoAttr K C_Program "inputs"
  na_Program_steps : NoAttr K C_Program "steps"
  mk_Program : Mk K C_Program a_Program___init
  E_BrimfulError : Addr
  gE_BrimfulError : mg "BrimfulError" = some (.ref E_BrimfulError)
  xE_BrimfulError : PySem.W.excIn K E_BrimfulError [.type "ValueError", .type "Exception", .type "BaseException", .type "object"] "ValueError.__new__" = true
  kE_BrimfulError : PySem.W.keepIn K (.ref E_BrimfulError) = true
  bE_BrimfulError : PySem.W.subIn K (.ref E_BrimfulError) (.type "BaseException") = some true
  tE_BrimfulError : PySem.W.typeIn K (.ref E_BrimfulError) = some (.type "type")
  dE_BrimfulError : PySem.W.hasDictIn K E_BrimfulError = true
  cE_BrimfulError : L2.ExcC K E_BrimfulError
  E_BadSource : Addr
  gE_BadSource : mg "BadSource" = some (.ref E_BadSource)
  xE_BadSource : PySem.W.excIn K E_BadSource [.type "ValueError", .type "Exception", .type "BaseException", .type "object"] "ValueError.__new__" = true
  kE_BadSource : PySem.W.keepIn K (.ref E_BadSource) = true
  bE_BadSource : PySem.W.subIn K (.ref E_BadSource) (.type "BaseException") = some true
  tE_BadSource : PySem.W.typeIn K (.ref E_BadSource) = some (.type "type")
  dE_BadSource : PySem.W.hasDictIn K E_BadSource = true
  cE_BadSource : L2.ExcC K E_BadSource
  E_BadStep : Addr
  gE_BadStep : mg "BadStep" = some (.ref E_BadStep)
  xE_BadStep : PySem.W.excIn K E_BadStep [.type "ValueError", .type "Exception", .type "BaseException", .type "object"] "ValueError.__new__" = true
  kE_BadStep : PySem.W.keepIn K (.ref E_BadStep) = true
  bE_BadStep : PySem.W.subIn K (.ref E_BadStep) (.type "BaseException") = some true
  tE_BadStep : PySem.W.typeIn K (.ref E_BadStep) = some (.type "type")
  dE_BadStep : PySem.W.hasDictIn K E_BadStep = true
  cE_BadStep : L2.ExcC K E_BadStep
  E_TooLong : Addr
  gE_TooLong : mg "TooLong" = some (.ref E_TooLong)
  xE_TooLong : PySem.W.excIn K E_TooLong [.type "ValueError", .type "Exception", .type "BaseException", .type "object"] "ValueError.__new__" = true
  kE_TooLong : PySem.W.keepIn K (.ref E_TooLong) = true
  bE_TooLong : PySem.W.subIn K (.ref E_TooLong) (.type "BaseException") = some true
  tE_TooLong : PySem.W.typeIn K (.ref E_TooLong) = some (.type "type")
  dE_TooLong : PySem.W.hasDictIn K E_TooLong = true
  cE_TooLong : L2.ExcC K E_TooLong
  E_BadGate : Addr
  gE_BadGate : mg "BadGate" = some (.ref E_BadGate)
  xE_BadGate : PySem.W.excIn K E_BadGate [.type "ValueError", .type "Exception", .type "BaseException", .type "object"] "ValueError.__new__" = true
  kE_BadGate : PySem.W.keepIn K (.ref E_BadGate) = true
  bE_BadGate : PySem.W.subIn K (.ref E_BadGate) (.type "BaseException") = some true
  tE_BadGate : PySem.W.typeIn K (.ref E_BadGate) = some (.type "type")
  dE_BadGate : PySem.W.hasDictIn K E_BadGate = true
  cE_BadGate : L2.ExcC K E_BadGate
  sE_BrimfulError_BrimfulError : PySem.W.subIn K (.ref E_BrimfulError) (.ref E_BrimfulError) = some true
  sE_BrimfulError_BadSource : PySem.W.subIn K (.ref E_BrimfulError) (.ref E_BadSource) = some false
  sE_BrimfulError_BadStep : PySem.W.subIn K (.ref E_BrimfulError) (.ref E_BadStep) = some false
  sE_BrimfulError_TooLong : PySem.W.subIn K (.ref E_BrimfulError) (.ref E_TooLong) = some false
  sE_BrimfulError_BadGate : PySem.W.subIn K (.ref E_BrimfulError) (.ref E_BadGate) = some false
  sE_BadSource_BrimfulError : PySem.W.subIn K (.ref E_BadSource) (.ref E_BrimfulError) = some true
  sE_BadSource_BadSource : PySem.W.subIn K (.ref E_BadSource) (.ref E_BadSource) = some true
  sE_BadSource_BadStep : PySem.W.subIn K (.ref E_BadSource) (.ref E_BadStep) = some false
  sE_BadSource_TooLong : PySem.W.subIn K (.ref E_BadSource) (.ref E_TooLong) = some false
  sE_BadSource_BadGate : PySem.W.subIn K (.ref E_BadSource) (.ref E_BadGate) = some false
  sE_BadStep_BrimfulError : PySem.W.subIn K (.ref E_BadStep) (.ref E_BrimfulError) = some true
  sE_BadStep_BadSource : PySem.W.subIn K (.ref E_BadStep) (.ref E_BadSource) = some false
  sE_BadStep_BadStep : PySem.W.subIn K (.ref E_BadStep) (.ref E_BadStep) = some true
  sE_BadStep_TooLong : PySem.W.subIn K (.ref E_BadStep) (.ref E_TooLong) = some false
  sE_BadStep_BadGate : PySem.W.subIn K (.ref E_BadStep) (.ref E_BadGate) = some false
  sE_TooLong_BrimfulError : PySem.W.subIn K (.ref E_TooLong) (.ref E_BrimfulError) = some true
  sE_TooLong_BadSource : PySem.W.subIn K (.ref E_TooLong) (.ref E_BadSource) = some false
  sE_TooLong_BadStep : PySem.W.subIn K (.ref E_TooLong) (.ref E_BadStep) = some false
  sE_TooLong_TooLong : PySem.W.subIn K (.ref E_TooLong) (.ref E_TooLong) = some true
  sE_TooLong_BadGate : PySem.W.subIn K (.ref E_TooLong) (.ref E_BadGate) = some false
  sE_BadGate_BrimfulError : PySem.W.subIn K (.ref E_BadGate) (.ref E_BrimfulError) = some true
  sE_BadGate_BadSource : PySem.W.subIn K (.ref E_BadGate) (.ref E_BadSource) = some false
  sE_BadGate_BadStep : PySem.W.subIn K (.ref E_BadGate) (.ref E_BadStep) = some false
  sE_BadGate_TooLong : PySem.W.subIn K (.ref E_BadGate) (.ref E_TooLong) = some false
  sE_BadGate_BadGate : PySem.W.subIn K (.ref E_BadGate) (.ref E_BadGate) = some true
  m_all : mg "all" = none
  m_any : mg "any" = none
  m_bool : mg "bool" = none
  m_enumerate : mg "enumerate" = none
  m_int : mg "int" = none
  m_isinstance : mg "isinstance" = none
  m_len : mg "len" = none
  m_list : mg "list" = none
  m_max : mg "max" = none
  m_range : mg "range" = none
  m_set : mg "set" = none
  m_sorted : mg "sorted" = none
  m_str : mg "str" = none
  m_tuple : mg "tuple" = none
  m_gcd : mg "gcd" = some (.builtin "math.gcd")
  m_isqrt : mg "isqrt" = some (.builtin "math.isqrt")
  t_CELLS : Tok
  c_CELLS : mg "CELLS" = some (.int 3 t_CELLS)
  t_CONSTANTS_END : Tok
  c_CONSTANTS_END : mg "CONSTANTS_END" = some (.int 1000000000 t_CONSTANTS_END)
  t_GREATEST_MODULUS : Tok
  c_GREATEST_MODULUS : mg "GREATEST_MODULUS" = some (.int 1000000000 t_GREATEST_MODULUS)
  t_MOST_BITS : Tok
  c_MOST_BITS : mg "MOST_BITS" = some (.int 120 t_MOST_BITS)
  t_MOST_CELLS : Tok
  c_MOST_CELLS : mg "MOST_CELLS" = some (.int 60 t_MOST_CELLS)
  t_MOST_FACTORS : Tok
  c_MOST_FACTORS : mg "MOST_FACTORS" = some (.int 3 t_MOST_FACTORS)
  t_MOST_GATES : Tok
  c_MOST_GATES : mg "MOST_GATES" = some (.int 60000 t_MOST_GATES)
  t_MOST_INPUTS_nodes : Tok
  c_MOST_INPUTS_nodes : mg "MOST_INPUTS_nodes" = some (.int 60 t_MOST_INPUTS_nodes)
  t_MOST_INPUTS_programs : Tok
  c_MOST_INPUTS_programs : mg "MOST_INPUTS_programs" = some (.int 60 t_MOST_INPUTS_programs)
  t_MOST_NODES : Tok
  c_MOST_NODES : mg "MOST_NODES" = some (.int 200 t_MOST_NODES)
  t_MOST_STEPS : Tok
  c_MOST_STEPS : mg "MOST_STEPS" = some (.int 20000 t_MOST_STEPS)
end Br
namespace Br
open PySem PySem.Spec PyProof.Rows L2
local macro_rules | `(tactic| walk_at "x1") => `(tactic| (with_reducible first
  | refine Br.x_seq ?_ | refine Br.x_set ?_ | refine Br.x_asg ?_ | refine Br.x_next ?_ | refine Br.x_ret ?_ | refine Br.x_retN ?_ | refine Br.x_drop ?_ | refine Br.x_if ?_ | refine Br.x_brk ?_ | refine Br.x_cont ?_
  | refine Br.x_c ?_ | refine Br.x_op ?_ | refine Br.x_un ?_ | refine Br.x_I0 ?_ | refine Br.x_U ?_ | refine Br.x_EqI ?_ | refine Br.x_NeI ?_ | refine Br.x_EqB ?_ | refine Br.x_iN ?_ | refine Br.x_int1 ?_ | refine Br.x_min2 ?_ | refine Br.x_max2 ?_ | refine Br.x_nN ?_ | refine Br.x_ifE ?_
  | refine Br.x_test (b := ()) ?_ | refine Br.x_tB ?_ | refine Br.x_bl ?_ | refine Br.x_and ?_ | refine Br.x_or ?_ | refine Br.x_not ?_ | refine Br.x_andV ?_ | refine Br.x_orV ?_ | refine Br.x_notV ?_ | refine Br.x_blP ?_
  | refine Br.x_nil ?_ | refine Br.x_cons ?_ | refine Br.x_call ?_ | refine Br.x_CB ?_ | refine Br.x_BM ?_ | refine Br.x_tup ?_ | refine Br.x_lst ?_ | refine Br.x_chain ?_ | refine Br.x_par ?_ | refine Br.x_gSub ?_ | refine Br.x_gName ?_ | refine Br.x_fld ?_ | refine Br.x_fldS ?_ | refine Br.x_match ?_ | refine Br.x_else ?_ | refine Br.x_noCase ?_))
local macro_rules | `(tactic| walk_at "xv") => `(tactic| ((with_reducible refine' Br.x_var ?hvar ?_); (case hvar => rfl)))
local macro_rules | `(tactic| walk_at "xd") => `(tactic| (dsimp only [List.set_cons_zero, List.set_cons_succ, List.cons_append, List.nil_append, List.append_nil]))
local macro_rules | `(tactic| walk_at "xi") => `(tactic| ((with_reducible refine Br.x_I ?hside ?_); (case hside => first | exact Br.mul_r (by decide) (by decide) | exact Br.mul_l (by decide) (by decide) | exact Br.mul_l (by omega) (by omega) | exact Br.mul_r (by omega) (by omega) | (show (0 : Int) < _; first | decide | omega) | exact ⟨by decide, by decide⟩ | exact ⟨by omega, by omega⟩ | exact ⟨by decide, by decide, by decide⟩)))
local macro_rules | `(tactic| walk_at "x") => `(tactic| (repeat (first | walk_at "x1" | walk_at "xv" | walk_at "xi" | walk_at "xd")))
local macro_rules | `(tactic| walk_at "start") => `(tactic| (simp only [L2.start, List.map_cons, List.map_nil, List.length_cons, List.length_nil, Nat.reduceAdd, Nat.reduceSub, List.replicate, List.cons_append, List.nil_append, List.append_nil]))
local macro_rules | `(tactic| walk_at "isi") => `(tactic| first
  | refine Br.x_isi (b := true) (.base (.int _)) (by decide +kernel) ?_ | refine Br.x_isi (b := false) (.base (.int _)) (by decide +kernel) ?_
  | refine Br.x_isi (b := true) (.base (.bl _)) (by decide +kernel) ?_ | refine Br.x_isi (b := false) (.base (.bl _)) (by decide +kernel) ?_
  | refine Br.x_isi (b := false) (.base .non) (by decide +kernel) ?_
  | refine Br.x_isi (b := true) (.base (.str _)) (by decide +kernel) ?_ | refine Br.x_isi (b := false) (.base (.str _)) (by decide +kernel) ?_
  | refine Br.x_isi (b := true) (.base (.tup (by assumption))) (by decide +kernel) ?_ | refine Br.x_isi (b := false) (.base (.tup (by assumption))) (by decide +kernel) ?_
  | refine Br.x_isi (b := true) (.base (.lst (by assumption))) (by decide +kernel) ?_ | refine Br.x_isi (b := false) (.base (.lst (by assumption))) (by decide +kernel) ?_)
local macro_rules | `(tactic| walk_at "f") => `(tactic| (refine L2.iteF ?_; walk_at "x"))
local macro_rules | `(tactic| walk_at "t") => `(tactic| (refine L2.iteT ?_; walk_at "x"))
local macro_rules | `(tactic| walk_at "is") => `(tactic| (walk_at "isi"; walk_at "x"))
local macro_rules | `(tactic| walk_at "xb") => `(tactic| (simp only [Br.bindS, List.set_cons_zero, List.set_cons_succ]; walk_at "x"))

section
variable {P : Program} {w : World} {K : PySem.W.Frag} {mg : Str → Option Value} {base : Heap}

/-! ### the draws -/
/-- the draws at d: a list of a list of numbers (at n) and a place -/
def Dr (H : Hp) (d n : Addr) : Prop := ∃ (ns : List Int) (k : Int), H d = some (.lst [.ref n, .int k]) ∧ H n = some (.lst (ns.map V.int)) ∧ Rg 0 1000000 ns ∧ 0 ≤ k ∧ ns.length ≤ 3780
theorem Dr.ne {H : Hp} {d n : Addr} (h : Dr H d n) : H d ≠ none := by
  obtain ⟨_, _, h, _⟩ := h
  rw [h]
  exact fun z => nomatch z
theorem Dr.new {H : Hp} {d n p : Addr} (h : Dr H d n) (hp : H p = none) : p ≠ d := fun e => h.ne (e ▸ hp)
theorem Dr.newN {H : Hp} {d n p : Addr} (h : Dr H d n) (hp : H p = none) : p ≠ n := fun e => by
  obtain ⟨_, _, _, h2, _⟩ := h
  rw [← e, hp] at h2
  cases h2
theorem Dr.dn {H : Hp} {d n : Addr} (h : Dr H d n) : d ≠ n := by
  obtain ⟨ns, k, h1, h2, _⟩ := h
  exact ne_of h1 h2 (by
    intro e
    have e1 : [V.ref n, V.int k] = ns.map V.int := HO.lst.inj e
    cases ns with
    | nil => cases e1
    | cons x r => cases (List.cons.inj e1).1)
/-- changes elsewhere -/
theorem Dr.upd {H : Hp} {d n p : Addr} {o : HO} (h : Dr H d n) (hd : p ≠ d) (hn : p ≠ n) : Dr (upd H p o) d n := by
  obtain ⟨ns, k, h1, h2, h3⟩ := h
  exact ⟨ns, k, by rw [upd_ne hd.symm]; exact h1, by rw [upd_ne hn.symm]; exact h2, h3⟩
theorem Dr.upd0 {H : Hp} {d n p : Addr} {o : HO} (h : Dr H d n) (hp : H p = none) : Dr (L2.upd H p o) d n := h.upd (h.new hp) (h.newN hp)
theorem Dr.same {H H' : Hp} {d n : Addr} (h : Dr H d n) (s : Same H H') : Dr H' d n := by
  obtain ⟨ns, k, h1, h2, h3⟩ := h
  exact ⟨ns, k, s _ _ h1, s _ _ h2, h3⟩
/-- what is fresh behind was fresh ahead -/
theorem Keep.free {H H' : Hp} {d n p : Addr} (s : Keep d H H') (h : Dr H' d n) (hp : H' p = none) : H p = none := by
  cases e : H p with
  | none => rfl
  | some o =>
    by_cases hd : p = d
    · rw [hd] at hp
      exact absurd hp h.ne
    · rw [s p o e hd] at hp
      cases hp
theorem Dr.mk {H : Hp} {d n : Addr} {ns : List Int} (hn : H n = some (.lst (ns.map V.int))) (hr : Rg 0 1000000 ns) (hl : ns.length ≤ 3780) (hd : H d = none) : Dr (L2.upd H d (.lst [.ref n, .int 0])) d n :=
  ⟨ns, 0, upd_same, by rw [upd_ne (ne_of_none hn hd)]; exact hn, hr, Int.le_refl _, hl⟩
/-- what a def that draws gives: a value of which P, the draws moved on -/
abbrev RetD (d n : Addr) (P : V → Prop) (H : Hp) (Q : VK) : Prop := ∀ v H', P v → Dr H' d n → Keep d H H' → Q v H'
abbrev RetG (d n : Addr) (P : V → Hp → Prop) (H : Hp) (Q : VK) : Prop := ∀ v H', P v H' → Dr H' d n → Keep d H H' → Q v H'
abbrev IsI (lo hi : Int) : V → Prop := fun v => ∃ z : Int, v = .int z ∧ lo ≤ z ∧ z < hi

def sp_law_mixed (K : PySem.W.Frag) : Sp := fun vs H Q _ => ∃ i k : Int, vs = [.int i, .int k] ∧ ∀ r : Int, 0 ≤ r → r < 2147483647 → Q (.int r) H
theorem ok_law_mixed (T : Txt K mg) : FnOk P w K mg base CX0 1 T.a_law_mixed T.fd_law_mixed ["number", "k"] (sp_law_mixed K) := by
  refine T.F_law_mixed.ok sc_law_mixed (fun vs H Q E h => ?_) (fun cdv A outer s H vs Q E hr h => ?_)
  · obtain ⟨i, k, rfl, _⟩ := h
    rfl
  · obtain ⟨i, k, rfl, q⟩ := h
    refine ⟨_, (pss_cons (ps_set (i := 2) sc_law_mixed.nd rfl (.inl rfl) (pe_op op_mod (pe_op op_add (pe_op op_add (pe_op op_mul (pv 0) pe_int) (pe_op op_mul (pv 1) pe_int)) pe_int) pe_int))
      (pss_one (ps_ret (pe_op op_mod (pe_op op_add (pe_op op_mul (pv 2) (pe_op op_add (pe_op op_fdiv (pv 2) pe_int) pe_int)) (pv 1)) pe_int)))), ?_⟩
    walk_at "start"
    walk_at "x"
    exact q _ (Int.emod_nonneg _ (by decide)) (Int.emod_lt_of_pos _ (by decide))


def sp_law_numbers (K : PySem.W.Frag) : Sp := fun vs H Q _ => ∃ (a : Addr) (ns : List Int), vs = [.ref a] ∧ SqL K H a (ns.map V.int) ∧ ns.length ≤ 63 ∧
  ∀ (p : Addr) (ms : List Int) (H' : Hp), H p = none → Same H H' → H' p = some (.lst (ms.map V.int)) → Rg 0 1000000 ms → ms.length ≤ 3780 → Q (.ref p) H'
/-- the numbers so far -/
def NumI (H : Hp) (p : Addr) (n : Nat) (H' : Hp) : Prop := ∃ ms : List Int, Same H H' ∧ H' p = some (.lst (ms.map V.int)) ∧ Rg 0 1000000 ms ∧ ms.length ≤ n
theorem NumI.app {H H' : Hp} {p : Addr} {n : Nat} (h : NumI H p n H') (hp : H p = none) (hn : n ≤ 100000) {R : VK} {z : Int} (h1 : 0 ≤ z) (h2 : z < 1000000) (q : ∀ H2, NumI H p (n + 1) H2 → R .non H2) : rAppend (.ref p) [.int z] H' R := by
  obtain ⟨ms, s, e, r, l⟩ := h
  refine x_app e (by rw [List.length_map]; omega) (q _ ⟨ms ++ [z], sput s hp, ?_, r.snoc h1 h2, ?_⟩)
  · rw [upd_same, List.map_append]; rfl
  · rw [List.length_append]; exact Nat.add_le_add_right l 1
theorem NumI.ty {K : PySem.W.Frag} {H H' : Hp} {p : Addr} {n : Nat} (h : NumI H p n H') {R : Prop} (q : R) : tyV K "list" (.ref p) H' ∧ R := by
  obtain ⟨ms, s, e, r, l⟩ := h
  exact x_tyL e q
theorem NumI.mono {H H' : Hp} {p : Addr} {n m : Nat} (h : NumI H p n H') (l : n ≤ m) : NumI H p m H' := by
  obtain ⟨ms, s, e, r, k⟩ := h
  exact ⟨ms, s, e, r, Nat.le_trans k l⟩
theorem ok_law_numbers (T : Txt K mg) : FnOk P w K mg base CX0 2 T.a_law_numbers T.fd_law_numbers ["script"] (sp_law_numbers K) := by
  refine T.F_law_numbers.ok sc_law_numbers (fun vs H Q E h => ?_) (fun cdv A outer s H vs Q E hr h => ?_)
  · obtain ⟨a, ns, rfl, _⟩ := h
    rfl
  · obtain ⟨a, ns, rfl, hS, hl, q⟩ := h
    refine ⟨_, (pss_cons (ps_set (i := 1) sc_law_numbers.nd rfl (.inl rfl) (pe_lst pa_nil))
      (pss_cons (ps_for PassesOwn.never rfl (pi_list (pv 0)) (pg_name (i := 2) sc_law_numbers.nd rfl (Or.inl rfl))
      (pss_one (ps_if (pt_cmpR op_ge (pv 2) (pe_op op_pow pe_int pe_int) (nomark _))
      (pss_cons (ps_set (i := 3) sc_law_numbers.nd rfl (.inl rfl) (pv 2))
      (pss_one (ps_for PassesOwn.never rfl (pi_range1 (by rfl) T.m_range (pa_cons pe_int pa_nil)) (pg_name (i := 4) sc_law_numbers.nd rfl (Or.inl rfl))
      (pss_one (ps_if (pt_cmpR op_gt (pv 3) pe_int (nomark _))
      (pss_cons (ps_expr (pe_bm PySem.F.plainAttrs_list PySem.F.slot_list_append PySem.F.type_list_append mt_append (pv 1) (pa_cons (pe_op op_mod (pv 3) pe_int) pa_nil)))
      (pss_one (ps_set (i := 3) sc_law_numbers.nd rfl (.inl rfl) (pe_op op_fdiv (pv 3) pe_int))))
      pss_nil)))))
      (pss_cons (ps_expr (pe_bm PySem.F.plainAttrs_list PySem.F.slot_list_append PySem.F.type_list_append mt_append (pv 1) (pa_cons (pe_op op_mod (pv 2) pe_int) pa_nil)))
      (pss_one (ps_for PassesOwn.never rfl (pi_range1 (by rfl) T.m_range (pa_cons pe_int pa_nil)) (pg_name (i := 4) sc_law_numbers.nd rfl (Or.inl rfl))
      (pss_one (ps_expr (pe_bm PySem.F.plainAttrs_list PySem.F.slot_list_append PySem.F.type_list_append mt_append (pv 1) (pa_cons (pe_op op_mod (pe_call (ok_law_mixed T) hr (by rfl) T.g_law_mixed T.F_law_mixed.kp T.b_law_mixed .nil pass0 (pa_cons (pe_call (ok_law_mixed T) hr (by rfl) T.g_law_mixed T.F_law_mixed.kp T.b_law_mixed .nil pass0 (pa_cons (pe_op op_mod (pv 2) pe_int) (pa_cons (pv 4) pa_nil))) (pa_cons (pe_op op_add (pv 4) pe_int) pa_nil))) pe_int) pa_nil))))))))))
      (pss_one (ps_ret (pv 1))))), ?_⟩
    walk_at "start"
    walk_at "x"
    refine ⟨Nat.zero_le _, fun p hp => ?_⟩
    walk_at "x"
    refine x_forL (p := a) (ns.map V.int) (fun i σ' H' => ∃ v2 v3 v4, σ' = [some (.ref a), some (.ref p), v2, v3, v4] ∧ NumI H p (60 * i) H') (fun R r => ⟨_, rfl, r⟩) ((same_upd hp).seq hS) ?_ ?_ ?_ ?_
    · exact ⟨none, none, none, rfl, [], same_upd hp, upd_same, .nil, Nat.le_refl _⟩
    · rintro i σ' H' hi ⟨v2, v3, v4, rfl, ms, s, _⟩
      exact s.seq hS
    · rintro i x σ' H' hx ⟨v2, v3, v4, rfl, hN⟩
      obtain ⟨z, hz, rfl⟩ := map_get hx
      have hi : i < 63 := by
        have := (List.getElem?_eq_some_iff.mp hz).1
        omega
      walk_at "x"
      refine x_ite (fun hc => ?_) (fun hc => ?_)
      · walk_at "x"
        refine x_forR1 60 (fun j σ' H' => ∃ r v4, σ' = [some (.ref a), some (.ref p), some (.int z), some (.int r), v4] ∧ NumI H p (60 * i + j) H') (fun R r => r) (by decide) (by decide) ⟨z, v4, rfl, hN⟩ ?_ ?_
        · rintro j σ' H2 hj ⟨r, v4, rfl, hN⟩
          walk_at "x"
          refine x_ite (fun hc => ?_) (fun hc => ?_)
          · walk_at "x"
            refine hN.ty ?_
            walk_at "x"
            refine hN.app hp (by omega) (Int.emod_nonneg _ (by decide)) (Int.emod_lt_of_pos _ (by decide)) fun H3 hN3 => ?_
            walk_at "x"
            exact ⟨_, _, rfl, hN3⟩
          · walk_at "x"
            exact ⟨r, _, rfl, hN.mono (by omega)⟩
        · rintro σ' H2 ⟨r, v4, rfl, hN⟩
          exact ⟨_, _, _, rfl, hN.mono (by show 60 * i + (60 : Int).toNat ≤ 60 * (i + 1); omega)⟩
      · walk_at "x"
        refine hN.ty ?_
        walk_at "x"
        refine hN.app hp (by omega) (Int.emod_nonneg _ (by decide)) (Int.emod_lt_of_pos _ (by decide)) fun H3 hN3 => ?_
        walk_at "x"
        refine x_forR1 5 (fun j σ' H' => ∃ v4, σ' = [some (.ref a), some (.ref p), some (.int z), v3, v4] ∧ NumI H p (60 * i + 1 + j) H') (fun R r => r) (by decide) (by decide) ⟨v4, rfl, hN3⟩ ?_ ?_
        · rintro j σ' H2 hj ⟨v4, rfl, hN⟩
          walk_at "x"
          refine hN.ty ?_
          walk_at "x"
          refine ⟨_, _, rfl, fun r h0 h1 => ?_⟩
          walk_at "x"
          refine ⟨_, _, rfl, fun r h0 h1 => ?_⟩
          walk_at "x"
          refine hN.app hp (by omega) (Int.emod_nonneg _ (by decide)) (Int.emod_lt_of_pos _ (by decide)) fun H3 hN3 => ?_
          walk_at "x"
          exact ⟨_, rfl, hN3⟩
        · rintro σ' H2 ⟨v4, rfl, hN⟩
          exact ⟨_, _, _, rfl, hN.mono (by show 60 * i + 1 + (5 : Int).toNat ≤ 60 * (i + 1); omega)⟩
    · rintro σ' H' ⟨v2, v3, v4, rfl, ms, s, e, r, l⟩
      walk_at "x"
      exact q p ms H' hp s e r (by rw [List.length_map] at l; omega)


def sp_law_draw (K : PySem.W.Frag) : Sp := fun vs H Q _ => ∃ (d n : Addr), vs = [.ref d] ∧ Dr H d n ∧ RetD d n (IsI 0 1000000) H Q
theorem ok_law_draw (T : Txt K mg) : FnOk P w K mg base CX0 2 T.a_law_draw T.fd_law_draw ["draws"] (sp_law_draw K) := by
  refine T.F_law_draw.ok sc_law_draw (fun vs H Q E h => ?_) (fun cdv A outer s H vs Q E hr h => ?_)
  · obtain ⟨d, n, rfl, _⟩ := h
    rfl
  · obtain ⟨d, n, rfl, hD, q⟩ := h
    have hn := hD.dn
    obtain ⟨ns, k, h1, h2, h3, h4, h5⟩ := hD
    have hD : Dr (upd H d (.lst [.ref n, .int (k + 1)])) d n := ⟨ns, k + 1, upd_same, by rw [upd_ne hn.symm]; exact h2, h3, by omega, h5⟩
    refine ⟨_, (pss_cons (ps_set (i := 1) sc_law_draw.nd rfl (.inl rfl) (pe_ix (r := rIxL K) ix_list (pv 0) pe_int (fun _ _ => rfl)))
      (pss_cons (ps_asg (pe_op op_add (pv 1) pe_int) (pg_sub (pv 0) pe_int set_list))
      (pss_cons (ps_if (pt_cmpR op_lt (pv 1) (pe_callB (id := "len") (r := rLen K) cr_len (by rfl) T.m_len PySem.boot_len (pa_cons (pe_ix (r := rIxL K) ix_list (pv 0) pe_int (fun _ _ => rfl)) pa_nil)) (nomark _))
      (pss_one (ps_ret (pe_ix (r := rIxL K) ix_list (pe_ix (r := rIxL K) ix_list (pv 0) pe_int (fun _ _ => rfl)) (pv 1) (fun _ _ => rfl))))
      pss_nil)
      (pss_cons (ps_set (i := 2) sc_law_draw.nd rfl (.inl rfl) (pe_op op_add pe_int (pv 1)))
      (pss_cons (ps_if (pt_cmpR op_gt (pe_callB (id := "len") (r := rLen K) cr_len (by rfl) T.m_len PySem.boot_len (pa_cons (pe_ix (r := rIxL K) ix_list (pv 0) pe_int (fun _ _ => rfl)) pa_nil)) pe_int (nomark _))
      (pss_one (ps_set (i := 2) sc_law_draw.nd rfl (.inl rfl) (pe_op op_add (pv 2) (pe_op op_mul pe_int (pe_ix (r := rIxL K) ix_list (pe_ix (r := rIxL K) ix_list (pv 0) pe_int (fun _ _ => rfl)) pe_int (fun _ _ => rfl))))))
      pss_nil)
      (pss_one (ps_ret (pe_op op_mod (pe_call (ok_law_mixed T) hr (by rfl) T.g_law_mixed T.F_law_mixed.kp T.b_law_mixed .nil pass0 (pa_cons (pe_call (ok_law_mixed T) hr (by rfl) T.g_law_mixed T.F_law_mixed.kp T.b_law_mixed .nil pass0 (pa_cons (pv 2) (pa_cons (pv 1) pa_nil))) (pa_cons pe_int pa_nil))) pe_int)))))))), ?_⟩
    walk_at "start"
    walk_at "x"
    refine x_ixL (sq_of h1) (show _ = some (V.int k) from rfl) ?_
    walk_at "x"
    refine x_subL (k := 1) h1 rfl ?_
    walk_at "x"
    have hd : (upd H d (HO.lst [.ref n, .int (k + 1)])) d = some (.lst [.ref n, .int (k + 1)]) := upd_same
    have hnn : (upd H d (HO.lst [.ref n, .int (k + 1)])) n = some (.lst (ns.map V.int)) := by rw [upd_ne hn.symm]; exact h2
    refine x_ixL (sq_of hd) (show _ = some (V.ref n) from rfl) ?_
    walk_at "x"
    refine x_len (sq_of hnn) ?_
    walk_at "x"
    rw [List.length_map]
    refine x_ite (fun hc => ?_) (fun hc => ?_)
    · walk_at "x"
      refine x_ixL (sq_of hd) (show _ = some (V.ref n) from rfl) ?_
      walk_at "x"
      obtain ⟨j, rfl⟩ : ∃ j : Nat, k = (j : Int) := ⟨k.toNat, by omega⟩
      have hj : j < ns.length := by omega
      refine x_ixL (v := .int ns[j]) (sq_of hnn) (atI_nat (by rw [List.getElem?_map, List.getElem?_eq_getElem hj]; rfl)) ?_
      exact q _ _ ⟨_, rfl, h3 _ (List.getElem_mem hj)⟩ hD keep_upd
    · walk_at "x"
      refine x_ixL (sq_of hd) (show _ = some (V.ref n) from rfl) ?_
      walk_at "x"
      refine x_len (sq_of hnn) ?_
      walk_at "x"
      rw [List.length_map]
      refine x_ite (fun hc => ?_) (fun hc => ?_)
      · walk_at "x"
        refine x_ixL (sq_of hd) (show _ = some (V.ref n) from rfl) ?_
        walk_at "x"
        have hj : 0 < ns.length := by omega
        refine x_ixL (v := .int ns[0]) (sq_of hnn) (atI_nat (j := 0) (by rw [List.getElem?_map, List.getElem?_eq_getElem hj]; rfl)) ?_
        walk_at "x"
        refine ⟨_, _, rfl, fun r h0 h1 => ?_⟩
        walk_at "x"
        refine ⟨_, _, rfl, fun r h0 h1 => ?_⟩
        walk_at "x"
        exact q _ _ ⟨_, rfl, Int.emod_nonneg _ (by decide), Int.emod_lt_of_pos _ (by decide)⟩ hD keep_upd
      · walk_at "x"
        refine ⟨_, _, rfl, fun r h0 h1 => ?_⟩
        walk_at "x"
        refine ⟨_, _, rfl, fun r h0 h1 => ?_⟩
        walk_at "x"
        exact q _ _ ⟨_, rfl, Int.emod_nonneg _ (by decide), Int.emod_lt_of_pos _ (by decide)⟩ hD keep_upd




end
end Br
namespace Br
open PySem PySem.Spec PyProof.Rows L2
local macro_rules | `(tactic| walk_at "x1") => `(tactic| (with_reducible first
  | refine Br.x_seq ?_ | refine Br.x_set ?_ | refine Br.x_asg ?_ | refine Br.x_next ?_ | refine Br.x_ret ?_ | refine Br.x_retN ?_ | refine Br.x_drop ?_ | refine Br.x_if ?_ | refine Br.x_brk ?_ | refine Br.x_cont ?_
  | refine Br.x_c ?_ | refine Br.x_op ?_ | refine Br.x_un ?_ | refine Br.x_I0 ?_ | refine Br.x_U ?_ | refine Br.x_EqI ?_ | refine Br.x_NeI ?_ | refine Br.x_EqB ?_ | refine Br.x_iN ?_ | refine Br.x_int1 ?_ | refine Br.x_min2 ?_ | refine Br.x_max2 ?_ | refine Br.x_nN ?_ | refine Br.x_ifE ?_
  | refine Br.x_test (b := ()) ?_ | refine Br.x_tB ?_ | refine Br.x_bl ?_ | refine Br.x_and ?_ | refine Br.x_or ?_ | refine Br.x_not ?_ | refine Br.x_andV ?_ | refine Br.x_orV ?_ | refine Br.x_notV ?_ | refine Br.x_blP ?_
  | refine Br.x_nil ?_ | refine Br.x_cons ?_ | refine Br.x_call ?_ | refine Br.x_CB ?_ | refine Br.x_BM ?_ | refine Br.x_tup ?_ | refine Br.x_lst ?_ | refine Br.x_chain ?_ | refine Br.x_par ?_ | refine Br.x_gSub ?_ | refine Br.x_gName ?_ | refine Br.x_fld ?_ | refine Br.x_fldS ?_ | refine Br.x_match ?_ | refine Br.x_else ?_ | refine Br.x_noCase ?_))
local macro_rules | `(tactic| walk_at "xv") => `(tactic| ((with_reducible refine' Br.x_var ?hvar ?_); (case hvar => rfl)))
local macro_rules | `(tactic| walk_at "xd") => `(tactic| (dsimp only [List.set_cons_zero, List.set_cons_succ, List.cons_append, List.nil_append, List.append_nil]))
local macro_rules | `(tactic| walk_at "xi") => `(tactic| ((with_reducible refine Br.x_I ?hside ?_); (case hside => first | exact Br.mul_r (by decide) (by decide) | exact Br.mul_l (by decide) (by decide) | exact Br.mul_l (by omega) (by omega) | exact Br.mul_r (by omega) (by omega) | (show (0 : Int) < _; first | decide | omega) | exact ⟨by decide, by decide⟩ | exact ⟨by omega, by omega⟩ | exact ⟨by decide, by decide, by decide⟩)))
local macro_rules | `(tactic| walk_at "x") => `(tactic| (repeat (first | walk_at "x1" | walk_at "xv" | walk_at "xi" | walk_at "xd")))
local macro_rules | `(tactic| walk_at "start") => `(tactic| (simp only [L2.start, List.map_cons, List.map_nil, List.length_cons, List.length_nil, Nat.reduceAdd, Nat.reduceSub, List.replicate, List.cons_append, List.nil_append, List.append_nil]))
local macro_rules | `(tactic| walk_at "isi") => `(tactic| first
  | refine Br.x_isi (b := true) (.base (.int _)) (by decide +kernel) ?_ | refine Br.x_isi (b := false) (.base (.int _)) (by decide +kernel) ?_
  | refine Br.x_isi (b := true) (.base (.bl _)) (by decide +kernel) ?_ | refine Br.x_isi (b := false) (.base (.bl _)) (by decide +kernel) ?_
  | refine Br.x_isi (b := false) (.base .non) (by decide +kernel) ?_
  | refine Br.x_isi (b := true) (.base (.str _)) (by decide +kernel) ?_ | refine Br.x_isi (b := false) (.base (.str _)) (by decide +kernel) ?_
  | refine Br.x_isi (b := true) (.base (.tup (by assumption))) (by decide +kernel) ?_ | refine Br.x_isi (b := false) (.base (.tup (by assumption))) (by decide +kernel) ?_
  | refine Br.x_isi (b := true) (.base (.lst (by assumption))) (by decide +kernel) ?_ | refine Br.x_isi (b := false) (.base (.lst (by assumption))) (by decide +kernel) ?_)
local macro_rules | `(tactic| walk_at "f") => `(tactic| (refine L2.iteF ?_; walk_at "x"))
local macro_rules | `(tactic| walk_at "t") => `(tactic| (refine L2.iteT ?_; walk_at "x"))
local macro_rules | `(tactic| walk_at "is") => `(tactic| (walk_at "isi"; walk_at "x"))
local macro_rules | `(tactic| walk_at "xb") => `(tactic| (simp only [Br.bindS, List.set_cons_zero, List.set_cons_succ]; walk_at "x"))

section
variable {P : Program} {w : World} {K : PySem.W.Frag} {mg : Str → Option Value} {base : Heap}

/-! ### primes -/
def PrimeI (n : Int) : Prop := 2 ≤ n ∧ ∀ d : Int, 2 ≤ d → d * d ≤ n → n % d ≠ 0
theorem sq_lt {a b : Int} (ha : 0 ≤ a) (h : a < b) : a * a < b * b := by
  have h1 : a * a ≤ a * b := Int.mul_le_mul_of_nonneg_left (Int.le_of_lt h) ha
  have h2 : a * b < b * b := Int.mul_lt_mul_of_pos_right h (by omega)
  omega
theorem le_of_sq {a b : Int} (hb : 0 ≤ b) (h : a * a ≤ b * b) : a ≤ b := by
  by_cases h1 : a ≤ b
  · exact h1
  · have := sq_lt hb (show b < a by omega)
    omega
theorem even_dvd {n d : Int} (hd : d % 2 = 0) (h : n % d = 0) : n % 2 = 0 := by
  obtain ⟨q, hq⟩ := Int.dvd_of_emod_eq_zero h
  obtain ⟨r, hr⟩ := Int.dvd_of_emod_eq_zero hd
  rw [hq, hr, Int.mul_assoc]
  exact Int.mul_emod_right 2 _

def sp_is_prime (K : PySem.W.Frag) : Sp := fun vs H Q _ => ∃ n : Int, vs = [.int n] ∧ 0 ≤ n ∧ n < 2000000000 ∧ ∀ b : Bool, (b = true ↔ PrimeI n) → Q (.bl b) H
theorem ok_is_prime (T : Txt K mg) : FnOk P w K mg base CX0 1 T.a_is_prime T.fd_is_prime ["n"] (sp_is_prime K) := by
  refine T.F_is_prime.ok sc_is_prime (fun vs H Q E h => ?_) (fun cdv A outer s H vs Q E hr h => ?_)
  · obtain ⟨n, rfl, _⟩ := h
    rfl
  · obtain ⟨n, rfl, h0, h1, q⟩ := h
    refine ⟨_, (pss_cons (ps_if (pt_cmpR op_lt (pv 0) pe_int (nomark _))
      (pss_one (ps_ret (pe_cmpR op_gt (pv 0) pe_int (nomark _))))
      pss_nil)
      (pss_cons (ps_if (pt_cmpR op_eq (pe_op op_mod (pv 0) pe_int) pe_int (nomark _))
      (pss_one (ps_ret pe_bl))
      pss_nil)
      (pss_cons (ps_for PassesOwn.never rfl (pi_range3 (by rfl) T.m_range (pa_cons pe_int (pa_cons (pe_op op_add (pe_callBfun cr_isqrt (by rfl) T.m_isqrt (pa_cons (pv 0) pa_nil)) pe_int) (pa_cons pe_int pa_nil)))) (pg_name (i := 1) sc_is_prime.nd rfl (Or.inl rfl))
      (pss_one (ps_if (pt_cmpR op_eq (pe_op op_mod (pv 0) (pv 1)) pe_int (nomark _))
      (pss_one (ps_ret pe_bl))
      pss_nil)))
      (pss_one (ps_ret pe_bl))))), ?_⟩
    walk_at "start"
    walk_at "x"
    refine x_ite (fun hc => ?_) (fun hc => ?_)
    · walk_at "x"
      refine q _ ⟨fun e => ⟨by have := of_decide_eq_true e; omega, fun d h2 hd => ?_⟩, fun e => decide_eq_true (by have := e.1; omega)⟩
      have : 2 * 2 ≤ d * d := Int.mul_le_mul h2 h2 (by decide) (by omega)
      omega
    · walk_at "x"
      refine x_ite (fun hc2 => ?_) (fun hc2 => ?_)
      · walk_at "x"
        exact q _ ⟨fun e => (by cases e), fun e => absurd hc2 (e.2 2 (by decide) (by omega))⟩
      · walk_at "x"
        have hn2 : ∀ d : Int, d % 2 = 0 → n % d ≠ 0 := fun d hd e => hc2 (even_dvd hd e)
        obtain ⟨r, er, hr0, hr1, hr2⟩ := isq_spec h0
        have hr3 : r < 44722 := by
          by_cases hh : r < 44722
          · exact hh
          · have : (44722 : Int) * 44722 ≤ r * r := Int.mul_le_mul (by omega) (by omega) (by decide) (by omega)
            omega
        refine x_forR3 3 (r + 1) 2 (fun i σ' H' => ∃ v, σ' = [some (.int n), v] ∧ H' = H ∧ ∀ d : Int, 2 ≤ d → d < 3 + (i : Int) * 2 → n % d ≠ 0) (fun R k => k) (fun R k => by walk_at "x"; exact x_isqrt0 h0 (by omega) er (by walk_at "x"; exact k)) (fun R k => k) (by decide) (by decide) (by decide) (by decide) (by omega) (by omega) ?_ ?_ ?_
        · exact ⟨none, rfl, rfl, fun d h2 h3 => by
            have e : d = 2 := by omega
            rw [e]; exact hc2⟩
        · rintro i σ' H' hi ⟨v, rfl, rfl, hI⟩
          walk_at "x"
          refine x_ite (fun hd => ?_) (fun hd => ?_)
          · walk_at "x"
            refine q _ ⟨fun e => (by cases e), fun e => absurd hd (e.2 _ (by omega) ?_)⟩
            have : (3 + (i : Int) * 2) * (3 + (i : Int) * 2) ≤ r * r := Int.mul_le_mul (by omega) (by omega) (by omega) (by omega)
            omega
          · walk_at "x"
            refine ⟨_, rfl, rfl, fun d h2 h3 => ?_⟩
            by_cases h4 : d < 3 + (i : Int) * 2
            · exact hI d h2 h4
            · by_cases h5 : d = 3 + (i : Int) * 2
              · rw [h5]; exact hd
              · exact hn2 d (by omega)
        · rintro i σ' H' hi ⟨v, rfl, rfl, hI⟩
          walk_at "x"
          refine q _ ⟨fun _ => ⟨by omega, fun d h2 h3 => hI d h2 ?_⟩, fun _ => rfl⟩
          have : d < r + 1 := by
            by_cases hh : d < r + 1
            · exact hh
            · have : (r + 1) * (r + 1) ≤ d * d := Int.mul_le_mul (by omega) (by omega) (by omega) (by omega)
              omega
          omega




open Br.F
/-- a value of any kind that the laws put in -/
inductive Odd (H : Hp) : V → Prop
  | int (i : Int) : Odd H (.int i)
  | bl (b : Bool) : Odd H (.bl b)
  | non : Odd H .non
  | str (x : Str) : Odd H (.str x)
  | tup (a : Addr) (xs : List V) (h : H a = some (.tup xs)) : Odd H (.ref a)
  | lst (a : Addr) (xs : List V) (h : H a = some (.lst xs)) : Odd H (.ref a)
theorem Odd.same {H H' : Hp} {v : V} (h : Odd H v) (s : Same H H') : Odd H' v := by
  cases h with
  | int i => exact .int i
  | bl b => exact .bl b
  | non => exact .non
  | str x => exact .str x
  | tup a xs h => exact .tup a xs (s _ _ h)
  | lst a xs h => exact .lst a xs (s _ _ h)
def isB (v : V) (b : Int) : Bool := match v with
  | .int i => decide (0 ≤ i) && decide (i < b)
  | _ => false
theorem isB_int {i b : Int} (h0 : 0 ≤ i) (h1 : i < b) : isB (.int i) b = true := by
  show (decide (0 ≤ i) && decide (i < b)) = true
  rw [decide_eq_true h0, decide_eq_true h1]; rfl

def sp_is_below (K : PySem.W.Frag) : Sp := fun vs H Q _ => ∃ (v : V) (b : Int), vs = [v, .int b] ∧ Odd H v ∧ Q (.bl (isB v b)) H
theorem ok_is_below (T : Txt K mg) : FnOk P w K mg base CX0 1 T.a_is_below T.fd_is_below ["value", "bound"] (sp_is_below K) := by
  refine T.F_is_below.ok sc_is_below (fun vs H Q E h => ?_) (fun cdv A outer s H vs Q E hr h => ?_)
  · obtain ⟨v, b, rfl, _⟩ := h
    rfl
  · obtain ⟨v, b, rfl, hv, q⟩ := h
    refine ⟨_, (pss_one (ps_ret (pe_and (pe_callB (id := "isinstance") (r := rIsi K) call_isi (by rfl) T.m_isinstance (by decide +kernel) (pa_cons (pv 0) (pa_cons (pe_bltn (v := .ty "int") (by rfl) T.m_int (by decide +kernel) rfl) pa_nil))) (pe_and (pe_not (pe_callB (id := "isinstance") (r := rIsi K) call_isi (by rfl) T.m_isinstance (by decide +kernel) (pa_cons (pv 0) (pa_cons (pe_bltn (v := .ty "bool") (by rfl) T.m_bool (by decide +kernel) rfl) pa_nil)))) (pe_one (pe_chain op_le op_lt pe_int (pv 0) (pv 1))))))), ?_⟩
    walk_at "start"
    cases hv with
    | int i =>
      walk_at "x"
      walk_at "is"
      walk_at "t"
      walk_at "is"
      walk_at "t"
      refine x_ite (fun h0 => ?_) (fun h0 => ?_)
      · walk_at "x"
        have e : isB (.int i) b = decide (i < b) := by show (decide (0 ≤ i) && decide (i < b)) = _; rw [decide_eq_true h0]; rfl
        rw [← e]; exact q
      · have e : isB (.int i) b = false := by show (decide (0 ≤ i) && decide (i < b)) = _; rw [decide_eq_false h0]; rfl
        rw [← e]; exact q
    | bl x =>
      walk_at "x"
      walk_at "is"
      walk_at "t"
      walk_at "is"
      walk_at "f"
      exact q
    | non =>
      walk_at "x"
      walk_at "is"
      walk_at "f"
      exact q
    | str x =>
      walk_at "x"
      walk_at "is"
      walk_at "f"
      exact q
    | tup a xs h =>
      walk_at "x"
      walk_at "is"
      walk_at "f"
      exact q
    | lst a xs h =>
      walk_at "x"
      walk_at "is"
      walk_at "f"
      exact q



def sp_is_modulus (K : PySem.W.Frag) : Sp := fun vs H Q _ => ∃ (v : V), vs = [v] ∧ Odd H v ∧ Q (.bl (isB v 1000000001 && !isB v 2)) H
theorem ok_is_modulus (T : Txt K mg) : FnOk P w K mg base CX0 2 T.a_is_modulus T.fd_is_modulus ["value"] (sp_is_modulus K) := by
  refine T.F_is_modulus.ok sc_is_modulus (fun vs H Q E h => ?_) (fun cdv A outer s H vs Q E hr h => ?_)
  · obtain ⟨v, rfl, _⟩ := h
    rfl
  · obtain ⟨v, rfl, hv, q⟩ := h
    refine ⟨_, (pss_one (ps_ret (pe_and (pe_call (ok_is_below T) hr (by rfl) T.g_is_below T.F_is_below.kp T.b_is_below .nil pass0 (pa_cons (pv 0) (pa_cons (pe_op op_add (pe_glob (v := .int 1000000000) (by rfl) T.c_GREATEST_MODULUS ⟨_, rfl⟩) pe_int) pa_nil))) (pe_one (pe_cmpR op_ge (pv 0) pe_int (nomark _)))))), ?_⟩
    walk_at "start"
    walk_at "x"
    refine ⟨v, _, rfl, hv, ?_⟩
    walk_at "x"
    refine x_iteB (fun hb => ?_) (fun hb => ?_)
    · cases hv with
      | int i =>
        have h0 : 0 ≤ i := by
          by_cases h0 : 0 ≤ i
          · exact h0
          · exfalso
            have e : (decide (0 ≤ i) && decide (i < 1000000000 + 1)) = true := hb
            rw [decide_eq_false h0] at e
            cases e
        walk_at "x"
        have e : (isB (.int i) 1000000001 && !isB (.int i) 2) = decide (2 ≤ i) := by
          rw [show isB (.int i) 1000000001 = true from hb]
          show (true && !(decide (0 ≤ i) && decide (i < 2))) = _
          rw [decide_eq_true h0]
          by_cases h2 : 2 ≤ i
          · rw [decide_eq_true h2, decide_eq_false (show ¬ i < 2 by omega)]; rfl
          · rw [decide_eq_false h2, decide_eq_true (show i < 2 by omega)]; rfl
        rw [← e]
        exact q
      | _ => cases hb
    · rw [show isB v 1000000001 = false from hb] at q
      exact q




def sp_is_factor (K : PySem.W.Frag) : Sp := fun vs H Q _ => ∃ (a : Addr) (f : Fac) (t c i : Nat), vs = [.ref a, .int (t : Int), .int (c : Int), .int (i : Int)] ∧ FacAt H a f ∧ FacOk c i t f ∧ Q (.bl true) H
theorem ok_is_factor (T : Txt K mg) : FnOk P w K mg base CX0 2 T.a_is_factor T.fd_is_factor ["factor", "target", "cells", "inputs"] (sp_is_factor K) := by
  refine T.F_is_factor.ok sc_is_factor (fun vs H Q E h => ?_) (fun cdv A outer s H vs Q E hr h => ?_)
  · obtain ⟨a, f, t, c, i, rfl, _⟩ := h
    rfl
  · obtain ⟨a, f, t, c, i, rfl, hf, ok, q⟩ := h
    refine ⟨_, (pss_cons (ps_if (pt_not (pt_val (pe_callB (id := "isinstance") (r := rIsi K) call_isi (by rfl) T.m_isinstance (by decide +kernel) (pa_cons (pv 0) (pa_cons (pe_bltn (v := .ty "tuple") (by rfl) T.m_tuple (by decide +kernel) rfl) pa_nil)))))
      (pss_one (ps_ret pe_bl))
      pss_nil)
      (pss_one (ps_match (pv 0) (pcs_seq rfl op_eq (pcap_name 4 sc_is_factor.nd rfl (.inl rfl) pcap_nil)
      (pss_one (ps_ret (pe_and (pe_call (ok_is_below T) hr (by rfl) T.g_is_below T.F_is_below.kp T.b_is_below .nil pass0 (pa_cons (pv 4) (pa_cons (pv 2) pa_nil))) (pe_one (pe_cmpR op_ne (pv 4) (pv 1) (nomark _))))))
      (pcs_seq rfl op_eq (pcap_name 4 sc_is_factor.nd rfl (.inl rfl) pcap_nil)
      (pss_one (ps_ret (pe_call (ok_is_below T) hr (by rfl) T.g_is_below T.F_is_below.kp T.b_is_below .nil pass0 (pa_cons (pv 4) (pa_cons (pv 3) pa_nil)))))
      (pcs_else (rest := _) (pss_one (ps_ret pe_bl)))))))), ?_⟩
    walk_at "start"
    cases f with
    | cell k =>
      have hf : H a = some (.tup [.str "cell", .int (k : Int)]) := hf
      walk_at "x"
      walk_at "is"
      walk_at "f"
      refine x_caseY (st_of hf) rfl ?_
      walk_at "xb"
      refine ⟨_, _, rfl, .int _, ?_⟩
      walk_at "x"
      rw [isB_int (by omega) (by have := ok.1; omega)]
      walk_at "t"
      rw [decide_eq_false (show ¬ (k : Int) = (t : Int) by have := ok.2; omega)]
      exact q
    | inp k =>
      have hf : H a = some (.tup [.str "input", .int (k : Int)]) := hf
      walk_at "x"
      walk_at "is"
      walk_at "f"
      refine x_caseW (st_of hf) rfl (by decide) ?_
      refine x_caseY (st_of hf) rfl ?_
      walk_at "xb"
      refine ⟨_, _, rfl, .int _, ?_⟩
      rw [isB_int (by omega) (by have h : k < i := ok; omega)]
      exact q


def sp_are_factors (K : PySem.W.Frag) : Sp := fun vs H Q _ => ∃ (a : Addr) (as : List Addr) (fs : List Fac) (t c i : Nat), vs = [.ref a, .int (t : Int), .int (c : Int), .int (i : Int)] ∧ H a = some (.tup (as.map V.ref)) ∧ as.length = fs.length ∧ (∀ (k : Nat) x b, fs[k]? = some x → as[k]? = some b → FacAt H b x) ∧
  fs.length ≤ 3 ∧ (∀ f, f ∈ fs → FacOk c i t f) ∧ ∀ H', Same H H' → Q (.bl true) H'
theorem ok_are_factors (T : Txt K mg) : FnOk P w K mg base CX0 3 T.a_are_factors T.fd_are_factors ["factors", "target", "cells", "inputs"] (sp_are_factors K) := by
  refine T.F_are_factors.ok sc_are_factors (fun vs H Q E h => ?_) (fun cdv A outer s H vs Q E hr h => ?_)
  · obtain ⟨a, as, fs, t, c, i, rfl, _⟩ := h
    rfl
  · obtain ⟨a, as, fs, t, c, i, rfl, ha, hl, hf, h3, ok, q⟩ := h
    refine ⟨_, (pss_cons (ps_if (PW.pt (pw_or (pt_not (pt_val (pe_callB (id := "isinstance") (r := rIsi K) call_isi (by rfl) T.m_isinstance (by decide +kernel) (pa_cons (pv 0) (pa_cons (pe_bltn (v := .ty "tuple") (by rfl) T.m_tuple (by decide +kernel) rfl) pa_nil))))) (pw_or1 (pt_cmpR op_gt (pe_callB (id := "len") (r := rLen K) cr_len (by rfl) T.m_len PySem.boot_len (pa_cons (pv 0) pa_nil)) (pe_glob (v := .int 3) (by rfl) T.c_MOST_FACTORS ⟨_, rfl⟩) (nomark _)))))
      (pss_one (ps_ret pe_bl))
      pss_nil)
      (pss_one (ps_ret (pe_callB (id := "all") (r := rAll K) (cr_all rfl) (by rfl) T.m_all (by decide +kernel) (pa_cons (pe_lc (own := [("factor", 4)]) (g := gName 4) (tt := tYes) rfl sc_are_factors.nd (pi_tup (pv 0)) (blkOk_by (N := N_are_factors) (sc := defScope s_are_factors) (by decide +kernel)) (fun _ _ _ _ _ => (pg_name (i := 4) sc_are_factors.nd rfl (Or.inl rfl))) (fun _ _ _ _ _ => pts_nil) (fun _ _ _ _ _ => (pe_call (ok_is_factor T) hr (by rfl) T.g_is_factor T.F_is_factor.kp T.b_is_factor .nil pass0 (pa_cons (pv 4) (pa_cons (pv 1) (pa_cons (pv 2) (pa_cons (pv 3) pa_nil))))))) pa_nil))))), ?_⟩
    walk_at "start"
    walk_at "x"
    walk_at "is"
    walk_at "f"
    refine x_lenT (st_of ha) ?_
    walk_at "x"
    rw [List.length_map, hl, decide_eq_false (show ¬ (3 : Int) < (fs.length : Int) by omega)]
    walk_at "f"
    refine x_lcB (xs := as.map V.ref) (fun _ => true) (J := Itt K a) (G := fun H => SqT K H a (as.map V.ref)) (fun R r => ⟨_, rfl, a, rfl, ⟨_, st_of ha⟩, r⟩) walk_tup (by rw [List.length_map]; omega) (fun H' s => st_of (s _ _ ha)) (fun x => rfl) ?_ ?_
    · intro k x H' hs hx R hR
      obtain ⟨b, hb, rfl⟩ := map_getR hx
      have hk : k < fs.length := by
        have := (List.getElem?_eq_some_iff.mp hb).1
        omega
      walk_at "x"
      exact ⟨b, _, t, c, i, rfl, (hf k _ b (List.getElem?_eq_getElem hk) hb).tups (Tups.same hs), ok _ (List.getElem_mem hk), hR H' (Same.refl _)⟩
    · intro p H' hp hs hP
      walk_at "x"
      refine x_all hP ?_
      rw [all_range fun _ _ => rfl]
      exact q H' hs


def sp_are_three_cells (K : PySem.W.Frag) : Sp := fun vs H Q _ => ∃ (t a b c : Nat), vs = [.int (t : Int), .int (a : Int), .int (b : Int), .int (c : Int)] ∧ t < c ∧ a < c ∧ b < c ∧ t ≠ a ∧ t ≠ b ∧ a ≠ b ∧ ∀ H', Same H H' → Q (.bl true) H'
theorem ok_are_three_cells (T : Txt K mg) : FnOk P w K mg base CX0 2 T.a_are_three_cells T.fd_are_three_cells ["target", "a", "b", "cells"] (sp_are_three_cells K) := by
  refine T.F_are_three_cells.ok sc_are_three_cells (fun vs H Q E h => ?_) (fun cdv A outer s H vs Q E hr h => ?_)
  · obtain ⟨t, a, b, c, rfl, _⟩ := h
    rfl
  · obtain ⟨t, a, b, c, rfl, ht, ha, hb, hta, htb, hab, q⟩ := h
    refine ⟨_, (pss_cons (ps_if (pt_not (pt_val (pe_callB (id := "all") (r := rAll K) (cr_all rfl) (by rfl) T.m_all (by decide +kernel) (pa_cons (pe_lc (own := [("cell", 4)]) (g := gName 4) (tt := tYes) rfl sc_are_three_cells.nd (pi_tup (pe_tup (pa_cons (pv 0) (pa_cons (pv 1) (pa_cons (pv 2) pa_nil))))) (blkOk_by (N := N_are_three_cells) (sc := defScope s_are_three_cells) (by decide +kernel)) (fun _ _ _ _ _ => (pg_name (i := 4) sc_are_three_cells.nd rfl (Or.inl rfl))) (fun _ _ _ _ _ => pts_nil) (fun _ _ _ _ _ => (pe_call (ok_is_below T) hr (by rfl) T.g_is_below T.F_is_below.kp T.b_is_below .nil pass0 (pa_cons (pv 4) (pa_cons (pv 3) pa_nil))))) pa_nil))))
      (pss_one (ps_ret pe_bl))
      pss_nil)
      (pss_one (ps_ret (pe_and (pe_cmpR op_ne (pv 0) (pv 1) (nomark _)) (pe_and (pe_cmpR op_ne (pv 0) (pv 2) (nomark _)) (pe_one (pe_cmpR op_ne (pv 1) (pv 2) (nomark _)))))))), ?_⟩
    walk_at "start"
    walk_at "x"
    refine x_lcB0 (xs := [.int (t : Int), .int (a : Int), .int (b : Int)]) (fun _ => true) (Nat.le_of_ble_eq_true rfl) (fun R hR => ?_) (fun x => rfl) ?_ ?_
    · unfold iTup
      walk_at "x"
      refine ⟨by show 3 ≤ sizeLine; decide, fun o ho => ?_⟩
      exact ⟨o, rfl, ⟨_, st_of upd_same⟩, hR (Itt K o) _ _ (same_upd ho) walk_tup fun H' s => st_of (s _ _ upd_same)⟩
    · intro k x H' hs hx R hR
      have hx' : x = .int (t : Int) ∨ x = .int (a : Int) ∨ x = .int (b : Int) := by
        have := List.mem_of_getElem? hx
        simpa using this
      walk_at "x"
      rcases hx' with rfl | rfl | rfl
      · refine ⟨_, _, rfl, .int _, ?_⟩
        rw [isB_int (by omega) (by omega)]
        exact hR H' (Same.refl _)
      · refine ⟨_, _, rfl, .int _, ?_⟩
        rw [isB_int (by omega) (by omega)]
        exact hR H' (Same.refl _)
      · refine ⟨_, _, rfl, .int _, ?_⟩
        rw [isB_int (by omega) (by omega)]
        exact hR H' (Same.refl _)
    · intro p H' hs hP
      walk_at "x"
      refine x_all hP ?_
      rw [all_range fun _ _ => rfl]
      walk_at "x"
      walk_at "f"
      rw [decide_eq_false (show ¬ (t : Int) = (a : Int) by omega)]
      walk_at "t"
      rw [decide_eq_false (show ¬ (t : Int) = (b : Int) by omega)]
      walk_at "t"
      rw [decide_eq_false (show ¬ (a : Int) = (b : Int) by omega)]
      exact q H' hs


def sp_is_sign (K : PySem.W.Frag) : Sp := fun vs H Q _ => ∃ (s : Int) (m : Nat), vs = [.int s, .int (m : Int)] ∧ 2 ≤ m ∧ (s = 1 ∨ s = (m : Int) - 1) ∧ ∀ H', Same H H' → Q (.bl true) H'
theorem ok_is_sign (T : Txt K mg) : FnOk P w K mg base CX0 2 T.a_is_sign T.fd_is_sign ["sign", "modulus"] (sp_is_sign K) := by
  refine T.F_is_sign.ok sc_is_sign (fun vs H Q E h => ?_) (fun cdv A outer s H vs Q E hr h => ?_)
  · obtain ⟨s, m, rfl, _⟩ := h
    rfl
  · obtain ⟨s, m, rfl, hm, hs, q⟩ := h
    refine ⟨_, (pss_one (ps_ret (pe_and (pe_call (ok_is_below T) hr (by rfl) T.g_is_below T.F_is_below.kp T.b_is_below .nil pass0 (pa_cons (pv 0) (pa_cons (pv 1) pa_nil))) (pe_one (pe_cmpR (r := rIn K false) op_in_seq (pv 0) (pe_tup (pa_cons pe_int (pa_cons (pe_op op_sub (pv 1) pe_int) pa_nil))) (by with_unfolding_all rfl)))))), ?_⟩
    walk_at "start"
    walk_at "x"
    refine ⟨_, _, rfl, .int _, ?_⟩
    rw [isB_int (by omega) (by omega)]
    walk_at "x"
    walk_at "t"
    refine ⟨by show 2 ≤ sizeLine; decide, fun o ho => ?_⟩
    refine ⟨o, [.int 1, .int ((m : Int) - 1)], rfl, .inr (st_of upd_same), rfl, rfl, ?_⟩
    have e : inV (.int s) [.int 1, .int ((m : Int) - 1)] = true := by
      show ((1 : Int) == s || ((m : Int) - 1 == s || false)) = true
      rcases hs with rfl | rfl
      · simp
      · simp
    rw [e]
    exact q _ (same_upd ho)


def sp_is_row (K : PySem.W.Frag) : Sp := fun vs H Q _ => ∃ (a : Addr) (r : List Int) (n m : Nat), vs = [.ref a, .int (n : Int), .int (m : Int)] ∧ H a = some (.tup (r.map V.int)) ∧ r.length = n ∧ n ≤ 1000 ∧ Rg 0 m r ∧ ∀ H', Same H H' → Q (.bl true) H'
theorem ok_is_row (T : Txt K mg) : FnOk P w K mg base CX0 2 T.a_is_row T.fd_is_row ["row", "size", "modulus"] (sp_is_row K) := by
  refine T.F_is_row.ok sc_is_row (fun vs H Q E h => ?_) (fun cdv A outer s H vs Q E hr h => ?_)
  · obtain ⟨a, r, n, m, rfl, _⟩ := h
    rfl
  · obtain ⟨a, r, n, m, rfl, ha, hl, hn, hR, q⟩ := h
    refine ⟨_, (pss_cons (ps_if (PW.pt (pw_or (pt_not (pt_val (pe_callB (id := "isinstance") (r := rIsi K) call_isi (by rfl) T.m_isinstance (by decide +kernel) (pa_cons (pv 0) (pa_cons (pe_bltn (v := .ty "tuple") (by rfl) T.m_tuple (by decide +kernel) rfl) pa_nil))))) (pw_or1 (pt_cmpR op_ne (pe_callB (id := "len") (r := rLen K) cr_len (by rfl) T.m_len PySem.boot_len (pa_cons (pv 0) pa_nil)) (pv 1) (nomark _)))))
      (pss_one (ps_ret pe_bl))
      pss_nil)
      (pss_one (ps_ret (pe_callB (id := "all") (r := rAll K) (cr_all rfl) (by rfl) T.m_all (by decide +kernel) (pa_cons (pe_lc (own := [("value", 3)]) (g := gName 3) (tt := tYes) rfl sc_is_row.nd (pi_tup (pv 0)) (blkOk_by (N := N_is_row) (sc := defScope s_is_row) (by decide +kernel)) (fun _ _ _ _ _ => (pg_name (i := 3) sc_is_row.nd rfl (Or.inl rfl))) (fun _ _ _ _ _ => pts_nil) (fun _ _ _ _ _ => (pe_call (ok_is_below T) hr (by rfl) T.g_is_below T.F_is_below.kp T.b_is_below .nil pass0 (pa_cons (pv 3) (pa_cons (pv 2) pa_nil))))) pa_nil))))), ?_⟩
    walk_at "start"
    walk_at "x"
    walk_at "is"
    walk_at "f"
    refine x_lenT (st_of ha) ?_
    walk_at "x"
    rw [List.length_map, hl, decide_eq_true rfl]
    walk_at "f"
    refine x_lcB (xs := r.map V.int) (fun _ => true) (J := Itt K a) (G := fun H => SqT K H a (r.map V.int)) (fun R r => ⟨_, rfl, a, rfl, ⟨_, st_of ha⟩, r⟩) walk_tup (by rw [List.length_map]; omega) (fun H' s => st_of (s _ _ ha)) (fun x => rfl) ?_ ?_
    · intro k x H' hs hx R hR'
      obtain ⟨z, hz, rfl⟩ := map_get hx
      walk_at "x"
      refine ⟨_, _, rfl, .int _, ?_⟩
      rw [isB_int (hR.get hz).1 (hR.get hz).2]
      exact hR' H' (Same.refl _)
    · intro p H' hp hs hP
      walk_at "x"
      refine x_all hP ?_
      rw [all_range fun _ _ => rfl]
      exact q H' hs


def sp_is_table (K : PySem.W.Frag) : Sp := fun vs H Q _ => ∃ (a : Addr) (tb : List (List Int)) (m : Nat), vs = [.ref a, .int (m : Int)] ∧ TbAt H a tb ∧ IsTab m tb ∧ tb.length ≤ 1000 ∧ ∀ H', Same H H' → Q (.bl true) H'
theorem ok_is_table (T : Txt K mg) : FnOk P w K mg base CX0 3 T.a_is_table T.fd_is_table ["table", "modulus"] (sp_is_table K) := by
  refine T.F_is_table.ok sc_is_table (fun vs H Q E h => ?_) (fun cdv A outer s H vs Q E hr h => ?_)
  · obtain ⟨a, tb, m, rfl, _⟩ := h
    rfl
  · obtain ⟨a, tb, m, rfl, ⟨as, ha, hl, hrow⟩, hI, hn, q⟩ := h
    have h1 := hI.pos
    have h2 := hI.le
    refine ⟨_, (pss_cons (ps_if (PW.pt (pw_or (pt_not (pt_val (pe_callB (id := "isinstance") (r := rIsi K) call_isi (by rfl) T.m_isinstance (by decide +kernel) (pa_cons (pv 0) (pa_cons (pe_bltn (v := .ty "tuple") (by rfl) T.m_tuple (by decide +kernel) rfl) pa_nil))))) (pw_or1 (pt_not (pt_chain op_le op_le pe_int (pe_callB (id := "len") (r := rLen K) cr_len (by rfl) T.m_len PySem.boot_len (pa_cons (pv 0) pa_nil)) (pv 1))))))
      (pss_one (ps_ret pe_bl))
      pss_nil)
      (pss_one (ps_ret (pe_callB (id := "all") (r := rAll K) (cr_all rfl) (by rfl) T.m_all (by decide +kernel) (pa_cons (pe_lc (own := [("row", 2)]) (g := gName 2) (tt := tYes) rfl sc_is_table.nd (pi_tup (pv 0)) (blkOk_by (N := N_is_table) (sc := defScope s_is_table) (by decide +kernel)) (fun _ _ _ _ _ => (pg_name (i := 2) sc_is_table.nd rfl (Or.inl rfl))) (fun _ _ _ _ _ => pts_nil) (fun _ _ _ _ _ => (pe_call (ok_is_row T) hr (by rfl) T.g_is_row T.F_is_row.kp T.b_is_row .nil pass0 (pa_cons (pv 2) (pa_cons (pe_callB (id := "len") (r := rLen K) cr_len (by rfl) T.m_len PySem.boot_len (pa_cons (pv 0) pa_nil)) (pa_cons (pv 1) pa_nil)))))) pa_nil))))), ?_⟩
    walk_at "start"
    walk_at "x"
    walk_at "is"
    walk_at "f"
    refine x_lenT (st_of ha) ?_
    walk_at "x"
    rw [List.length_map, hl, decide_eq_true (show (1 : Int) ≤ (tb.length : Int) by omega)]
    walk_at "t"
    rw [decide_eq_true (show (tb.length : Int) ≤ (m : Int) by omega)]
    walk_at "f"
    refine x_lcB (xs := as.map V.ref) (fun _ => true) (J := Itt K a) (G := fun H => SqT K H a (as.map V.ref)) (fun R r => ⟨_, rfl, a, rfl, ⟨_, st_of ha⟩, r⟩) walk_tup (by rw [List.length_map]; omega) (fun H' s => st_of (s _ _ ha)) (fun x => rfl) ?_ ?_
    · intro k x H' hs hx R hR
      obtain ⟨b, hb, rfl⟩ := map_getR hx
      have hk : k < tb.length := by
        have := (List.getElem?_eq_some_iff.mp hb).1
        omega
      obtain ⟨rl, rR⟩ := hI.rows k _ (List.getElem?_eq_getElem hk)
      walk_at "x"
      refine x_lenT (st_of (hs _ _ ha)) ?_
      walk_at "x"
      rw [List.length_map, hl]
      exact ⟨b, _, tb.length, m, rfl, hs _ _ (hrow k _ b (List.getElem?_eq_getElem hk) hb), rl, hn, rR, fun H2 s2 => hR H2 s2⟩
    · intro p H' hp hs hP
      walk_at "x"
      refine x_all hP ?_
      rw [all_range fun _ _ => rfl]
      exact q H' hs


def sp_is_step (K : PySem.W.Frag) : Sp := fun vs H Q _ => ∃ (a : Addr) (s : Stp) (m c i : Nat), vs = [.ref a, .int (m : Int), .int (c : Int), .int (i : Int)] ∧ StpAt H a s ∧ StpOk m c i s ∧ 2 ≤ m ∧ ∀ H', Same H H' → Q (.bl true) H'
theorem ok_is_step (T : Txt K mg) : FnOk P w K mg base CX0 4 T.a_is_step T.fd_is_step ["step", "modulus", "cells", "inputs"] (sp_is_step K) := by
  refine T.F_is_step.ok sc_is_step (fun vs H Q E h => ?_) (fun cdv A outer s H vs Q E hr h => ?_)
  · obtain ⟨a, s, m, c, i, rfl, _⟩ := h
    rfl
  · obtain ⟨a, s, m, c, i, rfl, hs, ok, hm, q⟩ := h
    refine ⟨_, (pss_cons (ps_if (pt_not (pt_val (pe_callB (id := "isinstance") (r := rIsi K) call_isi (by rfl) T.m_isinstance (by decide +kernel) (pa_cons (pv 0) (pa_cons (pe_bltn (v := .ty "tuple") (by rfl) T.m_tuple (by decide +kernel) rfl) pa_nil)))))
      (pss_one (ps_ret pe_bl))
      pss_nil)
      (pss_one (ps_match (pv 0) (pcs_seq rfl op_eq (pcap_name 4 sc_is_step.nd rfl (.inl rfl) (pcap_name 5 sc_is_step.nd rfl (.inl rfl) (pcap_name 6 sc_is_step.nd rfl (.inl rfl) pcap_nil)))
      (pss_one (ps_ret (pe_and (pe_call (ok_is_below T) (hr.mono (by decide)) (by rfl) T.g_is_below T.F_is_below.kp T.b_is_below .nil pass0 (pa_cons (pv 4) (pa_cons (pv 2) pa_nil))) (pe_and (pe_call (ok_is_below T) (hr.mono (by decide)) (by rfl) T.g_is_below T.F_is_below.kp T.b_is_below .nil pass0 (pa_cons (pv 5) (pa_cons (pv 1) pa_nil))) (pe_one (pe_call (ok_are_factors T) hr (by rfl) T.g_are_factors T.F_are_factors.kp T.b_are_factors .nil pass0 (pa_cons (pv 6) (pa_cons (pv 4) (pa_cons (pv 2) (pa_cons (pv 3) pa_nil))))))))))
      (pcs_seq rfl op_eq (pcap_name 4 sc_is_step.nd rfl (.inl rfl) (pcap_name 7 sc_is_step.nd rfl (.inl rfl) pcap_nil))
      (pss_one (ps_ret (pe_and (pe_call (ok_is_below T) (hr.mono (by decide)) (by rfl) T.g_is_below T.F_is_below.kp T.b_is_below .nil pass0 (pa_cons (pv 4) (pa_cons (pv 2) pa_nil))) (pe_and (pe_call (ok_is_below T) (hr.mono (by decide)) (by rfl) T.g_is_below T.F_is_below.kp T.b_is_below .nil pass0 (pa_cons (pv 7) (pa_cons (pv 1) pa_nil))) (pe_one (pe_cmpR op_eq (pe_callBfun cr_gcd (by rfl) T.m_gcd (pa_cons (pv 7) (pa_cons (pv 1) pa_nil))) pe_int (nomark _)))))))
      (pcs_seq rfl op_eq (pcap_name 8 sc_is_step.nd rfl (.inl rfl) (pcap_name 9 sc_is_step.nd rfl (.inl rfl) pcap_nil))
      (pss_one (ps_ret (pe_and (pe_call (ok_is_below T) (hr.mono (by decide)) (by rfl) T.g_is_below T.F_is_below.kp T.b_is_below .nil pass0 (pa_cons (pv 8) (pa_cons (pv 2) pa_nil))) (pe_and (pe_call (ok_is_below T) (hr.mono (by decide)) (by rfl) T.g_is_below T.F_is_below.kp T.b_is_below .nil pass0 (pa_cons (pv 9) (pa_cons (pv 2) pa_nil))) (pe_one (pe_cmpR op_ne (pv 8) (pv 9) (nomark _)))))))
      (pcs_seq rfl op_eq (pcap_name 4 sc_is_step.nd rfl (.inl rfl) (pcap_name 10 sc_is_step.nd rfl (.inl rfl) (pcap_name 11 sc_is_step.nd rfl (.inl rfl) (pcap_name 8 sc_is_step.nd rfl (.inl rfl) (pcap_name 9 sc_is_step.nd rfl (.inl rfl) pcap_nil)))))
      (pss_one (ps_ret (pe_and (pe_call (ok_are_three_cells T) (hr.mono (by decide)) (by rfl) T.g_are_three_cells T.F_are_three_cells.kp T.b_are_three_cells .nil pass0 (pa_cons (pv 4) (pa_cons (pv 8) (pa_cons (pv 9) (pa_cons (pv 2) pa_nil))))) (pe_and (pe_call (ok_is_sign T) (hr.mono (by decide)) (by rfl) T.g_is_sign T.F_is_sign.kp T.b_is_sign .nil pass0 (pa_cons (pv 10) (pa_cons (pv 1) pa_nil))) (pe_one (pe_call (ok_is_table T) hr (by rfl) T.g_is_table T.F_is_table.kp T.b_is_table .nil pass0 (pa_cons (pv 11) (pa_cons (pv 1) pa_nil))))))))
      (pcs_else (rest := _) (pss_one (ps_ret pe_bl)))))))))), ?_⟩
    walk_at "start"
    cases s with
    | add t k fs =>
      obtain ⟨f, as, h1, h2, h3, h4⟩ := hs
      obtain ⟨o1, o2, o3, o4, o5⟩ := ok
      walk_at "x"
      walk_at "is"
      walk_at "f"
      refine x_caseY (st_of h1) rfl ?_
      walk_at "xb"
      refine ⟨_, _, rfl, .int _, ?_⟩
      rw [isB_int (by omega) (by omega)]
      walk_at "x"
      walk_at "t"
      refine ⟨_, _, rfl, .int _, ?_⟩
      rw [isB_int o2 o3]
      walk_at "x"
      walk_at "t"
      exact ⟨f, as, fs, t, c, i, rfl, h2, h3, h4, o4, o5, q⟩
    | scale t u =>
      have h1 : H a = some (.tup [.str "scale", .int (t : Int), .int u]) := hs
      obtain ⟨o1, o2, o3, o4⟩ := ok
      walk_at "x"
      walk_at "is"
      walk_at "f"
      refine x_caseNo (st_of h1) (Nat.ne_of_beq_eq_false rfl) ?_
      refine x_caseY (st_of h1) rfl ?_
      walk_at "xb"
      refine ⟨_, _, rfl, .int _, ?_⟩
      rw [isB_int (by omega) (by omega)]
      walk_at "x"
      walk_at "t"
      refine ⟨_, _, rfl, .int _, ?_⟩
      rw [isB_int o2 o3]
      walk_at "x"
      walk_at "t"
      refine ⟨u, (m : Int), rfl, ?_⟩
      walk_at "x"
      have e : ((Nat.gcd u.natAbs ((m : Int)).natAbs : Nat) : Int) = 1 := by
        have : Nat.gcd u.natAbs ((m : Int)).natAbs = 1 := o4
        rw [this]; rfl
      rw [e, decide_eq_true rfl]
      exact q H (Same.refl _)
    | swap x y =>
      have h1 : H a = some (.tup [.str "swap", .int (x : Int), .int (y : Int)]) := hs
      obtain ⟨o1, o2, o3⟩ := ok
      walk_at "x"
      walk_at "is"
      walk_at "f"
      refine x_caseNo (st_of h1) (Nat.ne_of_beq_eq_false rfl) ?_
      refine x_caseW (st_of h1) rfl (by decide) ?_
      refine x_caseY (st_of h1) rfl ?_
      walk_at "xb"
      refine ⟨_, _, rfl, .int _, ?_⟩
      rw [isB_int (by omega) (by omega)]
      walk_at "x"
      walk_at "t"
      refine ⟨_, _, rfl, .int _, ?_⟩
      rw [isB_int (by omega) (by omega)]
      walk_at "x"
      walk_at "t"
      rw [decide_eq_false (show ¬ (x : Int) = (y : Int) by omega)]
      exact q H (Same.refl _)
    | tab t g tb x y =>
      obtain ⟨o, h1, h2⟩ := hs
      obtain ⟨o1, o2, o3, o4, o5, o6, o7, o8, o9, o10⟩ := ok
      walk_at "x"
      walk_at "is"
      walk_at "f"
      refine x_caseNo (st_of h1) (Nat.ne_of_beq_eq_false rfl) ?_
      refine x_caseNo (st_of h1) (Nat.ne_of_beq_eq_false rfl) ?_
      refine x_caseNo (st_of h1) (Nat.ne_of_beq_eq_false rfl) ?_
      refine x_caseY (st_of h1) rfl ?_
      walk_at "xb"
      refine ⟨t, x, y, c, rfl, o1, o2, o3, o4, o5, o6, fun H1 s1 => ?_⟩
      walk_at "x"
      walk_at "t"
      refine ⟨g, m, rfl, hm, o7, fun H2 s2 => ?_⟩
      walk_at "x"
      walk_at "t"
      exact ⟨o, tb, m, rfl, (h2.tups (Tups.same s1)).tups (Tups.same s2), o8, o9, fun H3 s3 => q H3 ((s1.trans s2).trans s3)⟩


end
end Br
namespace Br
open PySem PySem.Spec PyProof.Rows L2
local macro_rules | `(tactic| walk_at "x1") => `(tactic| (with_reducible first
  | refine Br.x_seq ?_ | refine Br.x_set ?_ | refine Br.x_asg ?_ | refine Br.x_next ?_ | refine Br.x_ret ?_ | refine Br.x_retN ?_ | refine Br.x_drop ?_ | refine Br.x_if ?_ | refine Br.x_brk ?_ | refine Br.x_cont ?_
  | refine Br.x_c ?_ | refine Br.x_op ?_ | refine Br.x_un ?_ | refine Br.x_I0 ?_ | refine Br.x_U ?_ | refine Br.x_EqI ?_ | refine Br.x_NeI ?_ | refine Br.x_EqB ?_ | refine Br.x_iN ?_ | refine Br.x_int1 ?_ | refine Br.x_min2 ?_ | refine Br.x_max2 ?_ | refine Br.x_nN ?_ | refine Br.x_ifE ?_
  | refine Br.x_test (b := ()) ?_ | refine Br.x_tB ?_ | refine Br.x_bl ?_ | refine Br.x_and ?_ | refine Br.x_or ?_ | refine Br.x_not ?_ | refine Br.x_andV ?_ | refine Br.x_orV ?_ | refine Br.x_notV ?_ | refine Br.x_blP ?_
  | refine Br.x_nil ?_ | refine Br.x_cons ?_ | refine Br.x_call ?_ | refine Br.x_CB ?_ | refine Br.x_BM ?_ | refine Br.x_tup ?_ | refine Br.x_lst ?_ | refine Br.x_chain ?_ | refine Br.x_par ?_ | refine Br.x_gSub ?_ | refine Br.x_gName ?_ | refine Br.x_fld ?_ | refine Br.x_fldS ?_ | refine Br.x_match ?_ | refine Br.x_else ?_ | refine Br.x_noCase ?_))
local macro_rules | `(tactic| walk_at "xv") => `(tactic| ((with_reducible refine' Br.x_var ?hvar ?_); (case hvar => rfl)))
local macro_rules | `(tactic| walk_at "xd") => `(tactic| (dsimp only [List.set_cons_zero, List.set_cons_succ, List.cons_append, List.nil_append, List.append_nil]))
local macro_rules | `(tactic| walk_at "xi") => `(tactic| ((with_reducible refine Br.x_I ?hside ?_); (case hside => first | exact Br.mul_r (by decide) (by decide) | exact Br.mul_l (by decide) (by decide) | exact Br.mul_l (by omega) (by omega) | exact Br.mul_r (by omega) (by omega) | (show (0 : Int) < _; first | decide | omega) | exact ⟨by decide, by decide⟩ | exact ⟨by omega, by omega⟩ | exact ⟨by decide, by decide, by decide⟩)))
local macro_rules | `(tactic| walk_at "x") => `(tactic| (repeat (first | walk_at "x1" | walk_at "xv" | walk_at "xi" | walk_at "xd")))
local macro_rules | `(tactic| walk_at "start") => `(tactic| (simp only [L2.start, List.map_cons, List.map_nil, List.length_cons, List.length_nil, Nat.reduceAdd, Nat.reduceSub, List.replicate, List.cons_append, List.nil_append, List.append_nil]))
local macro_rules | `(tactic| walk_at "isi") => `(tactic| first
  | refine Br.x_isi (b := true) (.base (.int _)) (by decide +kernel) ?_ | refine Br.x_isi (b := false) (.base (.int _)) (by decide +kernel) ?_
  | refine Br.x_isi (b := true) (.base (.bl _)) (by decide +kernel) ?_ | refine Br.x_isi (b := false) (.base (.bl _)) (by decide +kernel) ?_
  | refine Br.x_isi (b := false) (.base .non) (by decide +kernel) ?_
  | refine Br.x_isi (b := true) (.base (.str _)) (by decide +kernel) ?_ | refine Br.x_isi (b := false) (.base (.str _)) (by decide +kernel) ?_
  | refine Br.x_isi (b := true) (.base (.tup (by assumption))) (by decide +kernel) ?_ | refine Br.x_isi (b := false) (.base (.tup (by assumption))) (by decide +kernel) ?_
  | refine Br.x_isi (b := true) (.base (.lst (by assumption))) (by decide +kernel) ?_ | refine Br.x_isi (b := false) (.base (.lst (by assumption))) (by decide +kernel) ?_)
local macro_rules | `(tactic| walk_at "f") => `(tactic| (refine L2.iteF ?_; walk_at "x"))
local macro_rules | `(tactic| walk_at "t") => `(tactic| (refine L2.iteT ?_; walk_at "x"))
local macro_rules | `(tactic| walk_at "is") => `(tactic| (walk_at "isi"; walk_at "x"))
local macro_rules | `(tactic| walk_at "xb") => `(tactic| (simp only [Br.bindS, List.set_cons_zero, List.set_cons_succ]; walk_at "x"))

section
variable {P : Program} {w : World} {K : PySem.W.Frag} {mg : Str → Option Value} {base : Heap}

open Br.F
theorem prime_I {m : Nat} (h : IsPrime m) : PrimeI (m : Int) := by
  refine ⟨by have := h.1; omega, fun d h2 hd he => ?_⟩
  obtain ⟨n, rfl⟩ : ∃ n : Nat, d = (n : Int) := ⟨d.toNat, by omega⟩
  have hdv : n ∣ m := Int.ofNat_dvd.mp (Int.dvd_of_emod_eq_zero he)
  rcases h.2 n hdv with e | e
  · omega
  · subst e
    have : (2 : Int) * n ≤ n * n := Int.mul_le_mul_of_nonneg_right h2 (by omega)
    omega

def sp_check_sizes (K : PySem.W.Frag) : Sp := fun vs H Q _ => ∃ (m c i : Nat), vs = [.int (m : Int), .int (c : Int), .int (i : Int)] ∧ 2 ≤ m ∧ m ≤ 1000000000 ∧ 1 ≤ c ∧ c ≤ 60 ∧ i ≤ 60 ∧ Q .non H
theorem ok_check_sizes (T : Txt K mg) : FnOk P w K mg base CX0 3 T.a_check_sizes T.fd_check_sizes ["modulus", "cells", "inputs"] (sp_check_sizes K) := by
  refine T.F_check_sizes.ok sc_check_sizes (fun vs H Q E h => ?_) (fun cdv A outer s H vs Q E hr h => ?_)
  · obtain ⟨m, c, i, rfl, _⟩ := h
    rfl
  · obtain ⟨m, c, i, rfl, m2, m9, c1, c60, i60, q⟩ := h
    refine ⟨_, (pss_cons (ps_if (pt_not (pt_val (pe_call (ok_is_modulus T) hr (by rfl) T.g_is_modulus T.F_is_modulus.kp T.b_is_modulus .nil pass0 (pa_cons (pv 0) pa_nil))))
      (pss_one ps_never)
      pss_nil)
      (pss_cons (ps_if (PW.pt (pw_or (pt_not (pt_val (pe_call (ok_is_below T) (hr.mono (by decide)) (by rfl) T.g_is_below T.F_is_below.kp T.b_is_below .nil pass0 (pa_cons (pv 1) (pa_cons (pe_op op_add (pe_glob (v := .int 60) (by rfl) T.c_MOST_CELLS ⟨_, rfl⟩) pe_int) pa_nil))))) (pw_or1 (pt_cmpR op_eq (pv 1) pe_int (nomark _)))))
      (pss_one ps_never)
      pss_nil)
      (pss_one (ps_if (pt_not (pt_val (pe_call (ok_is_below T) (hr.mono (by decide)) (by rfl) T.g_is_below T.F_is_below.kp T.b_is_below .nil pass0 (pa_cons (pv 2) (pa_cons (pe_op op_add (pe_glob (v := .int 60) (by rfl) T.c_MOST_INPUTS_programs ⟨_, rfl⟩) pe_int) pa_nil)))))
      (pss_one ps_never)
      pss_nil)))), ?_⟩
    walk_at "start"
    walk_at "x"
    refine ⟨_, rfl, .int _, ?_⟩
    have e : (isB (.int (m : Int)) 1000000001 && !isB (.int (m : Int)) 2) = true := by
      rw [isB_int (by omega) (by omega)]
      show (true && !(decide (0 ≤ (m : Int)) && decide ((m : Int) < 2))) = true
      rw [decide_eq_false (show ¬ (m : Int) < 2 by omega), Bool.and_false]; rfl
    rw [e]
    walk_at "x"
    walk_at "f"
    refine ⟨_, _, rfl, .int _, ?_⟩
    rw [isB_int (by omega) (by omega)]
    walk_at "x"
    walk_at "f"
    rw [decide_eq_false (show ¬ (c : Int) = 0 by omega)]
    walk_at "f"
    refine ⟨_, _, rfl, .int _, ?_⟩
    rw [isB_int (by omega) (by omega)]
    walk_at "x"
    walk_at "f"
    exact q


def stW : Stp → Str
  | .add .. => "add"
  | .scale .. => "scale"
  | .swap .. => "swap"
  | .tab .. => "table"
def isT : Stp → Bool
  | .tab .. => true
  | _ => false
theorem StpAt.head {H : Hp} {a : Addr} : ∀ {s : Stp}, StpAt H a s → ∃ ys, H a = some (.tup (.str (stW s) :: ys))
  | .add .., h => by obtain ⟨f, as, h1, _⟩ := h; exact ⟨_, h1⟩
  | .scale .., h => ⟨_, h⟩
  | .swap .., h => ⟨_, h⟩
  | .tab .., h => by obtain ⟨c, h1, _⟩ := h; exact ⟨_, h1⟩
theorem stW_tab (s : Stp) : decide (V.str (stW s) = V.str "table") = isT s := by
  cases s with
  | add => exact decide_eq_false (fun e => absurd (show ("add" : Str) = "table" from V.str.inj e) (by decide))
  | scale => exact decide_eq_false (fun e => absurd (show ("scale" : Str) = "table" from V.str.inj e) (by decide))
  | swap => exact decide_eq_false (fun e => absurd (show ("swap" : Str) = "table" from V.str.inj e) (by decide))
  | tab => exact decide_eq_true rfl
def sp_check_steps (K : PySem.W.Frag) : Sp := fun vs H Q _ => ∃ (L : Addr) (as : List Addr) (ss : List Stp) (m c i : Nat), vs = [.ref L, .int (m : Int), .int (c : Int), .int (i : Int)] ∧ H L = some (.lst (as.map V.ref)) ∧ StpsAt H as ss ∧ ss.length ≤ 20000 ∧ (∀ s, s ∈ ss → StpOk m c i s) ∧ 2 ≤ m ∧ m ≤ 1000000000 ∧
  ∀ H', Same H H' → Q .non H'
theorem ok_check_steps (T : Txt K mg) : FnOk P w K mg base CX0 5 T.a_check_steps T.fd_check_steps ["steps", "modulus", "cells", "inputs"] (sp_check_steps K) := by
  refine T.F_check_steps.ok sc_check_steps (fun vs H Q E h => ?_) (fun cdv A outer s H vs Q E hr h => ?_)
  · obtain ⟨L, as, ss, m, c, i, rfl, _⟩ := h
    rfl
  · obtain ⟨L, as, ss, m, c, i, rfl, hL, hA, hn, ok, m2, m9, q⟩ := h
    have hal := hA.1
    refine ⟨_, (pss_cons (ps_if (PW.pt (pw_or (pt_not (pt_val (pe_callB (id := "isinstance") (r := rIsi K) call_isi (by rfl) T.m_isinstance (by decide +kernel) (pa_cons (pv 0) (pa_cons (pe_bltn (v := .ty "list") (by rfl) T.m_list (by decide +kernel) rfl) pa_nil))))) (pw_or1 (pt_cmpR op_gt (pe_callB (id := "len") (r := rLen K) cr_len (by rfl) T.m_len PySem.boot_len (pa_cons (pv 0) pa_nil)) (pe_glob (v := .int 20000) (by rfl) T.c_MOST_STEPS ⟨_, rfl⟩) (nomark _)))))
      (pss_one ps_never)
      pss_nil)
      (pss_cons (ps_for PassesOwn.never rfl (pi_enum (by rfl) T.m_enumerate (pa_cons (pv 0) pa_nil)) (pg_tup rfl (pgs_cons (pg_name (i := 4) sc_check_steps.nd rfl (Or.inl rfl)) (pgs_cons (pg_name (i := 5) sc_check_steps.nd rfl (Or.inl rfl)) pgs_nil)))
      (pss_one (ps_if (pt_not (pt_val (pe_call (ok_is_step T) hr (by rfl) T.g_is_step T.F_is_step.kp T.b_is_step .nil pass0 (pa_cons (pv 5) (pa_cons (pv 1) (pa_cons (pv 2) (pa_cons (pv 3) pa_nil)))))))
      (pss_one ps_never)
      pss_nil)))
      (pss_one (ps_if (PW.pt (pw_and (pt_val (pe_callB (id := "any") (r := rAny K) (cr_any rfl) (by rfl) T.m_any (by decide +kernel) (pa_cons (pe_lc (own := [("step", 5)]) (g := gName 5) (tt := tYes) rfl sc_check_steps.nd (pi_list (pv 0)) (blkOk_by (N := N_check_steps) (sc := defScope s_check_steps) (by decide +kernel)) (fun _ _ _ _ _ => (pg_name (i := 5) sc_check_steps.nd rfl (Or.inl rfl))) (fun _ _ _ _ _ => pts_nil) (fun _ _ _ _ _ => (pe_cmpR op_eq (pe_ix (r := rIxT K) ix_tup (pv 5) pe_int (fun _ _ => rfl)) pe_str (nomark _)))) pa_nil))) (pw_and1 (pt_not (pt_val (pe_call (ok_is_prime T) (hr.mono (by decide)) (by rfl) T.g_is_prime T.F_is_prime.kp T.b_is_prime .nil pass0 (pa_cons (pv 1) pa_nil)))))))
      (pss_one ps_never)
      pss_nil)))), ?_⟩
    walk_at "start"
    walk_at "x"
    walk_at "is"
    walk_at "f"
    refine x_len (sq_of hL) ?_
    walk_at "x"
    rw [List.length_map, hal, decide_eq_false (show ¬ (20000 : Int) < (ss.length : Int) by omega)]
    walk_at "f"
    refine x_forI (J := Ite K L) (n := (as.map V.ref).length) (G := fun H => SqL K H L (as.map V.ref)) (fun R r => by unfold iEnum; walk_at "x"; exact ⟨L, _, rfl, sq_of hL, r⟩) walk_enum (fun k σ' H' => Same H H' ∧ ∃ v4 v5, σ' = [some (.ref L), some (.int (m : Int)), some (.int (c : Int)), some (.int (i : Int)), v4, v5])
      ⟨Same.refl _, _, _, rfl⟩ (fun k σ' H' _ z => sq_of (z.1 _ _ hL)) ?_ ?_
    · rintro k _ σ' H' H2 hk ⟨hs, v4, v5, rfl⟩ ⟨o, x, y, rfl, ho, rfl, gx, gy⟩
      cases gx
      obtain ⟨b, hb, rfl⟩ := map_getR gy
      obtain ⟨s, hs1, hs2⟩ := hA.get hb
      have s3 : Same H (upd H' o (.tup [.int (k : Int), .ref b])) := sput hs (sfree hs ho)
      refine x_gTup2 (st_of upd_same) ?_
      walk_at "x"
      refine ⟨b, s, m, c, i, rfl, hs2.tups (Tups.same s3), ok s (List.mem_of_getElem? hs1), m2, fun H4 s4 => ?_⟩
      walk_at "x"
      walk_at "f"
      exact ⟨s3.trans s4, _, _, rfl⟩
    · rintro σ' H' ⟨hs, v4, v5, rfl⟩
      have hL' := hs _ _ hL
      walk_at "x"
      refine x_lcB (xs := as.map V.ref) (fun k => match ss[k]? with | some s => isT s | none => false) (J := Itl K L) (G := fun H => SqL K H L (as.map V.ref)) (fun R r => ⟨_, rfl, L, rfl, ⟨_, sq_of hL'⟩, r⟩) walk_list (by rw [List.length_map]; omega) (fun H2 s => sq_of (s _ _ hL')) (fun x => rfl) ?_ ?_
      · intro k x H2 s2 hx R hR
        obtain ⟨b, hb, rfl⟩ := map_getR hx
        obtain ⟨s, hs1, hs2⟩ := hA.get hb
        obtain ⟨ys, hy⟩ := (hs2.tups (Tups.same (hs.trans s2))).head
        walk_at "x"
        refine x_ixT (v := .str (stW s)) (st_of hy) (atI_nat (j := 0) rfl) ?_
        walk_at "x"
        refine x_Eq rfl ?_
        rw [stW_tab]
        have e : (match ss[k]? with | some s => isT s | none => false) = isT s := by rw [hs1]
        rw [← e]
        exact hR H2 (Same.refl _)
      · intro p H2 hp s2 hP
        walk_at "x"
        refine x_any hP ?_
        walk_at "x"
        refine x_iteB (fun hb => ?_) (fun hb => ?_)
        · have hm : IsPrime m := by
            obtain ⟨b, hb1, hb2⟩ := List.any_eq_true.mp hb
            obtain ⟨k, hk, rfl⟩ := List.mem_map.mp hb1
            have hk := List.mem_range.mp hk
            rw [List.length_map, hal] at hk
            have e : (match ss[k]? with | some s => isT s | none => false) = true := hb2
            rw [List.getElem?_eq_getElem hk] at e
            have okk := ok ss[k] (List.getElem_mem hk)
            generalize ss[k] = s at e okk
            cases s with
            | tab t g tb x y => exact okk.2.2.2.2.2.2.2.2.2
            | add => cases e
            | scale => cases e
            | swap => cases e
          walk_at "x"
          refine ⟨_, rfl, by omega, by omega, fun b hbp => ?_⟩
          walk_at "x"
          have e : b = true := hbp.mpr (prime_I hm)
          subst e
          walk_at "f"
          exact q H2 (hs.trans s2)
        · walk_at "f"
          exact q H2 (hs.trans s2)

/-! ### programs -/
structure PC (K : PySem.W.Frag) (C : Addr) : Prop where
  cl : Cls K C
  m : NoAttr K C "modulus"
  c : NoAttr K C "cells"
  i : NoAttr K C "inputs"
  s : NoAttr K C "steps"
def progF (m c i : Int) (L : Addr) : List (Str × V) := [("modulus", V.int m), ("cells", V.int c), ("inputs", V.int i), ("steps", V.ref L)]
theorem progF_m {m c i : Int} {L : Addr} : (progF m c i L).lookup ("modulus" : Str) = some (V.int m) := rfl
theorem progF_c {m c i : Int} {L : Addr} : (progF m c i L).lookup ("cells" : Str) = some (V.int c) := rfl
theorem progF_i {m c i : Int} {L : Addr} : (progF m c i L).lookup ("inputs" : Str) = some (V.int i) := rfl
theorem progF_s {m c i : Int} {L : Addr} : (progF m c i L).lookup ("steps" : Str) = some (V.ref L) := rfl
theorem progF_mk {m c i : Int} {L : Addr} : putF "steps" (V.ref L) (putF "inputs" (V.int i) (putF "cells" (V.int c) (putF "modulus" (V.int m) []))) = progF m c i L := rfl
/-- a program at p: its steps' list at L -/
structure PrAt (K : PySem.W.Frag) (C : Addr) (H : Hp) (p L : Addr) (as : List Addr) (ss : List Stp) (m c i : Nat) : Prop where
  ob : ∃ dx, H p = some (.ins C dx (progF m c i L)) ∧ PC K C
  lst : H L = some (.lst (as.map V.ref))
  st : StpsAt H as ss
theorem PrAt.same {K : PySem.W.Frag} {C : Addr} {H H' : Hp} {p L : Addr} {as : List Addr} {ss : List Stp} {m c i : Nat} (h : PrAt K C H p L as ss m c i) (s : Same H H') : PrAt K C H' p L as ss m c i := by
  obtain ⟨dx, h1, h2⟩ := h.ob
  exact ⟨⟨dx, s _ _ h1, h2⟩, s _ _ h.lst, h.st.tups (Tups.same s)⟩
structure PrOk (ss : List Stp) (m c i : Nat) : Prop where
  m2 : 2 ≤ m
  m9 : m ≤ 1000000000
  c1 : 1 ≤ c
  c60 : c ≤ 60
  i60 : i ≤ 60
  len : ss.length ≤ 20000
  ok : ∀ s, s ∈ ss → StpOk m c i s

def sp_Program___init (K : PySem.W.Frag) : Sp := fun vs H Q _ => ∃ (p C dx L : Addr) (as : List Addr) (ss : List Stp) (m c i : Nat), vs = [.ref p, .int (m : Int), .int (c : Int), .int (i : Int), .ref L] ∧ H p = some (.ins C dx []) ∧ PC K C ∧ H L = some (.lst (as.map V.ref)) ∧ StpsAt H as ss ∧ PrOk ss m c i ∧
  ∀ (L' : Addr) (H' : Hp), H L' = none → (∀ b o, H b = some o → b ≠ p → H' b = some o) → PrAt K C H' p L' as ss m c i → Q .non H'
theorem ok_Program___init (T : Txt K mg) : FnOk P w K mg base CX0 6 T.a_Program___init T.fd_Program___init ["self", "modulus", "cells", "inputs", "steps"] (sp_Program___init K) := by
  refine T.F_Program___init.ok sc_Program___init (fun vs H Q E h => ?_) (fun cdv A outer s H vs Q E hr h => ?_)
  · obtain ⟨p, C, dx, L, as, ss, m, c, i, rfl, _⟩ := h
    rfl
  · obtain ⟨p, C, dx, L, as, ss, m, c, i, rfl, hp, hC, hL, hA, ok, q⟩ := h
    refine ⟨_, (pss_cons (ps_expr (pe_call (ok_check_sizes T) (hr.mono (by decide)) (by rfl) T.g_check_sizes T.F_check_sizes.kp T.b_check_sizes .nil pass0 (pa_cons (pv 1) (pa_cons (pv 2) (pa_cons (pv 3) pa_nil)))))
      (pss_cons (ps_expr (pe_call (ok_check_steps T) hr (by rfl) T.g_check_steps T.F_check_steps.kp T.b_check_steps .nil pass0 (pa_cons (pv 4) (pa_cons (pv 1) (pa_cons (pv 2) (pa_cons (pv 3) pa_nil))))))
      (pss_cons (ps_fld (pv 0) (pv 1) rfl)
      (pss_cons (ps_fld (pv 0) (pv 2) rfl)
      (pss_cons (ps_fld (pv 0) (pv 3) rfl)
      (pss_one (ps_fld (pv 0) (pe_callTy (T := "list") (r := rListOf K) cr_list_of (by rfl) T.m_list (by decide +kernel) (pa_cons (pv 4) pa_nil)) rfl))))))), ?_⟩
    walk_at "start"
    walk_at "x"
    refine ⟨m, c, i, rfl, ok.m2, ok.m9, ok.c1, ok.c60, ok.i60, ?_⟩
    walk_at "x"
    refine ⟨L, as, ss, m, c, i, rfl, hL, hA, ok.len, ok.ok, ok.m2, ok.m9, fun H1 s1 => ?_⟩
    have hp1 := s1 _ _ hp
    have hL1 := s1 _ _ hL
    walk_at "x"
    refine ⟨p, C, dx, _, rfl, hp1, hC.cl, hC.m, by decide, ?_⟩
    walk_at "x"
    refine ⟨p, C, dx, _, rfl, upd_same, hC.cl, hC.c, by show 1 < 1000; decide, ?_⟩
    walk_at "x"
    refine ⟨p, C, dx, _, rfl, upd_same, hC.cl, hC.i, by show 2 < 1000; decide, ?_⟩
    walk_at "x"
    have hpL : L ≠ p := ne_of hL1 hp1 (by intro z; cases z)
    refine x_listL (sq_of (by rw [upd_ne hpL, upd_ne hpL, upd_ne hpL]; exact hL1)) fun L' hL' => ?_
    have hpL' : p ≠ L' := ne_of_none upd_same hL'
    have hL'1 : H1 L' = none := by
      rw [upd_ne hpL'.symm, upd_ne hpL'.symm, upd_ne hpL'.symm] at hL'
      exact hL'
    walk_at "x"
    refine ⟨p, C, dx, _, rfl, by rw [upd_ne hpL', upd_same], hC.cl, hC.s, by show 3 < 1000; decide, ?_⟩
    rw [progF_mk]
    generalize hU : upd (upd _ _ _) _ _ = U
    have keep : ∀ b o, H b = some o → b ≠ p → U b = some o := fun b o e hb => by
      rw [← hU, upd_ne hb, upd_ne (ne_of_none (s1 _ _ e) hL'1), upd_ne hb, upd_ne hb, upd_ne hb]
      exact s1 _ _ e
    refine q L' U (s1.free hL'1) keep ⟨⟨dx, by rw [← hU]; exact upd_same, hC⟩, by rw [← hU, upd_ne hpL'.symm, upd_same], hA.tups fun b xs e => keep b _ e (ne_of e hp (by intro z; cases z))⟩


end
end Br
namespace Br
open PySem PySem.Spec PyProof.Rows L2
local macro_rules | `(tactic| walk_at "x1") => `(tactic| (with_reducible first
  | refine Br.x_seq ?_ | refine Br.x_set ?_ | refine Br.x_asg ?_ | refine Br.x_next ?_ | refine Br.x_ret ?_ | refine Br.x_retN ?_ | refine Br.x_drop ?_ | refine Br.x_if ?_ | refine Br.x_brk ?_ | refine Br.x_cont ?_
  | refine Br.x_c ?_ | refine Br.x_op ?_ | refine Br.x_un ?_ | refine Br.x_I0 ?_ | refine Br.x_U ?_ | refine Br.x_EqI ?_ | refine Br.x_NeI ?_ | refine Br.x_EqB ?_ | refine Br.x_iN ?_ | refine Br.x_int1 ?_ | refine Br.x_min2 ?_ | refine Br.x_max2 ?_ | refine Br.x_nN ?_ | refine Br.x_ifE ?_
  | refine Br.x_test (b := ()) ?_ | refine Br.x_tB ?_ | refine Br.x_bl ?_ | refine Br.x_and ?_ | refine Br.x_or ?_ | refine Br.x_not ?_ | refine Br.x_andV ?_ | refine Br.x_orV ?_ | refine Br.x_notV ?_ | refine Br.x_blP ?_
  | refine Br.x_nil ?_ | refine Br.x_cons ?_ | refine Br.x_call ?_ | refine Br.x_CB ?_ | refine Br.x_BM ?_ | refine Br.x_tup ?_ | refine Br.x_lst ?_ | refine Br.x_chain ?_ | refine Br.x_par ?_ | refine Br.x_gSub ?_ | refine Br.x_gName ?_ | refine Br.x_fld ?_ | refine Br.x_fldS ?_ | refine Br.x_match ?_ | refine Br.x_else ?_ | refine Br.x_noCase ?_))
local macro_rules | `(tactic| walk_at "xv") => `(tactic| ((with_reducible refine' Br.x_var ?hvar ?_); (case hvar => rfl)))
local macro_rules | `(tactic| walk_at "xd") => `(tactic| (dsimp only [List.set_cons_zero, List.set_cons_succ, List.cons_append, List.nil_append, List.append_nil]))
local macro_rules | `(tactic| walk_at "xi") => `(tactic| ((with_reducible refine Br.x_I ?hside ?_); (case hside => first | exact Br.mul_r (by decide) (by decide) | exact Br.mul_l (by decide) (by decide) | exact Br.mul_l (by omega) (by omega) | exact Br.mul_r (by omega) (by omega) | (show (0 : Int) < _; first | decide | omega) | exact ⟨by decide, by decide⟩ | exact ⟨by omega, by omega⟩ | exact ⟨by decide, by decide, by decide⟩)))
local macro_rules | `(tactic| walk_at "x") => `(tactic| (repeat (first | walk_at "x1" | walk_at "xv" | walk_at "xi" | walk_at "xd")))
local macro_rules | `(tactic| walk_at "start") => `(tactic| (simp only [L2.start, List.map_cons, List.map_nil, List.length_cons, List.length_nil, Nat.reduceAdd, Nat.reduceSub, List.replicate, List.cons_append, List.nil_append, List.append_nil]))
local macro_rules | `(tactic| walk_at "isi") => `(tactic| first
  | refine Br.x_isi (b := true) (.base (.int _)) (by decide +kernel) ?_ | refine Br.x_isi (b := false) (.base (.int _)) (by decide +kernel) ?_
  | refine Br.x_isi (b := true) (.base (.bl _)) (by decide +kernel) ?_ | refine Br.x_isi (b := false) (.base (.bl _)) (by decide +kernel) ?_
  | refine Br.x_isi (b := false) (.base .non) (by decide +kernel) ?_
  | refine Br.x_isi (b := true) (.base (.str _)) (by decide +kernel) ?_ | refine Br.x_isi (b := false) (.base (.str _)) (by decide +kernel) ?_
  | refine Br.x_isi (b := true) (.base (.tup (by assumption))) (by decide +kernel) ?_ | refine Br.x_isi (b := false) (.base (.tup (by assumption))) (by decide +kernel) ?_
  | refine Br.x_isi (b := true) (.base (.lst (by assumption))) (by decide +kernel) ?_ | refine Br.x_isi (b := false) (.base (.lst (by assumption))) (by decide +kernel) ?_)
local macro_rules | `(tactic| walk_at "f") => `(tactic| (refine L2.iteF ?_; walk_at "x"))
local macro_rules | `(tactic| walk_at "t") => `(tactic| (refine L2.iteT ?_; walk_at "x"))
local macro_rules | `(tactic| walk_at "is") => `(tactic| (walk_at "isi"; walk_at "x"))
local macro_rules | `(tactic| walk_at "xb") => `(tactic| (simp only [Br.bindS, List.set_cons_zero, List.set_cons_succ]; walk_at "x"))

section
variable {P : Program} {w : World} {K : PySem.W.Frag} {mg : Str → Option Value} {base : Heap}

open Br.F

section
variable {σ : L2.St} {H : Hp} {Q : VK} {R : Option Int → Hp → Prop}
theorem x_make1 {C : Addr} {sp : Sp} {dvs : List V} {E : XK} {t : TA} (h : t σ H fun vs H1 => ∀ x dx, H1 x = none → H1 dx = none → dx ≠ x → sp (.ref x :: (vs ++ dvs)) (upd (upd H1 dx (.own x)) x (.ins C dx [])) (fun v H2 => v = .non ∧ Q (.ref x) H2) E) : tMake C sp dvs E t σ H Q := h
theorem x_meth1 {C : Addr} {m : Str} {sp : Sp} {dvs : List V} {E : XK} {ta : TE} {t : TA} (h : ta σ H fun x H1 => ∃ a dx fs, x = .ref a ∧ H1 a = some (.ins C dx fs) ∧ fs.lookup m = none ∧ t σ H1 fun vs H2 => sp (x :: (vs ++ dvs)) H2 Q E) : tMeth C m sp dvs E ta t σ H Q := h
theorem x_lcPreL {te : TE} {ta : TE} {j : Nat} {vs : List Nat} (h : ta σ H fun v H1 => tLc (iList K (tC v)) (gName j) tYes te vs σ H1 Q) : tLc (iList K ta) (gName j) tYes te vs σ H Q := h
theorem x_revL {te : TE} (h : te σ H fun x H1 => ∃ a xs, x = .ref a ∧ SqL K H1 a xs ∧ ∀ p, H1 p = none → Q (.ref p) (upd H1 p (.lst xs.reverse))) : tRevL K te σ H Q := h
theorem x_sl {r : V → Option Int → Option Int → Hp → VK → Prop} {te : TE} {tl th : TO} (h : te σ H fun x H1 => tl σ H1 fun l H2 => th σ H2 fun u H3 => r x l u H3 Q) : tSl r te tl th σ H Q := h
theorem x_noPart (h : R none H) : tNoPart σ H R := h
theorem cut_take {xs : List V} {n : Nat} : cutV xs none (some (n : Int)) = xs.take n := by
  unfold cutV
  rw [HT.sIx_nat]
  show (xs.drop 0).take (min n xs.length - 0) = xs.take n
  rw [List.drop_zero, Nat.sub_zero]
  by_cases h : n ≤ xs.length
  · rw [Nat.min_eq_left h]
  · rw [Nat.min_eq_right (by omega), List.take_length, List.take_of_length_le (by omega)]
end
theorem new_prog {C : Addr} {H1 : Hp} {L0 : Addr} {as : List Addr} {ss : List Stp} {m c i : Nat} {Q : VK} {E : XK} (hC : PC K C) (hl : H1 L0 = some (.lst (as.map V.ref))) (hst : StpsAt H1 as ss) (ok : PrOk ss m c i)
    (q : ∀ p L' H', H1 L' = none → Same H1 H' → PrAt K C H' p L' as ss m c i → Q (.ref p) H') : ∀ x dx, H1 x = none → H1 dx = none → dx ≠ x → sp_Program___init K [.ref x, .int (m : Int), .int (c : Int), .int (i : Int), .ref L0] (upd (upd H1 dx (.own x)) x (.ins C dx [])) (fun v H2 => v = .non ∧ Q (.ref x) H2) E := by
  intro x dx hx hdx hne
  have s1 : ∀ b o, H1 b = some o → (upd (upd H1 dx (.own x)) x (.ins C dx [])) b = some o := fun b o e => by
    rw [upd_ne (ne_of_none e hx), upd_ne (ne_of_none e hdx)]
    exact e
  refine ⟨x, C, dx, L0, as, ss, m, c, i, rfl, upd_same, hC, s1 _ _ hl, hst.tups (fun b xs e => s1 _ _ e), ok, fun L' H' hL' keep hP => ⟨rfl, ?_⟩⟩
  have s2 : Same H1 H' := fun b o e => keep b o (s1 _ _ e) (ne_of_none e hx)
  refine q x L' H' ?_ s2 hP
  cases e : H1 L' with
  | none => rfl
  | some o =>
    rw [s1 _ _ e] at hL'
    cases hL'





end
end Br
namespace Br
open PySem PySem.Spec PyProof.Rows L2
local macro_rules | `(tactic| walk_at "x1") => `(tactic| (with_reducible first
  | refine Br.x_seq ?_ | refine Br.x_set ?_ | refine Br.x_asg ?_ | refine Br.x_next ?_ | refine Br.x_ret ?_ | refine Br.x_retN ?_ | refine Br.x_drop ?_ | refine Br.x_if ?_ | refine Br.x_brk ?_ | refine Br.x_cont ?_
  | refine Br.x_c ?_ | refine Br.x_op ?_ | refine Br.x_un ?_ | refine Br.x_I0 ?_ | refine Br.x_U ?_ | refine Br.x_EqI ?_ | refine Br.x_NeI ?_ | refine Br.x_EqB ?_ | refine Br.x_iN ?_ | refine Br.x_int1 ?_ | refine Br.x_min2 ?_ | refine Br.x_max2 ?_ | refine Br.x_nN ?_ | refine Br.x_ifE ?_
  | refine Br.x_test (b := ()) ?_ | refine Br.x_tB ?_ | refine Br.x_bl ?_ | refine Br.x_and ?_ | refine Br.x_or ?_ | refine Br.x_not ?_ | refine Br.x_andV ?_ | refine Br.x_orV ?_ | refine Br.x_notV ?_ | refine Br.x_blP ?_
  | refine Br.x_nil ?_ | refine Br.x_cons ?_ | refine Br.x_call ?_ | refine Br.x_CB ?_ | refine Br.x_BM ?_ | refine Br.x_tup ?_ | refine Br.x_lst ?_ | refine Br.x_chain ?_ | refine Br.x_par ?_ | refine Br.x_gSub ?_ | refine Br.x_gName ?_ | refine Br.x_fld ?_ | refine Br.x_fldS ?_ | refine Br.x_match ?_ | refine Br.x_else ?_ | refine Br.x_noCase ?_))
local macro_rules | `(tactic| walk_at "xv") => `(tactic| ((with_reducible refine' Br.x_var ?hvar ?_); (case hvar => rfl)))
local macro_rules | `(tactic| walk_at "xd") => `(tactic| (dsimp only [List.set_cons_zero, List.set_cons_succ, List.cons_append, List.nil_append, List.append_nil]))
local macro_rules | `(tactic| walk_at "xi") => `(tactic| ((with_reducible refine Br.x_I ?hside ?_); (case hside => first | exact Br.mul_r (by decide) (by decide) | exact Br.mul_l (by decide) (by decide) | exact Br.mul_l (by omega) (by omega) | exact Br.mul_r (by omega) (by omega) | (show (0 : Int) < _; first | decide | omega) | exact ⟨by decide, by decide⟩ | exact ⟨by omega, by omega⟩ | exact ⟨by decide, by decide, by decide⟩)))
local macro_rules | `(tactic| walk_at "x") => `(tactic| (repeat (first | walk_at "x1" | walk_at "xv" | walk_at "xi" | walk_at "xd")))
local macro_rules | `(tactic| walk_at "start") => `(tactic| (simp only [L2.start, List.map_cons, List.map_nil, List.length_cons, List.length_nil, Nat.reduceAdd, Nat.reduceSub, List.replicate, List.cons_append, List.nil_append, List.append_nil]))
local macro_rules | `(tactic| walk_at "isi") => `(tactic| first
  | refine Br.x_isi (b := true) (.base (.int _)) (by decide +kernel) ?_ | refine Br.x_isi (b := false) (.base (.int _)) (by decide +kernel) ?_
  | refine Br.x_isi (b := true) (.base (.bl _)) (by decide +kernel) ?_ | refine Br.x_isi (b := false) (.base (.bl _)) (by decide +kernel) ?_
  | refine Br.x_isi (b := false) (.base .non) (by decide +kernel) ?_
  | refine Br.x_isi (b := true) (.base (.str _)) (by decide +kernel) ?_ | refine Br.x_isi (b := false) (.base (.str _)) (by decide +kernel) ?_
  | refine Br.x_isi (b := true) (.base (.tup (by assumption))) (by decide +kernel) ?_ | refine Br.x_isi (b := false) (.base (.tup (by assumption))) (by decide +kernel) ?_
  | refine Br.x_isi (b := true) (.base (.lst (by assumption))) (by decide +kernel) ?_ | refine Br.x_isi (b := false) (.base (.lst (by assumption))) (by decide +kernel) ?_)
local macro_rules | `(tactic| walk_at "f") => `(tactic| (refine L2.iteF ?_; walk_at "x"))
local macro_rules | `(tactic| walk_at "t") => `(tactic| (refine L2.iteT ?_; walk_at "x"))
local macro_rules | `(tactic| walk_at "is") => `(tactic| (walk_at "isi"; walk_at "x"))
local macro_rules | `(tactic| walk_at "xb") => `(tactic| (simp only [Br.bindS, List.set_cons_zero, List.set_cons_succ]; walk_at "x"))

section
variable {P : Program} {w : World} {K : PySem.W.Frag} {mg : Str → Option Value} {base : Heap}

open Br
theorem DAt.odd {d : Addr} {H : Hp} {v : V} {e : PyData} (h : DAt d H v e) : Odd H v := by
  cases h with
  | non => exact .non
  | bl b => exact .bl b
  | int i => exact .int i
  | str x => exact .str x
  | lst hd h hs => exact .lst _ _ h
  | tup h hs => exact .tup _ _ h
theorem DAt.isB {d : Addr} {H : Hp} {v : V} {e : PyData} (h : DAt d H v e) {b : Int} : isB v b = isBD b e := by
  cases h <;> rfl
theorem range_allD {ds : List PyData} {f : PyData → Bool} : ((List.range ds.length).map fun i => f (ds.getD i .none)).all id = ds.all f := by
  have e : (List.range ds.length).map (fun i => f (ds.getD i .none)) = ds.map f := by
    apply List.ext_getElem?
    intro i
    rw [List.getElem?_map, List.getElem?_map]
    by_cases h : i < ds.length
    · rw [List.getElem?_range h, List.getElem?_eq_getElem h]
      show some (f (ds.getD i .none)) = some (f ds[i])
      rw [List.getD_eq_getElem?_getD, List.getElem?_eq_getElem h]; rfl
    · rw [List.getElem?_eq_none (by simpa using h), List.getElem?_eq_none (by simpa using h)]
      rfl
  rw [e, List.all_map]
  rfl
theorem getDD {ds : List PyData} {i : Nat} {e : PyData} (h : ds[i]? = some e) : ds.getD i .none = e := by rw [List.getD_eq_getElem?_getD, h]; rfl

def sp_are_bits (K : PySem.W.Frag) : Sp := fun vs H Q _ => ∃ (d : Addr) (v : V) (e : PyData) (n : Int), vs = [v, .int n] ∧ DAt d H v e ∧ (∀ es, e = .list es → es.length ≤ 100000) ∧ ∀ H', Same H H' → Q (.bl (bitsD n e)) H'
theorem ok_are_bits (T : Txt K mg) : FnOk P w K mg base CX0 1 T.a_are_bits T.fd_are_bits ["values", "least"] (sp_are_bits K) := by
  refine T.F_are_bits.ok sc_are_bits (fun vs H Q E h => ?_) (fun cdv A outer s H vs Q E hr h => ?_)
  · obtain ⟨d, v, e, n, rfl, _⟩ := h
    rfl
  · obtain ⟨d, v, e, n, rfl, hv, hl, q⟩ := h
    refine ⟨_, (pss_cons (ps_if (PW.pt (pw_or (pt_not (pt_val (pe_callB (id := "isinstance") (r := rIsi K) call_isi (by rfl) T.m_isinstance (by decide +kernel) (pa_cons (pv 0) (pa_cons (pe_bltn (v := .ty "list") (by rfl) T.m_list (by decide +kernel) rfl) pa_nil))))) (pw_or1 (pt_cmpR op_lt (pe_callB (id := "len") (r := rLen K) cr_len (by rfl) T.m_len PySem.boot_len (pa_cons (pv 0) pa_nil)) (pv 1) (nomark _)))))
      (pss_one (ps_ret pe_bl))
      pss_nil)
      (pss_one (ps_ret (pe_callB (id := "all") (r := rAll K) (cr_all rfl) (by rfl) T.m_all (by decide +kernel) (pa_cons (pe_lc (own := [("value", 2)]) (g := gName 2) (tt := tYes) rfl sc_are_bits.nd (pi_list (pv 0)) (blkOk_by (N := N_are_bits) (sc := defScope s_are_bits) (by decide +kernel)) (fun _ _ _ _ _ => (pg_name (i := 2) sc_are_bits.nd rfl (Or.inl rfl))) (fun _ _ _ _ _ => pts_nil) (fun _ _ _ _ _ => (pe_callB (id := "isinstance") (r := rIsi K) call_isi (by rfl) T.m_isinstance (by decide +kernel) (pa_cons (pv 2) (pa_cons (pe_bltn (v := .ty "bool") (by rfl) T.m_bool (by decide +kernel) rfl) pa_nil))))) pa_nil))))), ?_⟩
    walk_at "start"
    cases hv with
    | lst hd h hs =>
      rename_i a xs es
      have hlen := hs.len
      have hl := hl es rfl
      walk_at "x"
      walk_at "is"
      walk_at "f"
      refine x_len (sq_of h) ?_
      walk_at "x"
      refine x_ite (fun hc => ?_) (fun hc => ?_)
      · walk_at "x"
        have e : bitsD n (.list es) = false := by show (decide (n ≤ (es.length : Int)) && _) = false; rw [decide_eq_false (by omega)]; rfl
        rw [← e]
        exact q H (Same.refl _)
      · walk_at "x"
        refine x_lcB (xs := xs) (fun i => isBlD (es.getD i .none)) (J := Itl K a) (G := fun H => SqL K H a xs) (fun R r => ⟨_, rfl, a, rfl, ⟨xs, sq_of h⟩, r⟩) walk_list (by omega) (fun H' s => sq_of (s _ _ h)) (fun x => rfl) ?_ ?_
        · intro i x H' s hx R hR
          obtain ⟨f, hf, hxf⟩ := hs.get hx
          rw [getDD hf] at hR
          have hxf := DAt.same s f hxf
          walk_at "x"
          cases hxf with
          | int i =>
            walk_at "is"
            exact hR H' (Same.refl _)
          | bl b =>
            walk_at "is"
            exact hR H' (Same.refl _)
          | non =>
            walk_at "is"
            exact hR H' (Same.refl _)
          | str z =>
            walk_at "is"
            exact hR H' (Same.refl _)
          | tup h hs =>
            walk_at "is"
            exact hR H' (Same.refl _)
          | lst hd h hs =>
            walk_at "is"
            exact hR H' (Same.refl _)
        · intro p H' hp s hP
          walk_at "x"
          refine x_all hP ?_
          rw [hlen, range_allD (f := isBlD)]
          have e : bitsD n (.list es) = es.all isBlD := by show (decide (n ≤ (es.length : Int)) && _) = _; rw [decide_eq_true (by omega)]; rfl
          rw [← e]
          exact q H' s
    | int i =>
      walk_at "x"
      walk_at "is"
      walk_at "t"
      exact q H (Same.refl _)
    | bl b =>
      walk_at "x"
      walk_at "is"
      walk_at "t"
      exact q H (Same.refl _)
    | non =>
      walk_at "x"
      walk_at "is"
      walk_at "t"
      exact q H (Same.refl _)
    | str z =>
      walk_at "x"
      walk_at "is"
      walk_at "t"
      exact q H (Same.refl _)
    | tup h hs =>
      walk_at "x"
      walk_at "is"
      walk_at "t"
      exact q H (Same.refl _)


def sp_is_bit (K : PySem.W.Frag) : Sp := fun vs H Q _ => ∃ (d : Addr) (v : V) (e : PyData), vs = [v] ∧ DAt d H v e ∧ Q (.bl (isBD 120 e)) H
theorem ok_is_bit (T : Txt K mg) : FnOk P w K mg base CX0 2 T.a_is_bit T.fd_is_bit ["value"] (sp_is_bit K) := by
  refine T.F_is_bit.ok sc_is_bit (fun vs H Q E h => ?_) (fun cdv A outer s H vs Q E hr h => ?_)
  · obtain ⟨d, v, e, rfl, _⟩ := h
    rfl
  · obtain ⟨d, v, e, rfl, hv, q⟩ := h
    refine ⟨_, (pss_one (ps_ret (pe_call (ok_is_below T) hr (by rfl) T.g_is_below T.F_is_below.kp T.b_is_below .nil pass0 (pa_cons (pv 0) (pa_cons (pe_glob (v := .int 120) (by rfl) T.c_MOST_BITS ⟨_, rfl⟩) pa_nil))))), ?_⟩
    walk_at "start"
    walk_at "x"
    refine ⟨v, _, rfl, hv.odd, ?_⟩
    rw [hv.isB]
    exact q


def sp_are_rising (K : PySem.W.Frag) : Sp := fun vs H Q _ => ∃ (d : Addr) (v : V) (e : PyData), vs = [v] ∧ DAt d H v e ∧ Q (.bl (risD e)) H
theorem ok_are_rising (T : Txt K mg) : FnOk P w K mg base CX0 3 T.a_are_rising T.fd_are_rising ["controls"] (sp_are_rising K) := by
  refine T.F_are_rising.ok sc_are_rising (fun vs H Q E h => ?_) (fun cdv A outer s H vs Q E hr h => ?_)
  · obtain ⟨d, v, e, rfl, _⟩ := h
    rfl
  · obtain ⟨d, v, e, rfl, hv, q⟩ := h
    refine ⟨_, (pss_cons (ps_if (pt_not (pt_val (pe_callB (id := "isinstance") (r := rIsi K) call_isi (by rfl) T.m_isinstance (by decide +kernel) (pa_cons (pv 0) (pa_cons (pe_bltn (v := .ty "tuple") (by rfl) T.m_tuple (by decide +kernel) rfl) pa_nil)))))
      (pss_one (ps_ret pe_bl))
      pss_nil)
      (pss_cons (ps_set (i := 1) sc_are_rising.nd rfl (.inl rfl) (pe_un un_neg pe_int))
      (pss_cons (ps_for PassesOwn.never rfl (pi_tup (pv 0)) (pg_name (i := 2) sc_are_rising.nd rfl (Or.inl rfl))
      (pss_cons (ps_if (PW.pt (pw_or (pt_not (pt_val (pe_call (ok_is_bit T) hr (by rfl) T.g_is_bit T.F_is_bit.kp T.b_is_bit .nil pass0 (pa_cons (pv 2) pa_nil)))) (pw_or1 (pt_cmpR op_le (pv 2) (pv 1) (nomark _)))))
      (pss_one (ps_ret pe_bl))
      pss_nil)
      (pss_one (ps_set (i := 1) sc_are_rising.nd rfl (.inl rfl) (pv 2)))))
      (pss_one (ps_ret pe_bl))))), ?_⟩
    walk_at "start"
    cases hv with
    | tup h hs =>
      rename_i a xs es
      have hlen := hs.len
      walk_at "x"
      walk_at "is"
      walk_at "f"
      refine x_forI (J := Itt K a) (n := xs.length) (G := fun H => SqT K H a xs) (fun R r => ⟨_, rfl, a, rfl, ⟨_, st_of h⟩, r⟩) walk_tup (fun k σ' H' => H = H' ∧ ∃ (l : Int) (v2 : Option V), σ' = [some (.ref a), some (.int l), v2] ∧ risF l (es.drop k) = risF (-1) es)
        ⟨rfl, -1, _, rfl, rfl⟩ (fun k σ' H' _ z => by rw [← z.1]; exact st_of h) ?_ ?_
      · rintro k x σ' H' H2 hk ⟨rfl, l, v2, rfl, hr⟩ ⟨rfl, hx⟩
        obtain ⟨f, hf, hxf⟩ := hs.get hx
        have ed : es.drop k = f :: es.drop (k + 1) := by
          obtain ⟨hlt, e⟩ := List.getElem?_eq_some_iff.mp hf
          rw [List.drop_eq_getElem_cons hlt, e]
        rw [ed] at hr
        walk_at "x"
        refine ⟨d, x, f, rfl, hxf, ?_⟩
        walk_at "x"
        refine x_iteBN (fun hb => ?_) (fun hb => ?_)
        · walk_at "x"
          have e : risF (-1) es = false := by
            rw [← hr]
            cases f with
            | int i =>
              show ((decide (0 ≤ i) && decide (i < 120)) && _) = false
              rw [show (decide (0 ≤ i) && decide (i < 120)) = false from hb]
              rfl
            | _ => rfl
          rw [show risD (.tuple es) = risF (-1) es from rfl, e] at q
          exact q
        · obtain ⟨i, rfl, i0, i1⟩ := isBD_iff.mp hb
          cases hxf with
          | int i =>
            have hr : ((decide (0 ≤ i) && decide (i < 120)) && (decide (l < i) && risF i (es.drop (k + 1)))) = risF (-1) es := hr
            rw [decide_eq_true i0, decide_eq_true i1, Bool.and_true, Bool.true_and] at hr
            walk_at "x"
            refine x_ite (fun hc => ?_) (fun hc => ?_)
            · walk_at "x"
              rw [decide_eq_false (by omega), Bool.false_and] at hr
              rw [show risD (.tuple es) = risF (-1) es from rfl, ← hr] at q
              exact q
            · walk_at "x"
              rw [decide_eq_true (by omega), Bool.true_and] at hr
              exact ⟨rfl, i, _, rfl, hr⟩
      · rintro σ' H' ⟨rfl, l, v2, rfl, hr⟩
        walk_at "x"
        rw [hlen, List.drop_length] at hr
        rw [show risD (.tuple es) = risF (-1) es from rfl, ← hr] at q
        exact q
    | int i =>
      walk_at "x"
      walk_at "is"
      walk_at "t"
      exact q
    | bl b =>
      walk_at "x"
      walk_at "is"
      walk_at "t"
      exact q
    | non =>
      walk_at "x"
      walk_at "is"
      walk_at "t"
      exact q
    | str z =>
      walk_at "x"
      walk_at "is"
      walk_at "t"
      exact q
    | lst hd h hs =>
      walk_at "x"
      walk_at "is"
      walk_at "t"
      exact q


theorem risF_flat : ∀ {es : List PyData} {l : Int}, risF l es = true → ∀ e, e ∈ es → ∃ i : Int, e = .int i
  | [], _, _, e, h => by simp at h
  | .int i :: es, l, hr, e, h => by
    rcases List.mem_cons.mp h with rfl | h
    · exact ⟨i, rfl⟩
    · have hr : ((decide (0 ≤ i) && decide (i < 120)) && (decide (l < i) && risF i es)) = true := hr
      rw [Bool.and_eq_true, Bool.and_eq_true (decide (l < i))] at hr
      exact risF_flat hr.2.2 e h
  | .none :: _, _, hr, _, _ => by cases hr
  | .bool _ :: _, _, hr, _, _ => by cases hr
  | .str _ :: _, _, hr, _, _ => by cases hr
  | .list _ :: _, _, hr, _, _ => by cases hr
  | .tuple _ :: _, _, hr, _, _ => by cases hr
  | .dict _ :: _, _, hr, _, _ => by cases hr
theorem flat_in {d : Addr} {H : Hp} {t : Int} : ∀ {xs : List V} {es : List PyData}, DAts d H xs es → (∀ e, e ∈ es → ∃ i : Int, e = .int i) → xs.all flatV = true ∧ inV (.int t) xs = hasD (.int t) es
  | [], _, h, _ => by cases h; exact ⟨rfl, rfl⟩
  | v :: xs, _, h, hf => by
    cases h with
    | cons h hs =>
      rename_i e es
      obtain ⟨i, rfl⟩ := hf e List.mem_cons_self
      cases h
      obtain ⟨h1, h2⟩ := flat_in (t := t) hs fun e he => hf e (List.mem_cons_of_mem _ he)
      refine ⟨by show (true && xs.all flatV) = true; rw [h1]; rfl, ?_⟩
      show (eqV (.int i) (.int t) || inV (.int t) xs) = (decide (i = t) || hasD (.int t) es)
      rw [h2]
      congr 1
def sp_is_gate (K : PySem.W.Frag) : Sp := fun vs H Q _ => ∃ (d : Addr) (v : V) (e : PyData), vs = [v] ∧ DAt d H v e ∧ Q (.bl (gateD e)) H
theorem isG_no {t c : PyData} (h : ∀ es, c = .tuple es → risF (-1) es = false) : gateD (.tuple [t, c]) = false := by
  cases c with
  | tuple es =>
    show (isBD 120 t && (risF (-1) es && _)) = false
    rw [h es rfl, Bool.false_and, Bool.and_false]
  | _ => rfl
theorem isG_no1 {t c : PyData} (h : isBD 120 t = false) : gateD (.tuple [t, c]) = false := by
  cases c with
  | tuple es =>
    show (isBD 120 t && (risF (-1) es && _)) = false
    rw [h, Bool.false_and]
  | _ => rfl
theorem ok_is_gate (T : Txt K mg) : FnOk P w K mg base CX0 4 T.a_is_gate T.fd_is_gate ["gate"] (sp_is_gate K) := by
  refine T.F_is_gate.ok sc_is_gate (fun vs H Q E h => ?_) (fun cdv A outer s H vs Q E hr h => ?_)
  · obtain ⟨d, v, e, rfl, _⟩ := h
    rfl
  · obtain ⟨d, v, e, rfl, hv, q⟩ := h
    refine ⟨_, (pss_cons (ps_if (PW.pt (pw_or (pt_not (pt_val (pe_callB (id := "isinstance") (r := rIsi K) call_isi (by rfl) T.m_isinstance (by decide +kernel) (pa_cons (pv 0) (pa_cons (pe_bltn (v := .ty "tuple") (by rfl) T.m_tuple (by decide +kernel) rfl) pa_nil))))) (pw_or1 (pt_cmpR op_ne (pe_callB (id := "len") (r := rLen K) cr_len (by rfl) T.m_len PySem.boot_len (pa_cons (pv 0) pa_nil)) pe_int (nomark _)))))
      (pss_one (ps_ret pe_bl))
      pss_nil)
      (pss_cons (ps_asg (pv 0) (pg_tup rfl (pgs_cons (pg_name (i := 1) sc_is_gate.nd rfl (Or.inl rfl)) (pgs_cons (pg_name (i := 2) sc_is_gate.nd rfl (Or.inl rfl)) pgs_nil))))
      (pss_one (ps_ret (pe_and (pe_call (ok_is_bit T) (hr.mono (by decide)) (by rfl) T.g_is_bit T.F_is_bit.kp T.b_is_bit .nil pass0 (pa_cons (pv 1) pa_nil)) (pe_and (pe_call (ok_are_rising T) hr (by rfl) T.g_are_rising T.F_are_rising.kp T.b_are_rising .nil pass0 (pa_cons (pv 2) pa_nil)) (pe_one (pe_cmpR (r := rIn K true) op_notIn_seq (pv 1) (pv 2) (by with_unfolding_all rfl))))))))), ?_⟩
    walk_at "start"
    cases hv with
    | tup h hs =>
      rename_i a xs es
      have hlen := hs.len
      walk_at "x"
      walk_at "is"
      walk_at "f"
      refine x_lenT (st_of h) ?_
      walk_at "x"
      refine x_iteN (fun hc => ?_) (fun hc => ?_)
      · walk_at "x"
        have e : gateD (.tuple es) = false := by
          match es, hlen with
          | [], _ => rfl
          | [_], _ => rfl
          | [_, _], hl => exfalso; apply hc; rw [hl]; rfl
          | _ :: b :: _ :: _, _ => cases b <;> rfl
        rw [e] at q
        exact q
      · obtain ⟨x, y, rfl⟩ : ∃ x y, xs = [x, y] := by
          match xs, hc with
          | [x, y], _ => exact ⟨x, y, rfl⟩
          | [], hc => simp at hc
          | [_], hc => simp at hc
          | _ :: _ :: _ :: _, hc => simp at hc; omega
        cases hs with
        | cons hx hs =>
          cases hs with
          | cons hy hs =>
            cases hs
            rename_i ex ey
            walk_at "x"
            refine x_gTup2 (st_of h) ?_
            walk_at "x"
            refine ⟨d, x, ex, rfl, hx, ?_⟩
            refine x_blP ?_
            refine x_iteB (fun hb => ?_) (fun hb => ?_)
            · walk_at "x"
              refine ⟨d, y, ey, rfl, hy, ?_⟩
              refine x_blP ?_
              obtain ⟨t, rfl, t0, t1⟩ := isBD_iff.mp hb
              cases hx
              refine x_iteB (fun hr => ?_) (fun hr => ?_)
              · cases hy with
                | tup h2 hs2 =>
                  rename_i c cs fs
                  have hr : risF (-1) fs = true := hr
                  obtain ⟨f1, f2⟩ := flat_in (t := t) hs2 (risF_flat hr)
                  walk_at "x"
                  refine ⟨c, cs, rfl, .inr (st_of h2), rfl, f1, ?_⟩
                  rw [if_pos rfl, f2]
                  have e : gateD (.tuple [.int t, .tuple fs]) = !hasD (.int t) fs := by
                    show (isBD 120 (.int t) && (risF (-1) fs && _)) = _
                    rw [hb, hr, Bool.true_and, Bool.true_and]
                  rw [e] at q
                  exact q
                | _ => cases hr
              · rw [isG_no (fun es e => by rw [e] at hr; exact hr)] at q
                exact q
            · rw [isG_no1 hb] at q
              exact q
    | int i =>
      walk_at "x"
      walk_at "is"
      walk_at "t"
      exact q
    | bl b =>
      walk_at "x"
      walk_at "is"
      walk_at "t"
      exact q
    | non =>
      walk_at "x"
      walk_at "is"
      walk_at "t"
      exact q
    | str z =>
      walk_at "x"
      walk_at "is"
      walk_at "t"
      exact q
    | lst hd h hs =>
      walk_at "x"
      walk_at "is"
      walk_at "t"
      exact q


def sp_are_gates (K : PySem.W.Frag) : Sp := fun vs H Q _ => ∃ (d : Addr) (v : V) (e : PyData), vs = [v] ∧ DAt d H v e ∧ ∀ H', Same H H' → Q (.bl (gatesD e)) H'
theorem ok_are_gates (T : Txt K mg) : FnOk P w K mg base CX0 5 T.a_are_gates T.fd_are_gates ["gates"] (sp_are_gates K) := by
  refine T.F_are_gates.ok sc_are_gates (fun vs H Q E h => ?_) (fun cdv A outer s H vs Q E hr h => ?_)
  · obtain ⟨d, v, e, rfl, _⟩ := h
    rfl
  · obtain ⟨d, v, e, rfl, hv, q⟩ := h
    refine ⟨_, (pss_cons (ps_if (PW.pt (pw_or (pt_not (pt_val (pe_callB (id := "isinstance") (r := rIsi K) call_isi (by rfl) T.m_isinstance (by decide +kernel) (pa_cons (pv 0) (pa_cons (pe_bltn (v := .ty "list") (by rfl) T.m_list (by decide +kernel) rfl) pa_nil))))) (pw_or1 (pt_cmpR op_gt (pe_callB (id := "len") (r := rLen K) cr_len (by rfl) T.m_len PySem.boot_len (pa_cons (pv 0) pa_nil)) (pe_glob (v := .int 60000) (by rfl) T.c_MOST_GATES ⟨_, rfl⟩) (nomark _)))))
      (pss_one (ps_ret pe_bl))
      pss_nil)
      (pss_one (ps_ret (pe_callB (id := "all") (r := rAll K) (cr_all rfl) (by rfl) T.m_all (by decide +kernel) (pa_cons (pe_lc (own := [("gate", 1)]) (g := gName 1) (tt := tYes) rfl sc_are_gates.nd (pi_list (pv 0)) (blkOk_by (N := N_are_gates) (sc := defScope s_are_gates) (by decide +kernel)) (fun _ _ _ _ _ => (pg_name (i := 1) sc_are_gates.nd rfl (Or.inl rfl))) (fun _ _ _ _ _ => pts_nil) (fun _ _ _ _ _ => (pe_call (ok_is_gate T) hr (by rfl) T.g_is_gate T.F_is_gate.kp T.b_is_gate .nil pass0 (pa_cons (pv 1) pa_nil)))) pa_nil))))), ?_⟩
    walk_at "start"
    cases hv with
    | lst hd h hs =>
      rename_i a xs es
      have hlen := hs.len
      walk_at "x"
      walk_at "is"
      walk_at "f"
      refine x_len (sq_of h) ?_
      walk_at "x"
      refine x_ite (fun hc => ?_) (fun hc => ?_)
      · walk_at "x"
        have e : gatesD (.list es) = false := by show (decide (es.length ≤ 60000) && _) = false; rw [decide_eq_false (by omega)]; rfl
        rw [← e]
        exact q H (Same.refl _)
      · walk_at "x"
        refine x_lcB (xs := xs) (fun i => gateD (es.getD i .none)) (J := Itl K a) (G := fun H => SqL K H a xs) (fun R r => ⟨_, rfl, a, rfl, ⟨xs, sq_of h⟩, r⟩) walk_list (by omega) (fun H' s => sq_of (s _ _ h)) (fun x => rfl) ?_ ?_
        · intro i x H' s hx R hR
          obtain ⟨f, hf, hxf⟩ := hs.get hx
          rw [getDD hf] at hR
          walk_at "x"
          exact ⟨d, x, f, rfl, DAt.same s f hxf, hR H' (Same.refl _)⟩
        · intro p H' hp s hP
          walk_at "x"
          refine x_all hP ?_
          rw [hlen, range_allD (f := gateD)]
          have e : gatesD (.list es) = es.all gateD := by show (decide (es.length ≤ 60000) && _) = _; rw [decide_eq_true (by omega)]; rfl
          rw [← e]
          exact q H' s
    | int i =>
      walk_at "x"
      walk_at "is"
      walk_at "t"
      exact q H (Same.refl _)
    | bl b =>
      walk_at "x"
      walk_at "is"
      walk_at "t"
      exact q H (Same.refl _)
    | non =>
      walk_at "x"
      walk_at "is"
      walk_at "t"
      exact q H (Same.refl _)
    | str z =>
      walk_at "x"
      walk_at "is"
      walk_at "t"
      exact q H (Same.refl _)
    | tup h hs =>
      walk_at "x"
      walk_at "is"
      walk_at "t"
      exact q H (Same.refl _)


end
end Br
namespace Br
open PySem PySem.Spec PyProof.Rows L2
local macro_rules | `(tactic| walk_at "x1") => `(tactic| (with_reducible first
  | refine Br.x_seq ?_ | refine Br.x_set ?_ | refine Br.x_asg ?_ | refine Br.x_next ?_ | refine Br.x_ret ?_ | refine Br.x_retN ?_ | refine Br.x_drop ?_ | refine Br.x_if ?_ | refine Br.x_brk ?_ | refine Br.x_cont ?_
  | refine Br.x_c ?_ | refine Br.x_op ?_ | refine Br.x_un ?_ | refine Br.x_I0 ?_ | refine Br.x_U ?_ | refine Br.x_EqI ?_ | refine Br.x_NeI ?_ | refine Br.x_EqB ?_ | refine Br.x_iN ?_ | refine Br.x_int1 ?_ | refine Br.x_min2 ?_ | refine Br.x_max2 ?_ | refine Br.x_nN ?_ | refine Br.x_ifE ?_
  | refine Br.x_test (b := ()) ?_ | refine Br.x_tB ?_ | refine Br.x_bl ?_ | refine Br.x_and ?_ | refine Br.x_or ?_ | refine Br.x_not ?_ | refine Br.x_andV ?_ | refine Br.x_orV ?_ | refine Br.x_notV ?_ | refine Br.x_blP ?_
  | refine Br.x_nil ?_ | refine Br.x_cons ?_ | refine Br.x_call ?_ | refine Br.x_CB ?_ | refine Br.x_BM ?_ | refine Br.x_tup ?_ | refine Br.x_lst ?_ | refine Br.x_chain ?_ | refine Br.x_par ?_ | refine Br.x_gSub ?_ | refine Br.x_gName ?_ | refine Br.x_fld ?_ | refine Br.x_fldS ?_ | refine Br.x_match ?_ | refine Br.x_else ?_ | refine Br.x_noCase ?_))
local macro_rules | `(tactic| walk_at "xv") => `(tactic| ((with_reducible refine' Br.x_var ?hvar ?_); (case hvar => rfl)))
local macro_rules | `(tactic| walk_at "xd") => `(tactic| (dsimp only [List.set_cons_zero, List.set_cons_succ, List.cons_append, List.nil_append, List.append_nil]))
local macro_rules | `(tactic| walk_at "xi") => `(tactic| ((with_reducible refine Br.x_I ?hside ?_); (case hside => first | exact Br.mul_r (by decide) (by decide) | exact Br.mul_l (by decide) (by decide) | exact Br.mul_l (by omega) (by omega) | exact Br.mul_r (by omega) (by omega) | (show (0 : Int) < _; first | decide | omega) | exact ⟨by decide, by decide⟩ | exact ⟨by omega, by omega⟩ | exact ⟨by decide, by decide, by decide⟩)))
local macro_rules | `(tactic| walk_at "x") => `(tactic| (repeat (first | walk_at "x1" | walk_at "xv" | walk_at "xi" | walk_at "xd")))
local macro_rules | `(tactic| walk_at "start") => `(tactic| (simp only [L2.start, List.map_cons, List.map_nil, List.length_cons, List.length_nil, Nat.reduceAdd, Nat.reduceSub, List.replicate, List.cons_append, List.nil_append, List.append_nil]))
local macro_rules | `(tactic| walk_at "isi") => `(tactic| first
  | refine Br.x_isi (b := true) (.base (.int _)) (by decide +kernel) ?_ | refine Br.x_isi (b := false) (.base (.int _)) (by decide +kernel) ?_
  | refine Br.x_isi (b := true) (.base (.bl _)) (by decide +kernel) ?_ | refine Br.x_isi (b := false) (.base (.bl _)) (by decide +kernel) ?_
  | refine Br.x_isi (b := false) (.base .non) (by decide +kernel) ?_
  | refine Br.x_isi (b := true) (.base (.str _)) (by decide +kernel) ?_ | refine Br.x_isi (b := false) (.base (.str _)) (by decide +kernel) ?_
  | refine Br.x_isi (b := true) (.base (.tup (by assumption))) (by decide +kernel) ?_ | refine Br.x_isi (b := false) (.base (.tup (by assumption))) (by decide +kernel) ?_
  | refine Br.x_isi (b := true) (.base (.lst (by assumption))) (by decide +kernel) ?_ | refine Br.x_isi (b := false) (.base (.lst (by assumption))) (by decide +kernel) ?_)
local macro_rules | `(tactic| walk_at "f") => `(tactic| (refine L2.iteF ?_; walk_at "x"))
local macro_rules | `(tactic| walk_at "t") => `(tactic| (refine L2.iteT ?_; walk_at "x"))
local macro_rules | `(tactic| walk_at "is") => `(tactic| (walk_at "isi"; walk_at "x"))
local macro_rules | `(tactic| walk_at "xb") => `(tactic| (simp only [Br.bindS, List.set_cons_zero, List.set_cons_succ]; walk_at "x"))

section
variable {P : Program} {w : World} {K : PySem.W.Frag} {mg : Str → Option Value} {base : Heap}


def sp_bits_touched (K : PySem.W.Frag) : Sp := fun vs H Q _ => ∃ (a : Addr) (g : Gt), vs = [.ref a] ∧ GtAt H a g ∧ g.2.length ≤ 1000 ∧ ∀ H', Same H H' → Q (.int (topG g : Nat)) H'
theorem ok_bits_touched (T : Txt K mg) : FnOk P w K mg base CX0 1 T.a_bits_touched T.fd_bits_touched ["gate"] (sp_bits_touched K) := by
  refine T.F_bits_touched.ok sc_bits_touched (fun vs H Q E h => ?_) (fun cdv A outer s H vs Q E hr h => ?_)
  · obtain ⟨a, g, rfl, _⟩ := h
    rfl
  · obtain ⟨a, g, rfl, ⟨c, h1, h2⟩, hl, q⟩ := h
    refine ⟨_, (pss_cons (ps_asg (pv 0) (pg_tup rfl (pgs_cons (pg_name (i := 1) sc_bits_touched.nd rfl (Or.inl rfl)) (pgs_cons (pg_name (i := 2) sc_bits_touched.nd rfl (Or.inl rfl)) pgs_nil))))
      (pss_one (ps_ret (pe_op op_add (pe_callB (id := "max") (r := rMax K) (cr_max rfl) (by rfl) T.m_max (by decide +kernel) (pa_cons (pe_op op_cat (pe_lst (pa_cons (pv 1) pa_nil)) (pe_callTy (T := "list") (r := rListOf K) cr_list_of (by rfl) T.m_list (by decide +kernel) (pa_cons (pv 2) pa_nil))) pa_nil)) pe_int)))), ?_⟩
    walk_at "start"
    walk_at "x"
    refine x_gTup2 (st_of h1) ?_
    walk_at "x"
    refine ⟨by show 1 ≤ sizeLine; decide, fun p hp => ?_⟩
    have s1 := same_upd (o := .lst [.int (g.1 : Int)]) hp
    have e1 : (upd H p (.lst [.int (g.1 : Int)])) p = _ := upd_same
    generalize upd H p (.lst [.int (g.1 : Int)]) = H1 at s1 e1
    walk_at "x"
    refine x_listT (st_of (s1 _ _ h2)) fun p2 hp2 => ?_
    have s2 := s1.trans (same_upd (o := .lst (cInts g.2)) hp2)
    have e2 := same_upd (o := .lst (cInts g.2)) hp2 _ _ e1
    have e3 : (upd H1 p2 (.lst (cInts g.2))) p2 = _ := upd_same
    generalize upd H1 p2 (.lst (cInts g.2)) = H2 at s2 e2 e3
    have hcl : (cInts g.2).length = g.2.length := by unfold cInts; rw [List.length_map]
    refine x_cat e2 e3 (by rw [hcl]; show 1 + g.2.length ≤ 1000000; omega) fun p3 hp3 => ?_
    have s3 := s2.trans (same_upd (o := .lst ([.int (g.1 : Int)] ++ cInts g.2)) hp3)
    have e4 : (upd H2 p3 (.lst ([.int (g.1 : Int)] ++ cInts g.2))) p3 = _ := upd_same
    generalize upd H2 p3 (.lst ([.int (g.1 : Int)] ++ cInts g.2)) = H3 at s3 e4
    have e5 : [V.int (g.1 : Int)] ++ cInts g.2 = ((g.1 : Int) :: g.2.map fun (c : Nat) => (c : Int)).map V.int := by rw [cInts_eq]; rfl
    rw [e5] at e4
    walk_at "x"
    refine x_max (σ := []) (sq_of e4) (by simp) fun m hm hle => ?_
    walk_at "x"
    have hm2 : m + 1 = (topG g : Nat) := by
      obtain ⟨f1, f2, f3⟩ := foldr_max (cs := g.2) (t := g.1)
      have k1 : m ≤ ((g.2.foldr max g.1 : Nat) : Int) := by
        rcases List.mem_cons.mp hm with rfl | hm
        · omega
        · obtain ⟨c, hc, rfl⟩ := List.mem_map.mp hm
          have := f2 c hc
          omega
      have k2 : ((g.2.foldr max g.1 : Nat) : Int) ≤ m := by
        rcases f3 with f3 | f3
        · rw [f3]; exact hle _ List.mem_cons_self
        · exact hle _ (List.mem_cons_of_mem _ (List.mem_map.mpr ⟨_, f3, rfl⟩))
      show m + 1 = ((g.2.foldr max g.1 + 1 : Nat) : Int)
      omega
    rw [hm2]
    exact q H3 s3





end
end Br
namespace Br
open PySem PySem.Spec PyProof.Rows L2
local macro_rules | `(tactic| walk_at "x1") => `(tactic| (with_reducible first
  | refine Br.x_seq ?_ | refine Br.x_set ?_ | refine Br.x_asg ?_ | refine Br.x_next ?_ | refine Br.x_ret ?_ | refine Br.x_retN ?_ | refine Br.x_drop ?_ | refine Br.x_if ?_ | refine Br.x_brk ?_ | refine Br.x_cont ?_
  | refine Br.x_c ?_ | refine Br.x_op ?_ | refine Br.x_un ?_ | refine Br.x_I0 ?_ | refine Br.x_U ?_ | refine Br.x_EqI ?_ | refine Br.x_NeI ?_ | refine Br.x_EqB ?_ | refine Br.x_iN ?_ | refine Br.x_int1 ?_ | refine Br.x_min2 ?_ | refine Br.x_max2 ?_ | refine Br.x_nN ?_ | refine Br.x_ifE ?_
  | refine Br.x_test (b := ()) ?_ | refine Br.x_tB ?_ | refine Br.x_bl ?_ | refine Br.x_and ?_ | refine Br.x_or ?_ | refine Br.x_not ?_ | refine Br.x_andV ?_ | refine Br.x_orV ?_ | refine Br.x_notV ?_ | refine Br.x_blP ?_
  | refine Br.x_nil ?_ | refine Br.x_cons ?_ | refine Br.x_call ?_ | refine Br.x_CB ?_ | refine Br.x_BM ?_ | refine Br.x_tup ?_ | refine Br.x_lst ?_ | refine Br.x_chain ?_ | refine Br.x_par ?_ | refine Br.x_gSub ?_ | refine Br.x_gName ?_ | refine Br.x_fld ?_ | refine Br.x_fldS ?_ | refine Br.x_match ?_ | refine Br.x_else ?_ | refine Br.x_noCase ?_))
local macro_rules | `(tactic| walk_at "xv") => `(tactic| ((with_reducible refine' Br.x_var ?hvar ?_); (case hvar => rfl)))
local macro_rules | `(tactic| walk_at "xd") => `(tactic| (dsimp only [List.set_cons_zero, List.set_cons_succ, List.cons_append, List.nil_append, List.append_nil]))
local macro_rules | `(tactic| walk_at "xi") => `(tactic| ((with_reducible refine Br.x_I ?hside ?_); (case hside => first | exact Br.mul_r (by decide) (by decide) | exact Br.mul_l (by decide) (by decide) | exact Br.mul_l (by omega) (by omega) | exact Br.mul_r (by omega) (by omega) | (show (0 : Int) < _; first | decide | omega) | exact ⟨by decide, by decide⟩ | exact ⟨by omega, by omega⟩ | exact ⟨by decide, by decide, by decide⟩)))
local macro_rules | `(tactic| walk_at "x") => `(tactic| (repeat (first | walk_at "x1" | walk_at "xv" | walk_at "xi" | walk_at "xd")))
local macro_rules | `(tactic| walk_at "start") => `(tactic| (simp only [L2.start, List.map_cons, List.map_nil, List.length_cons, List.length_nil, Nat.reduceAdd, Nat.reduceSub, List.replicate, List.cons_append, List.nil_append, List.append_nil]))
local macro_rules | `(tactic| walk_at "isi") => `(tactic| first
  | refine Br.x_isi (b := true) (.base (.int _)) (by decide +kernel) ?_ | refine Br.x_isi (b := false) (.base (.int _)) (by decide +kernel) ?_
  | refine Br.x_isi (b := true) (.base (.bl _)) (by decide +kernel) ?_ | refine Br.x_isi (b := false) (.base (.bl _)) (by decide +kernel) ?_
  | refine Br.x_isi (b := false) (.base .non) (by decide +kernel) ?_
  | refine Br.x_isi (b := true) (.base (.str _)) (by decide +kernel) ?_ | refine Br.x_isi (b := false) (.base (.str _)) (by decide +kernel) ?_
  | refine Br.x_isi (b := true) (.base (.tup (by assumption))) (by decide +kernel) ?_ | refine Br.x_isi (b := false) (.base (.tup (by assumption))) (by decide +kernel) ?_
  | refine Br.x_isi (b := true) (.base (.lst (by assumption))) (by decide +kernel) ?_ | refine Br.x_isi (b := false) (.base (.lst (by assumption))) (by decide +kernel) ?_)
local macro_rules | `(tactic| walk_at "f") => `(tactic| (refine L2.iteF ?_; walk_at "x"))
local macro_rules | `(tactic| walk_at "t") => `(tactic| (refine L2.iteT ?_; walk_at "x"))
local macro_rules | `(tactic| walk_at "is") => `(tactic| (walk_at "isi"; walk_at "x"))
local macro_rules | `(tactic| walk_at "xb") => `(tactic| (simp only [Br.bindS, List.set_cons_zero, List.set_cons_succ]; walk_at "x"))

section
variable {P : Program} {w : World} {K : PySem.W.Frag} {mg : Str → Option Value} {base : Heap}

open Br
theorem gatesD_ok {gs : List Gt} (hl : gs.length ≤ 60000) (ok : ∀ g, g ∈ gs → GtOk 120 g) : gatesD (.list (gs.map gtD)) = true := by
  show (decide ((gs.map gtD).length ≤ 60000) && (gs.map gtD).all gateD) = true
  rw [List.length_map, decide_eq_true hl, Bool.true_and, List.all_eq_true]
  intro e he
  obtain ⟨g, hg, rfl⟩ := List.mem_map.mp he
  exact gateD_ok (ok g hg)
theorem bitsD_ok {n : Int} {bs : List Bool} (h : n ≤ (bs.length : Int)) : bitsD n (.list (bs.map PyData.bool)) = true := by
  show (decide (n ≤ ((bs.map PyData.bool).length : Int)) && (bs.map PyData.bool).all isBlD) = true
  rw [List.length_map, decide_eq_true h, Bool.true_and, List.all_eq_true]
  intro e he
  obtain ⟨b, _, rfl⟩ := List.mem_map.mp he
  rfl
theorem all_mapG {B : List Bool} {cs : List Nat} : ((List.range cs.length).map fun i => B.getD (cs.getD i 0) false).all id = cs.all fun c => B.getD c false := by
  rw [range_map (f := fun c => B.getD c false), List.all_map]
  rfl

def sp_perform (K : PySem.W.Frag) : Sp := fun vs H Q _ => ∃ (d ga ba : Addr) (as : List Addr) (gs : List Gt) (bs : List Bool), vs = [.ref ga, .ref ba] ∧ ga ≠ d ∧ ba ≠ d ∧ H ga = some (.lst (as.map V.ref)) ∧ GtsAt H as gs ∧ (∀ g, g ∈ gs → GtOk bs.length g ∧ GtOk 120 g) ∧ gs.length ≤ 60000 ∧ bs.length ≤ 1000 ∧ H ba = some (.lst (bls bs)) ∧
  ∀ l H', H l = none → Same H H' → H' l = some (.lst (bls (perfF gs bs))) → Q (.ref l) H'
theorem ok_perform (T : Txt K mg) : FnOk P w K mg base CX0 6 T.a_perform T.fd_perform ["gates", "bits"] (sp_perform K) := by
  refine T.F_perform.ok sc_perform (fun vs H Q E h => ?_) (fun cdv A outer s H vs Q E hr h => ?_)
  · obtain ⟨d, ga, ba, as, gs, bs, rfl, _⟩ := h
    rfl
  · obtain ⟨d, ga, ba, as, gs, bs, rfl, hgd, hbd, hga, hG, ok, g6, b9, hba, q⟩ := h
    have hal : (as.map V.ref).length = gs.length := by rw [List.length_map, hG.1]
    refine ⟨_, (pss_cons (ps_if (pt_not (pt_val (pe_call (ok_are_gates T) hr (by rfl) T.g_are_gates T.F_are_gates.kp T.b_are_gates .nil pass0 (pa_cons (pv 0) pa_nil))))
      (pss_one ps_never)
      pss_nil)
      (pss_cons (ps_if (pt_not (pt_val (pe_call (ok_are_bits T) (hr.mono (by decide)) (by rfl) T.g_are_bits T.F_are_bits.kp T.b_are_bits .nil pass0 (pa_cons (pv 1) (pa_cons (pe_callBK (cr_maxDf rfl) (by rfl) T.m_max (by decide +kernel) (pa_cons (pe_lc (own := [("gate", 6)]) (g := gName 6) (tt := tYes) rfl sc_perform.nd (pi_list (pv 0)) (blkOk_by (N := N_perform) (sc := defScope s_perform) (by decide +kernel)) (fun _ _ _ _ _ => (pg_name (i := 6) sc_perform.nd rfl (Or.inl rfl))) (fun _ _ _ _ _ => pts_nil) (fun _ _ _ _ _ => (pe_call (ok_bits_touched T) (hr.mono (by decide)) (by rfl) T.g_bits_touched T.F_bits_touched.kp T.b_bits_touched .nil pass0 (pa_cons (pv 6) pa_nil)))) pa_nil) (pk_cons pe_int pk_nil)) pa_nil)))))
      (pss_one ps_never)
      pss_nil)
      (pss_cons (ps_set (i := 2) sc_perform.nd rfl (.inr rfl) (pe_callTy (T := "list") (r := rListOf K) cr_list_of (by rfl) T.m_list (by decide +kernel) (pa_cons (pv 1) pa_nil)))
      (pss_cons (ps_for PassesOwn.never rfl (pi_list (pv 0)) (pg_tup rfl (pgs_cons (pg_name (i := 3) sc_perform.nd rfl (Or.inl rfl)) (pgs_cons (pg_name (i := 4) sc_perform.nd rfl (Or.inl rfl)) pgs_nil)))
      (pss_one (ps_if (pt_val (pe_callB (id := "all") (r := rAll K) (cr_all rfl) (by rfl) T.m_all (by decide +kernel) (pa_cons (pe_lc (own := [("control", 5)]) (g := gName 5) (tt := tYes) rfl sc_perform.nd (pi_tup (pv 4)) (blkOk_by (N := N_perform) (sc := defScope s_perform) (by decide +kernel)) (fun _ _ _ _ _ => (pg_name (i := 5) sc_perform.nd rfl (Or.inl rfl))) (fun _ _ _ _ _ => pts_nil) (fun _ _ _ _ _ => (pe_ix (r := rIxL K) ix_list (pv 2) (pv 5) (fun _ _ => rfl)))) pa_nil)))
      (pss_one (ps_asg (pe_not (pe_ix (r := rIxL K) ix_list (pv 2) (pv 3) (fun _ _ => rfl))) (pg_sub (pv 2) (pv 3) set_list)))
      pss_nil)))
      (pss_one (ps_ret (pv 2))))))), ?_⟩
    walk_at "start"
    walk_at "x"
    refine ⟨d, _, _, rfl, .lst hgd hga hG.dats, fun H1 s1 => ?_⟩
    rw [gatesD_ok g6 fun g hg => (ok g hg).2]
    walk_at "x"
    walk_at "f"
    refine x_maxDf ?_
    walk_at "x"
    refine x_lcV (xs := as.map V.ref) (fun i => .int ((topG (gs.getD i (0, [])) : Nat) : Int)) (J := Itl K ga) (G := fun H => SqL K H ga (as.map V.ref)) (fun R r => ⟨_, rfl, ga, rfl, ⟨_, sq_of (s1 _ _ hga)⟩, r⟩) walk_list (by omega) (fun H' s => sq_of (s _ _ (s1 _ _ hga))) (fun x => rfl) ?_ ?_
    · intro i x H' s hx R hR
      obtain ⟨a, ha, rfl⟩ := map_getR hx
      obtain ⟨g, hg, hat⟩ := hG.get ha
      rw [getDT hg] at hR
      walk_at "x"
      refine ⟨a, g, rfl, hat.tups (fun c xs e => s _ _ (s1 _ _ e)), ?_, hR⟩
      have := (ok g (List.mem_of_getElem? hg)).1.len
      omega
    · intro p H2 hp s2 hP
      rw [hal, range_map (f := fun g => V.int ((topG g : Nat) : Int))] at hP
      have e : (gs.map fun g => V.int ((topG g : Nat) : Int)) = (gs.map fun g => ((topG g : Nat) : Int)).map V.int := by rw [List.map_map]; rfl
      rw [e] at hP
      have s2 := s1.trans s2
      walk_at "x"
      refine x_maxDfP (sq_of hP) fun m hm => ?_
      have hm : m ≤ (bs.length : Int) := by
        rcases hm with ⟨_, rfl⟩ | ⟨hm, _⟩
        · omega
        · obtain ⟨g, hg, rfl⟩ := List.mem_map.mp hm
          have := topG_le (ok g hg).1
          omega
      walk_at "x"
      refine ⟨d, _, .list (bs.map PyData.bool), m, rfl, .lst hbd (s2 _ _ hba) DAts.bls, fun es e => by cases e; rw [List.length_map]; omega, fun H3 s3 => ?_⟩
      rw [bitsD_ok hm]
      have s3 := s2.trans s3
      walk_at "x"
      walk_at "f"
      refine x_listL (sq_of (s3 _ _ hba)) fun l hl => ?_
      have s4 := s3.trans (same_upd (o := .lst (bls bs)) hl)
      have hl0 : H l = none := s3.free hl
      have e4 : (upd H3 l (.lst (bls bs))) l = _ := upd_same
      generalize upd H3 l (.lst (bls bs)) = H4 at s4 e4
      walk_at "x"
      refine x_forL (p := ga) (as.map V.ref) (fun k σ' H' => ∃ v3 v4 v5 v6, σ' = [some (.ref ga), some (.ref ba), some (.ref l), v3, v4, v5, v6] ∧ Same H H' ∧ H' l = some (.lst (bls (perfF (gs.take k) bs)))) (fun R r => by walk_at "x"; exact r) (sq_of (s4 _ _ hga)) ⟨_, _, _, _, rfl, s4, e4⟩ (fun k σ' H' _ z => by obtain ⟨_, _, _, _, _, z, _⟩ := z; exact sq_of (z _ _ hga)) ?_ ?_
      · rintro k x σ' H5 hx ⟨v3, v4, v5, v6, rfl, s5, e5⟩
        obtain ⟨b, hb2, rfl⟩ := map_getR hx
        obtain ⟨g, hg1, c, hg2, hg3⟩ := hG.get hb2
        have okg := (ok g (List.mem_of_getElem? hg1)).1
        refine x_gTup2 (st_of (s5 _ _ hg2)) ?_
        walk_at "x"
        have hlen : (perfF (gs.take k) bs).length = bs.length := perfF_len
        generalize hB : perfF (gs.take k) bs = B at e5 hlen
        have fin : ∀ H6, Same H H6 → H6 l = some (.lst (bls (perfG B g))) → Same H H6 ∧ H6 l = some (.lst (bls (perfF (gs.take (k + 1)) bs))) := fun H6 s e => ⟨s, by rw [take_snocG hg1, perfF_snoc, hB]; exact e⟩
        refine x_lcB (xs := cInts g.2) (fun i => B.getD (g.2.getD i 0) false) (J := Itt K c) (G := fun H => SqT K H c (cInts g.2)) (fun R r => ⟨_, rfl, c, rfl, ⟨_, st_of (s5 _ _ hg3)⟩, r⟩) walk_tup (by rw [cInts_len]; have := okg.len; omega) (fun H' s => st_of (s _ _ (s5 _ _ hg3))) (fun x => rfl) ?_ ?_
        · intro i x H' s hx R hR
          obtain ⟨m, hm, rfl⟩ := cInts_get hx
          rw [getDT hm] at hR
          have hmb := okg.c m (List.mem_of_getElem? hm)
          walk_at "x"
          refine x_ixL (sq_of (s _ _ e5)) (atI_nat (bls_get (by omega))) ?_
          exact hR H' (Same.refl _)
        · intro p H6 hp s6 hP
          rw [cInts_len] at hP
          walk_at "x"
          refine x_all hP ?_
          rw [all_mapG]
          walk_at "x"
          refine x_iteB (fun h0 => ?_) (fun h0 => ?_)
          · walk_at "x"
            have htb : g.1 < B.length := by rw [hlen]; exact okg.t
            refine x_ixL (sq_of (s6 _ _ e5)) (atI_nat (bls_get htb)) ?_
            walk_at "x"
            refine x_subL (k := g.1) (s6 _ _ e5) (by rw [bls_len]; exact ixN_nat htb) ?_
            walk_at "x"
            refine ⟨_, _, _, _, rfl, fin _ (same_keep hl0 (s5.trans s6) keep_upd) ?_⟩
            rw [upd_same, bls_set]
            unfold perfG
            rw [if_pos h0]
          · walk_at "x"
            refine ⟨_, _, _, _, rfl, fin _ (s5.trans s6) ?_⟩
            unfold perfG
            rw [if_neg (by rw [h0]; decide)]
            exact s6 _ _ e5
      · rintro σ' H5 ⟨v3, v4, v5, v6, rfl, s5, e5⟩
        walk_at "x"
        refine q l _ hl0 s5 ?_
        rw [e5, hal, List.take_length]


end
end Br
namespace Br
open PySem PySem.Spec PyProof.Rows L2
local macro_rules | `(tactic| walk_at "x1") => `(tactic| (with_reducible first
  | refine Br.x_seq ?_ | refine Br.x_set ?_ | refine Br.x_asg ?_ | refine Br.x_next ?_ | refine Br.x_ret ?_ | refine Br.x_retN ?_ | refine Br.x_drop ?_ | refine Br.x_if ?_ | refine Br.x_brk ?_ | refine Br.x_cont ?_
  | refine Br.x_c ?_ | refine Br.x_op ?_ | refine Br.x_un ?_ | refine Br.x_I0 ?_ | refine Br.x_U ?_ | refine Br.x_EqI ?_ | refine Br.x_NeI ?_ | refine Br.x_EqB ?_ | refine Br.x_iN ?_ | refine Br.x_int1 ?_ | refine Br.x_min2 ?_ | refine Br.x_max2 ?_ | refine Br.x_nN ?_ | refine Br.x_ifE ?_
  | refine Br.x_test (b := ()) ?_ | refine Br.x_tB ?_ | refine Br.x_bl ?_ | refine Br.x_and ?_ | refine Br.x_or ?_ | refine Br.x_not ?_ | refine Br.x_andV ?_ | refine Br.x_orV ?_ | refine Br.x_notV ?_ | refine Br.x_blP ?_
  | refine Br.x_nil ?_ | refine Br.x_cons ?_ | refine Br.x_call ?_ | refine Br.x_CB ?_ | refine Br.x_BM ?_ | refine Br.x_tup ?_ | refine Br.x_lst ?_ | refine Br.x_chain ?_ | refine Br.x_par ?_ | refine Br.x_gSub ?_ | refine Br.x_gName ?_ | refine Br.x_fld ?_ | refine Br.x_fldS ?_ | refine Br.x_match ?_ | refine Br.x_else ?_ | refine Br.x_noCase ?_))
local macro_rules | `(tactic| walk_at "xv") => `(tactic| ((with_reducible refine' Br.x_var ?hvar ?_); (case hvar => rfl)))
local macro_rules | `(tactic| walk_at "xd") => `(tactic| (dsimp only [List.set_cons_zero, List.set_cons_succ, List.cons_append, List.nil_append, List.append_nil]))
local macro_rules | `(tactic| walk_at "xi") => `(tactic| ((with_reducible refine Br.x_I ?hside ?_); (case hside => first | exact Br.mul_r (by decide) (by decide) | exact Br.mul_l (by decide) (by decide) | exact Br.mul_l (by omega) (by omega) | exact Br.mul_r (by omega) (by omega) | (show (0 : Int) < _; first | decide | omega) | exact ⟨by decide, by decide⟩ | exact ⟨by omega, by omega⟩ | exact ⟨by decide, by decide, by decide⟩)))
local macro_rules | `(tactic| walk_at "x") => `(tactic| (repeat (first | walk_at "x1" | walk_at "xv" | walk_at "xi" | walk_at "xd")))
local macro_rules | `(tactic| walk_at "start") => `(tactic| (simp only [L2.start, List.map_cons, List.map_nil, List.length_cons, List.length_nil, Nat.reduceAdd, Nat.reduceSub, List.replicate, List.cons_append, List.nil_append, List.append_nil]))
local macro_rules | `(tactic| walk_at "isi") => `(tactic| first
  | refine Br.x_isi (b := true) (.base (.int _)) (by decide +kernel) ?_ | refine Br.x_isi (b := false) (.base (.int _)) (by decide +kernel) ?_
  | refine Br.x_isi (b := true) (.base (.bl _)) (by decide +kernel) ?_ | refine Br.x_isi (b := false) (.base (.bl _)) (by decide +kernel) ?_
  | refine Br.x_isi (b := false) (.base .non) (by decide +kernel) ?_
  | refine Br.x_isi (b := true) (.base (.str _)) (by decide +kernel) ?_ | refine Br.x_isi (b := false) (.base (.str _)) (by decide +kernel) ?_
  | refine Br.x_isi (b := true) (.base (.tup (by assumption))) (by decide +kernel) ?_ | refine Br.x_isi (b := false) (.base (.tup (by assumption))) (by decide +kernel) ?_
  | refine Br.x_isi (b := true) (.base (.lst (by assumption))) (by decide +kernel) ?_ | refine Br.x_isi (b := false) (.base (.lst (by assumption))) (by decide +kernel) ?_)
local macro_rules | `(tactic| walk_at "f") => `(tactic| (refine L2.iteF ?_; walk_at "x"))
local macro_rules | `(tactic| walk_at "t") => `(tactic| (refine L2.iteT ?_; walk_at "x"))
local macro_rules | `(tactic| walk_at "is") => `(tactic| (walk_at "isi"; walk_at "x"))
local macro_rules | `(tactic| walk_at "xb") => `(tactic| (simp only [Br.bindS, List.set_cons_zero, List.set_cons_succ]; walk_at "x"))

section
variable {P : Program} {w : World} {K : PySem.W.Frag} {mg : Str → Option Value} {base : Heap}

open Br
open Br.F

theorem GtAt.same2 {H H' : Hp} {a : Addr} {g : Gt} (h : GtAt H a g) (s : Same H H') : GtAt H' a g := h.tups fun b xs e => s _ _ e
def sp_gates_of_step (CT : Addr) (K : PySem.W.Frag) : Sp := fun vs H Q E => ∃ (a : Addr) (s : Stp) (m c i : Nat), vs = [.ref a, .int (i : Int)] ∧ StpAt H a s ∧ StpOk m c i s ∧
  (isT s = true → ∀ H', Same H H' → E (.ref CT) none H') ∧
  (isT s = false → ∀ (l : Addr) (bs : List Addr) (gs : List Gt) H', Same H H' → H l = none → H' l = some (.lst (bs.map V.ref)) → GtsAt H' bs gs → GtsOf i s gs → Q (.ref l) H')
theorem ok_gates_of_step (T : Txt K mg) : FnOk P w K mg base (L2.CX P w) 1 T.a_gates_of_step T.fd_gates_of_step ["step", "inputs"] (sp_gates_of_step T.E_BadStep K) := by
  refine T.F_gates_of_step.okX sc_gates_of_step (fun vs H Q E h => ?_) (fun cdv A outer s H vs Q E hr h => ?_)
  · obtain ⟨a, s, m, c, i, rfl, _⟩ := h
    rfl
  · obtain ⟨a, s, m, c, i, rfl, hs, ok, hE, q⟩ := h
    refine ⟨_, (pss_one (ps_match (pv 0) (pcs_lit rfl op_eq
      (PSs.nox (pss_one (ps_ret (pe_lst pa_nil))))
      (pcs_seq rfl op_eq (pcap_name 2 sc_gates_of_step.nd rfl (.inl rfl) (pcap_wild (pcap_name 3 sc_gates_of_step.nd rfl (.inl rfl) pcap_nil)))
      (PSs.nox (pss_cons (ps_setLc (i := 4) (own := [("place", 9), ("at", 10)]) (g := gTup K 2 (gCons (gName 9) (gCons (gName 10) gNil))) (tt := tYes) rfl sc_gates_of_step.nd rfl rfl (sw_true rfl rfl rfl (by decide +kernel)) (pi_tup (pv 3)) (blkOk_by (N := N_gates_of_step) (sc := defScope s_gates_of_step) (by decide +kernel)) (fun _ _ _ _ _ => (pg_tup rfl (pgs_cons (pg_name (i := 9) sc_gates_of_step.nd rfl (Or.inl rfl)) (pgs_cons (pg_name (i := 10) sc_gates_of_step.nd rfl (Or.inl rfl)) pgs_nil)))) (fun _ _ _ _ _ => pts_nil) (fun _ _ _ _ _ => (pe_ifExp (pt_cmpR op_eq (pv 9) pe_str (nomark _)) (pv 10) (pe_op op_add (pv 1) (pv 10)))))
      (pss_one (ps_ret (pe_lst (pa_cons (pe_tup (pa_cons (pe_op op_add (pv 1) (pv 2)) (pa_cons (pe_callTy (T := "tuple") (r := rTupOf K) cr_tup_of (by rfl) T.m_tuple (by decide +kernel) (pa_cons (pe_sortSet (by rfl) T.m_sorted (by rfl) T.m_set (pv 4)) pa_nil)) pa_nil))) pa_nil))))))
      (pcs_seq rfl op_eq (pcap_wild (pcap_wild pcap_nil))
      (PSs.nox (pss_one (ps_ret (pe_lst pa_nil))))
      (pcs_seq rfl op_eq (pcap_name 5 sc_gates_of_step.nd rfl (.inl rfl) (pcap_name 6 sc_gates_of_step.nd rfl (.inl rfl) pcap_nil))
      (PSs.nox (pss_cons (ps_par (i := 7) (j := 8) rfl sc_gates_of_step.nd rfl rfl (by decide) rfl rfl (pa_cons (pe_tup (pa_cons (pe_op op_add (pv 1) (pv 5)) (pa_cons (pe_tup (pa_cons (pe_op op_add (pv 1) (pv 6)) pa_nil)) pa_nil))) (pa_cons (pe_tup (pa_cons (pe_op op_add (pv 1) (pv 6)) (pa_cons (pe_tup (pa_cons (pe_op op_add (pv 1) (pv 5)) pa_nil)) pa_nil))) pa_nil)) (by rfl))
      (pss_one (ps_ret (pe_lst (pa_cons (pv 7) (pa_cons (pv 8) (pa_cons (pv 7) pa_nil))))))))
      (pcs_else (rest := _) (pss_one (ps_raise rfl (takes_of rfl rfl rfl rfl) (pmk_own PySem.F.excBase_ValueError T.xE_BadStep T.gE_BadStep T.kE_BadStep (raises_own T.bE_BadStep T.tE_BadStep) (by exact rfl))))))))))), ?_⟩
    walk_at "start"
    cases s with
    | add t k fs =>
      obtain ⟨f, as, h1, h2, h3, h4⟩ := hs
      obtain ⟨o1, o2, o3, o4, o5⟩ := ok
      have q := q rfl
      walk_at "x"
      refine x_litI (st_of h1) (fun hk => ?_) (fun hk => ?_)
      · walk_at "x"
        refine ⟨by show 0 ≤ sizeLine; decide, fun l hl => ?_⟩
        exact q l [] [] _ (same_upd hl) hl upd_same ⟨rfl, fun j x b h _ => by simp at h⟩ (.inl ⟨hk, rfl⟩)
      · refine x_caseY (st_of h1) rfl ?_
        walk_at "xb"
        refine x_lcI (J := Itt K f) (n := (as.map V.ref).length) (G := fun H => SqT K H f (as.map V.ref)) (fun R r => ⟨_, rfl, f, rfl, ⟨_, st_of h2⟩, r⟩) walk_tup (fun o j H' => Same H H' ∧ H' o = some (.lst (((fs.take j).map fun x => ((facB i x : Nat) : Int)).map V.int))) (fun o ho => ⟨same_upd ho, upd_same⟩) (fun o j H' _ _ z => st_of (z.1 _ _ h2)) ?_ ?_ ?_
        · rintro o j x H1 H2 hj ho ⟨s1, e1⟩ ⟨rfl, hx⟩
          obtain ⟨b, hb, rfl⟩ := map_getR hx
          have hjf : j < fs.length := by rw [List.length_map] at hj; omega
          have hfx := h4 j _ b (List.getElem?_eq_getElem hjf) hb
          have htk : fs.take (j + 1) = fs.take j ++ [fs[j]] := take_snoc (List.getElem?_eq_getElem hjf)
          have hfin : ∀ z : Int, z = ((facB i fs[j] : Nat) : Int) → (upd H2 o (.lst (((fs.take j).map fun x => ((facB i x : Nat) : Int)).map V.int ++ [V.int z]))) o = some (.lst (((fs.take (j + 1)).map fun x => ((facB i x : Nat) : Int)).map V.int)) := fun z hz => by
            rw [upd_same, htk, List.map_append, List.map_append, hz]; rfl
          have hlen : (((fs.take j).map fun x => ((facB i x : Nat) : Int)).map V.int).length < sizeLine := lt_line (by rw [List.length_map, List.length_map, List.length_take]; omega)
          generalize fs[j] = y at hfx hfin
          cases y with
          | cell w =>
            have hfx : H2 b = some (.tup [.str "cell", .int (w : Int)]) := (show FacAt H b (.cell w) from hfx).tups (Tups.same s1)
            refine x_gTup2 (st_of hfx) ⟨rfl, ?_⟩
            walk_at "x"
            refine x_Eq rfl ?_
            rw [decide_eq_false (by decide)]
            walk_at "x"
            walk_at "f"
            exact ⟨_, e1, hlen, sput s1 ho, hfin _ (by show (i : Int) + (w : Int) = ((i + w : Nat) : Int); omega)⟩
          | inp w =>
            have hfx : H2 b = some (.tup [.str "input", .int (w : Int)]) := (show FacAt H b (.inp w) from hfx).tups (Tups.same s1)
            refine x_gTup2 (st_of hfx) ⟨rfl, ?_⟩
            walk_at "x"
            refine x_Eq rfl ?_
            rw [decide_eq_true rfl]
            walk_at "x"
            walk_at "t"
            exact ⟨_, e1, hlen, sput s1 ho, hfin _ rfl⟩
        · rintro x σ' H' R R' hr ⟨p, zs, e1, e2, e3, x1, r1, e4, x2, r2, e5, e6, h⟩
          exact ⟨p, zs, e1, e2, e3, x1, r1, e4, x2, r2, e5, e6, hr _ _ h⟩
        intro o H1 ho hP
        obtain ⟨s1, e1⟩ : Same H H1 ∧ H1 o = some (.lst ((fs.map fun x => ((facB i x : Nat) : Int)).map V.int)) := by
          obtain ⟨s1, e1⟩ := hP
          rw [List.length_map, h3, List.take_length] at e1
          exact ⟨s1, e1⟩
        walk_at "x"
        refine ⟨_, rfl, o, _, rfl, sq_of e1, by rw [List.length_map]; omega, fun zs p hup hmem hp => ?_⟩
        obtain ⟨cs, rfl, hcs⟩ : ∃ cs : List Nat, zs = cs.map (fun (c : Nat) => (c : Int)) ∧ ∀ x, x ∈ cs ↔ x ∈ fs.map (facB i) := by
          have h0 : ∀ z, z ∈ zs → 0 ≤ z := fun z hz => by
            obtain ⟨x, _, rfl⟩ := List.mem_map.mp ((hmem z).mp hz)
            omega
          refine ⟨zs.map Int.toNat, ?_, fun x => ?_⟩
          · rw [List.map_map]
            conv => lhs; rw [← List.map_id zs]
            exact List.map_congr_left fun z hz => by have := h0 z hz; show z = ((z.toNat : Nat) : Int); omega
          · constructor
            · intro hx
              obtain ⟨z, hz, rfl⟩ := List.mem_map.mp hx
              obtain ⟨y, hy, rfl⟩ := List.mem_map.mp ((hmem z).mp hz)
              exact List.mem_map.mpr ⟨y, hy, by simp⟩
            · intro hx
              obtain ⟨y, hy, rfl⟩ := List.mem_map.mp hx
              exact List.mem_map.mpr ⟨((facB i y : Nat) : Int), (hmem _).mpr (List.mem_map.mpr ⟨y, hy, rfl⟩), by simp⟩
        have hup2 : cs.Pairwise (· < ·) := by
          rw [List.pairwise_map] at hup
          exact hup.imp fun h => by omega
        have s2 := s1.trans (same_upd (o := .lst ((cs.map fun (c : Nat) => (c : Int)).map V.int)) hp)
        have e2 : (upd H1 p (.lst ((cs.map fun (c : Nat) => (c : Int)).map V.int))) p = some (.lst (cInts cs)) := by rw [upd_same, cInts_eq]
        generalize upd H1 p (.lst ((cs.map fun (c : Nat) => (c : Int)).map V.int)) = H2 at s2 e2
        walk_at "x"
        refine x_tupL (sq_of e2) fun u hu => ?_
        have s3 := s2.trans (same_upd (o := .tup (cInts cs)) hu)
        have e3 : (upd H2 u (.tup (cInts cs))) u = some (.tup (cInts cs)) := upd_same
        generalize upd H2 u (.tup (cInts cs)) = H3 at s3 e3
        walk_at "x"
        refine ⟨by show 2 ≤ sizeLine; decide, fun g hg => ?_⟩
        have u4 := same_upd (o := .tup [V.int ((i : Int) + (t : Int)), .ref u]) hg
        have s4 := s3.trans u4
        have e4 : GtAt (upd H3 g (.tup [V.int ((i : Int) + (t : Int)), .ref u])) g (i + t, cs) := ⟨u, by rw [upd_same]; rfl, u4 _ _ e3⟩
        generalize upd H3 g (.tup [V.int ((i : Int) + (t : Int)), .ref u]) = H4 at s4 e4
        walk_at "x"
        refine ⟨by show 1 ≤ sizeLine; decide, fun l hl => ?_⟩
        have u5 := same_upd (o := .lst [V.ref g]) hl
        exact q l [g] [(i + t, cs)] _ (s4.trans u5) (s4.free hl) upd_same (GtsAt.one (e4.same2 u5)) (.inr ⟨hk, cs, hup2, hcs, rfl⟩)
    | scale t u =>
      have h1 : H a = some (.tup [.str "scale", .int (t : Int), .int u]) := hs
      walk_at "x"
      refine x_litNo (st_of h1) (Nat.ne_of_beq_eq_false rfl) ?_
      refine x_caseNo (st_of h1) (Nat.ne_of_beq_eq_false rfl) ?_
      refine x_caseY (st_of h1) rfl ?_
      walk_at "xb"
      refine ⟨by show 0 ≤ sizeLine; decide, fun l hl => ?_⟩
      exact q rfl l [] [] _ (same_upd hl) hl upd_same ⟨rfl, fun j x b h _ => by simp at h⟩ rfl
    | swap x y =>
      have h1 : H a = some (.tup [.str "swap", .int (x : Int), .int (y : Int)]) := hs
      walk_at "x"
      refine x_litNo (st_of h1) (Nat.ne_of_beq_eq_false rfl) ?_
      refine x_caseNo (st_of h1) (Nat.ne_of_beq_eq_false rfl) ?_
      refine x_caseW (st_of h1) rfl (by decide) ?_
      refine x_caseY (st_of h1) rfl ?_
      walk_at "xb"
      refine ⟨by show 1 ≤ sizeLine; decide, fun u1 hu1 => ?_⟩
      have s1 := same_upd (o := .tup [V.int ((i : Int) + (y : Int))]) hu1
      have e1 : (upd H u1 (.tup [V.int ((i : Int) + (y : Int))])) u1 = some (.tup (cInts [i + y])) := by rw [upd_same]; rfl
      generalize upd H u1 (.tup [V.int ((i : Int) + (y : Int))]) = H1 at s1 e1
      walk_at "x"
      refine ⟨by show 2 ≤ sizeLine; decide, fun g1 hg1 => ?_⟩
      have v2 := same_upd (o := .tup [V.int ((i : Int) + (x : Int)), .ref u1]) hg1
      have e2 : GtAt (upd H1 g1 (.tup [V.int ((i : Int) + (x : Int)), .ref u1])) g1 (i + x, [i + y]) := ⟨u1, by rw [upd_same]; rfl, v2 _ _ e1⟩
      have s2 := s1.trans v2
      generalize upd H1 g1 (.tup [V.int ((i : Int) + (x : Int)), .ref u1]) = H2 at s2 e2
      walk_at "x"
      refine ⟨by show 1 ≤ sizeLine; decide, fun u3 hu3 => ?_⟩
      have v3 := same_upd (o := .tup [V.int ((i : Int) + (x : Int))]) hu3
      have e3 : (upd H2 u3 (.tup [V.int ((i : Int) + (x : Int))])) u3 = some (.tup (cInts [i + x])) := by rw [upd_same]; rfl
      have s3 := s2.trans v3
      have e2 := e2.same2 v3
      generalize upd H2 u3 (.tup [V.int ((i : Int) + (x : Int))]) = H3 at s3 e3 e2
      walk_at "x"
      refine ⟨by show 2 ≤ sizeLine; decide, fun g2 hg2 => ?_⟩
      have v4 := same_upd (o := .tup [V.int ((i : Int) + (y : Int)), .ref u3]) hg2
      have e4 : GtAt (upd H3 g2 (.tup [V.int ((i : Int) + (y : Int)), .ref u3])) g2 (i + y, [i + x]) := ⟨u3, by rw [upd_same]; rfl, v4 _ _ e3⟩
      have s4 := s3.trans v4
      have e2 := e2.same2 v4
      generalize upd H3 g2 (.tup [V.int ((i : Int) + (y : Int)), .ref u3]) = H4 at s4 e4 e2
      walk_at "x"
      refine ⟨by show 3 ≤ sizeLine; decide, fun l hl => ?_⟩
      have v5 := same_upd (o := .lst [V.ref g1, .ref g2, .ref g1]) hl
      have e2 := e2.same2 v5
      have e4 := e4.same2 v5
      refine q rfl l [g1, g2, g1] [(i + x, [i + y]), (i + y, [i + x]), (i + x, [i + y])] _ (s4.trans v5) (s4.free hl) upd_same ⟨rfl, fun j z b f1 f2 => ?_⟩ rfl
      match j, f1, f2 with
      | 0, f1, f2 => cases f1; cases f2; exact e2
      | 1, f1, f2 => cases f1; cases f2; exact e4
      | 2, f1, f2 => cases f1; cases f2; exact e2
      | j + 3, f1, _ => simp at f1
    | tab t g tb x y =>
      obtain ⟨o, h1, hT⟩ := hs
      walk_at "x"
      refine x_litNo (st_of h1) (Nat.ne_of_beq_eq_false rfl) ?_
      refine x_caseNo (st_of h1) (Nat.ne_of_beq_eq_false rfl) ?_
      refine x_caseNo (st_of h1) (Nat.ne_of_beq_eq_false rfl) ?_
      refine x_caseNo (st_of h1) (Nat.ne_of_beq_eq_false rfl) ?_
      walk_at "x"
      exact hE rfl H (Same.refl _)


def sp_gates_of (CT C : Addr) (K : PySem.W.Frag) : Sp := fun vs H Q E => ∃ (p L : Addr) (as : List Addr) (ss : List Stp) (m c i : Nat), vs = [.ref p] ∧ PrAt K C H p L as ss m c i ∧ PrOk ss m c i ∧
  (m ≠ 2 → ∀ H', Same H H' → E (.ref CT) none H') ∧
  (m = 2 → (∃ s, s ∈ ss ∧ isT s = true) → ∀ H', Same H H' → E (.ref CT) none H') ∧
  (m = 2 → (∀ s, s ∈ ss → isT s = false) → ∀ (l : Addr) (bs : List Addr) (gs : List Gt) H', Same H H' → H l = none → H' l = some (.lst (bs.map V.ref)) → GtsAt H' bs gs → GtsAll i ss gs → Q (.ref l) H')
theorem ok_gates_of (T : Txt K mg) : FnOk P w K mg base (L2.CX P w) 2 T.a_gates_of T.fd_gates_of ["program"] (sp_gates_of T.E_BadStep T.C_Program K) := by
  refine T.F_gates_of.okX sc_gates_of (fun vs H Q E h => ?_) (fun cdv A outer s H vs Q E hr h => ?_)
  · obtain ⟨p, L, as, ss, m, c, i, rfl, _⟩ := h
    rfl
  · obtain ⟨p, L, as, ss, m, c, i, rfl, hP, ok, hM, hT, q⟩ := h
    obtain ⟨dx, hp, hC⟩ := id hP.ob
    have n9 := ok.len
    refine ⟨_, (pss_cons (ps_if (pt_cmpR op_ne (pe_fld (pv 0) rfl) pe_int (nomark _))
      (pss_one (ps_raise rfl (takes_of rfl rfl rfl rfl) (pmk_own PySem.F.excBase_ValueError T.xE_BadStep T.gE_BadStep T.kE_BadStep (raises_own T.bE_BadStep T.tE_BadStep) (by exact rfl))))
      pss_nil)
      (pss_cons (ps_set (i := 1) sc_gates_of.nd rfl (.inl rfl) (pe_lst pa_nil))
      (pss_cons (ps_for (passes_of rfl) rfl (pi_list (pe_fld (pv 0) rfl)) (pg_name (i := 2) sc_gates_of.nd rfl (Or.inl rfl))
      (pss_one (ps_expr (pe_bm PySem.F.plainAttrs_list PySem.F.slot_list_extend PySem.F.type_list_extend mt_extend (pv 1) (pa_cons (pe_call (ok_gates_of_step T) hr (by rfl) T.g_gates_of_step T.F_gates_of_step.kp T.b_gates_of_step .nil (passes_call (takes_of rfl rfl rfl rfl) (fun _ _ _ _ h => h)) (pa_cons (pv 2) (pa_cons (pe_fld (pv 0) rfl) pa_nil))) pa_nil)))))
      (PSs.nox (pss_one (ps_ret (pv 1))))))), ?_⟩
    walk_at "start"
    walk_at "x"
    refine x_fldR hp hC.cl hC.m progF_m ?_
    walk_at "x"
    refine x_iteN (fun h2 => ?_) (fun h2 => ?_)
    · walk_at "x"
      exact hM (by omega) H (Same.refl _)
    have h2 : m = 2 := by omega
    have hT := hT h2
    have q := q h2
    walk_at "x"
    refine ⟨by show 0 ≤ sizeLine; decide, fun w hw => ?_⟩
    have s1 := same_upd (o := .lst []) hw
    have e1 : (upd H w (.lst [])) w = some (.lst (([] : List Addr).map V.ref)) := upd_same
    generalize upd H w (.lst []) = H1 at s1 e1
    walk_at "x"
    refine x_forL (p := L) (as.map V.ref) (fun k σ' H' => ∃ v2, (∃ bs gs, σ' = [some (.ref p), some (.ref w), v2] ∧ Same H H' ∧ H' w = some (.lst (bs.map V.ref)) ∧ GtsAt H' bs gs ∧ GtsAll i (ss.take k) gs ∧ ∀ s, s ∈ ss.take k → isT s = false)) (fun R r => by walk_at "x"; exact x_fldR (s1 _ _ hp) hC.cl hC.s progF_s r) (sq_of (s1 _ _ hP.lst)) ⟨_, [], [], rfl, s1, e1, ⟨rfl, fun j x b h _ => by simp at h⟩, .nil, fun s h => by simp at h⟩ (fun k σ' H' _ z => by obtain ⟨_, _, _, _, z, _⟩ := z; exact sq_of (z _ _ hP.lst)) ?_ ?_
    · rintro k x σ' H2 hx ⟨v2, bs, gs, rfl, s2, e2, hG, hA, hno⟩
      obtain ⟨b, hb, rfl⟩ := map_getR hx
      obtain ⟨s, hs1, hs2⟩ := hP.st.get hb
      have hmem := List.mem_of_getElem? hs1
      have hk : k < ss.length := (List.getElem?_eq_some_iff.mp hs1).1
      have hgl := hA.len
      rw [List.length_take] at hgl
      walk_at "x"
      refine x_tyL e2 ?_
      walk_at "x"
      refine x_fldR (s2 _ _ hp) hC.cl hC.i progF_i ?_
      walk_at "x"
      refine ⟨b, s, m, c, i, rfl, hs2.tups (Tups.same s2), ok.ok s hmem, fun ht H3 s3 => hT ⟨s, hmem, ht⟩ H3 (s2.trans s3), fun ht l ds hs H3 s3 hl e3 hD hO => ?_⟩
      have e2' := s3 _ _ e2
      have hl3 := hO.len
      walk_at "x"
      refine ⟨w, l, _, _, rfl, rfl, e2', e3, by rw [List.length_map, List.length_map, hG.1, hD.1]; exact Nat.le_of_lt (lt_line (by omega)), ?_⟩
      have hTp : Tups H3 (upd H3 w (.lst (bs.map V.ref ++ ds.map V.ref))) := (Tups.refl H3).put (no_tupL e2')
      refine ⟨_, bs ++ ds, gs ++ hs, rfl, sput (s2.trans s3) hw, by rw [upd_same, List.map_append], ((hG.tups (Tups.same s3)).app hD).tups hTp, by rw [take_snoc hs1]; exact .snoc hA hO, fun z hz => ?_⟩
      rw [take_snoc hs1] at hz
      rcases List.mem_append.mp hz with hz | hz
      · exact hno z hz
      · rw [List.mem_singleton.mp hz]; exact ht
    · rintro σ' H2 ⟨v2, bs, gs, rfl, s2, e2, hG, hA, hno⟩
      rw [List.length_map, hP.st.1, List.take_length] at hA hno
      walk_at "x"
      exact q hno w bs gs H2 s2 hw e2 hG hA


end
end Br
namespace Br
open PySem PySem.Spec PyProof.Rows L2
local macro_rules | `(tactic| walk_at "x1") => `(tactic| (with_reducible first
  | refine Br.x_seq ?_ | refine Br.x_set ?_ | refine Br.x_asg ?_ | refine Br.x_next ?_ | refine Br.x_ret ?_ | refine Br.x_retN ?_ | refine Br.x_drop ?_ | refine Br.x_if ?_ | refine Br.x_brk ?_ | refine Br.x_cont ?_
  | refine Br.x_c ?_ | refine Br.x_op ?_ | refine Br.x_un ?_ | refine Br.x_I0 ?_ | refine Br.x_U ?_ | refine Br.x_EqI ?_ | refine Br.x_NeI ?_ | refine Br.x_EqB ?_ | refine Br.x_iN ?_ | refine Br.x_int1 ?_ | refine Br.x_min2 ?_ | refine Br.x_max2 ?_ | refine Br.x_nN ?_ | refine Br.x_ifE ?_
  | refine Br.x_test (b := ()) ?_ | refine Br.x_tB ?_ | refine Br.x_bl ?_ | refine Br.x_and ?_ | refine Br.x_or ?_ | refine Br.x_not ?_ | refine Br.x_andV ?_ | refine Br.x_orV ?_ | refine Br.x_notV ?_ | refine Br.x_blP ?_
  | refine Br.x_nil ?_ | refine Br.x_cons ?_ | refine Br.x_call ?_ | refine Br.x_CB ?_ | refine Br.x_BM ?_ | refine Br.x_tup ?_ | refine Br.x_lst ?_ | refine Br.x_chain ?_ | refine Br.x_par ?_ | refine Br.x_gSub ?_ | refine Br.x_gName ?_ | refine Br.x_fld ?_ | refine Br.x_fldS ?_ | refine Br.x_match ?_ | refine Br.x_else ?_ | refine Br.x_noCase ?_))
local macro_rules | `(tactic| walk_at "xv") => `(tactic| ((with_reducible refine' Br.x_var ?hvar ?_); (case hvar => rfl)))
local macro_rules | `(tactic| walk_at "xd") => `(tactic| (dsimp only [List.set_cons_zero, List.set_cons_succ, List.cons_append, List.nil_append, List.append_nil]))
local macro_rules | `(tactic| walk_at "xi") => `(tactic| ((with_reducible refine Br.x_I ?hside ?_); (case hside => first | exact Br.mul_r (by decide) (by decide) | exact Br.mul_l (by decide) (by decide) | exact Br.mul_l (by omega) (by omega) | exact Br.mul_r (by omega) (by omega) | (show (0 : Int) < _; first | decide | omega) | exact ⟨by decide, by decide⟩ | exact ⟨by omega, by omega⟩ | exact ⟨by decide, by decide, by decide⟩)))
local macro_rules | `(tactic| walk_at "x") => `(tactic| (repeat (first | walk_at "x1" | walk_at "xv" | walk_at "xi" | walk_at "xd")))
local macro_rules | `(tactic| walk_at "start") => `(tactic| (simp only [L2.start, List.map_cons, List.map_nil, List.length_cons, List.length_nil, Nat.reduceAdd, Nat.reduceSub, List.replicate, List.cons_append, List.nil_append, List.append_nil]))
local macro_rules | `(tactic| walk_at "isi") => `(tactic| first
  | refine Br.x_isi (b := true) (.base (.int _)) (by decide +kernel) ?_ | refine Br.x_isi (b := false) (.base (.int _)) (by decide +kernel) ?_
  | refine Br.x_isi (b := true) (.base (.bl _)) (by decide +kernel) ?_ | refine Br.x_isi (b := false) (.base (.bl _)) (by decide +kernel) ?_
  | refine Br.x_isi (b := false) (.base .non) (by decide +kernel) ?_
  | refine Br.x_isi (b := true) (.base (.str _)) (by decide +kernel) ?_ | refine Br.x_isi (b := false) (.base (.str _)) (by decide +kernel) ?_
  | refine Br.x_isi (b := true) (.base (.tup (by assumption))) (by decide +kernel) ?_ | refine Br.x_isi (b := false) (.base (.tup (by assumption))) (by decide +kernel) ?_
  | refine Br.x_isi (b := true) (.base (.lst (by assumption))) (by decide +kernel) ?_ | refine Br.x_isi (b := false) (.base (.lst (by assumption))) (by decide +kernel) ?_)
local macro_rules | `(tactic| walk_at "f") => `(tactic| (refine L2.iteF ?_; walk_at "x"))
local macro_rules | `(tactic| walk_at "t") => `(tactic| (refine L2.iteT ?_; walk_at "x"))
local macro_rules | `(tactic| walk_at "is") => `(tactic| (walk_at "isi"; walk_at "x"))
local macro_rules | `(tactic| walk_at "xb") => `(tactic| (simp only [Br.bindS, List.set_cons_zero, List.set_cons_succ]; walk_at "x"))

section
variable {P : Program} {w : World} {K : PySem.W.Frag} {mg : Str → Option Value} {base : Heap}

open Br
theorem x_lenSet {K : PySem.W.Frag} {σ : L2.St} {H : Hp} {Q : VK} {ta : TE} (h : ta σ H fun x H1 => ∃ (l : Addr) (ns : List Int), x = V.ref l ∧ (SqL K H1 l (ns.map V.int) ∨ SqT K H1 l (ns.map V.int)) ∧ ns.length ≤ 4000 ∧ ∀ c : Nat, (c = ns.length ↔ ns.Nodup) → c ≤ ns.length → Q (.int (c : Nat)) H1) : tLenSet K ta σ H Q := h
theorem DAts.intsOf {d : Addr} {H : Hp} : ∀ {xs : List V} {es : List PyData}, DAts d H xs es → (∀ e, e ∈ es → ∃ i : Int, e = .int i) → xs = (es.map intD).map V.int
  | [], _, h, _ => by cases h; rfl
  | v :: xs, _, h, hf => by
    cases h with
    | cons h hs =>
      rename_i e es
      obtain ⟨i, rfl⟩ := hf e List.mem_cons_self
      cases h
      rw [DAts.intsOf hs fun e he => hf e (List.mem_cons_of_mem _ he)]
      rfl

def sp_are_borrowed (K : PySem.W.Frag) : Sp := fun vs H Q _ => ∃ (d tk : Addr) (v : V) (e : PyData) (n : Int) (ns : List Int), vs = [v, .int n, .ref tk] ∧ DAt d H v e ∧ H tk = some (.lst (ns.map V.int)) ∧ ns.length ≤ 1000 ∧ n ≤ 1000 ∧ ∀ H', Same H H' → Q (.bl (borD ns n e)) H'
theorem ok_are_borrowed (T : Txt K mg) : FnOk P w K mg base CX0 3 T.a_are_borrowed T.fd_are_borrowed ["borrowed", "needed", "taken"] (sp_are_borrowed K) := by
  refine T.F_are_borrowed.ok sc_are_borrowed (fun vs H Q E h => ?_) (fun cdv A outer s H vs Q E hr h => ?_)
  · obtain ⟨d, tk, v, e, n, ns, rfl, _⟩ := h
    rfl
  · obtain ⟨d, tk, v, e, n, ns, rfl, hv, htk, hns, hn9, q⟩ := h
    refine ⟨_, (pss_cons (ps_if (PW.pt (pw_or (pt_not (pt_val (pe_callB (id := "isinstance") (r := rIsi K) call_isi (by rfl) T.m_isinstance (by decide +kernel) (pa_cons (pv 0) (pa_cons (pe_bltn (v := .ty "list") (by rfl) T.m_list (by decide +kernel) rfl) pa_nil))))) (pw_or1 (pt_cmpR op_ne (pe_callB (id := "len") (r := rLen K) cr_len (by rfl) T.m_len PySem.boot_len (pa_cons (pv 0) pa_nil)) (pv 1) (nomark _)))))
      (pss_one (ps_ret pe_bl))
      pss_nil)
      (pss_cons (ps_if (pt_not (pt_val (pe_callB (id := "all") (r := rAll K) (cr_all rfl) (by rfl) T.m_all (by decide +kernel) (pa_cons (pe_lc (own := [("bit", 3)]) (g := gName 3) (tt := tYes) rfl sc_are_borrowed.nd (pi_list (pv 0)) (blkOk_by (N := N_are_borrowed) (sc := defScope s_are_borrowed) (by decide +kernel)) (fun _ _ _ _ _ => (pg_name (i := 3) sc_are_borrowed.nd rfl (Or.inl rfl))) (fun _ _ _ _ _ => pts_nil) (fun _ _ _ _ _ => (pe_call (ok_is_bit T) hr (by rfl) T.g_is_bit T.F_is_bit.kp T.b_is_bit .nil pass0 (pa_cons (pv 3) pa_nil)))) pa_nil))))
      (pss_one (ps_ret pe_bl))
      pss_nil)
      (pss_one (ps_ret (pe_cmpR op_eq (pe_lenSetA (by rfl) T.m_len (by rfl) T.m_set (pe_op op_cat (pv 2) (pv 0))) (pe_op op_add (pe_callB (id := "len") (r := rLen K) cr_len (by rfl) T.m_len PySem.boot_len (pa_cons (pv 2) pa_nil)) (pv 1)) (nomark _)))))), ?_⟩
    walk_at "start"
    cases hv with
    | lst hd h hs =>
      rename_i a xs es
      have hlen := hs.len
      have ep : borD ns n (.list es) = (decide ((es.length : Int) = n) && (es.all (isBD 120) && decide ((ns ++ es.map intD).Nodup))) := rfl
      walk_at "x"
      walk_at "is"
      walk_at "f"
      refine x_len (sq_of h) ?_
      walk_at "x"
      refine x_iteN (fun hc => ?_) (fun hc => ?_)
      · walk_at "x"
        have e : borD ns n (.list es) = false := by rw [ep, decide_eq_false (by omega)]; rfl
        rw [← e]
        exact q H (Same.refl _)
      · walk_at "x"
        refine x_lcB (xs := xs) (fun i => isBD 120 (es.getD i .none)) (J := Itl K a) (G := fun H => SqL K H a xs) (fun R r => ⟨_, rfl, a, rfl, ⟨xs, sq_of h⟩, r⟩) walk_list (by omega) (fun H' s => sq_of (s _ _ h)) (fun x => rfl) ?_ ?_
        · intro i x H' s hx R hR
          obtain ⟨f, hf, hxf⟩ := hs.get hx
          rw [getDD hf] at hR
          have hxf := DAt.same s f hxf
          walk_at "x"
          exact ⟨d, x, f, rfl, hxf, hR H' (Same.refl _)⟩
        · intro p H' hp s hP
          walk_at "x"
          refine x_all hP ?_
          rw [hlen, range_allD (f := isBD 120)]
          walk_at "x"
          refine x_iteBN (fun hb => ?_) (fun hb => ?_)
          · walk_at "x"
            have e : borD ns n (.list es) = false := by rw [ep, hb, Bool.false_and, Bool.and_false]
            rw [← e]
            exact q H' s
          · walk_at "x"
            have hall : ∀ e, e ∈ es → ∃ i : Int, e = .int i := fun e he => by
              obtain ⟨i, hi, _⟩ := isBD_iff.mp (List.all_eq_true.mp hb e he)
              exact ⟨i, hi⟩
            have hxi := hs.intsOf hall
            rw [hxi] at h
            refine x_lenSet ?_
            walk_at "x"
            refine x_cat (s _ _ htk) (s _ _ h) (by rw [List.length_map, List.length_map, List.length_map]; omega) fun r hr => ?_
            have s2 := s.trans (same_upd (o := .lst (ns.map V.int ++ (es.map intD).map V.int)) hr)
            have e2 : (upd H' r (.lst (ns.map V.int ++ (es.map intD).map V.int))) r = _ := upd_same
            generalize upd H' r (.lst (ns.map V.int ++ (es.map intD).map V.int)) = H2 at s2 e2
            rw [← List.map_append] at e2
            refine ⟨r, ns ++ es.map intD, rfl, .inl (sq_of e2), by rw [List.length_append, List.length_map]; omega, fun c hc1 hc2 => ?_⟩
            walk_at "x"
            refine x_len (sq_of (s2 _ _ htk)) ?_
            rw [List.length_map]
            walk_at "x"
            have e : borD ns n (.list es) = decide ((c : Int) = (ns.length : Int) + n) := by
              rw [ep, hb, decide_eq_true (by omega), Bool.true_and, Bool.true_and]
              rw [List.length_append, List.length_map] at hc1
              exact decide_eq_decide.mpr (hc1.symm.trans ⟨fun z => by omega, fun z => by omega⟩)
            rw [← e]
            exact q H2 s2
    | int i =>
      walk_at "x"
      walk_at "is"
      walk_at "t"
      exact q H (Same.refl _)
    | bl b =>
      walk_at "x"
      walk_at "is"
      walk_at "t"
      exact q H (Same.refl _)
    | non =>
      walk_at "x"
      walk_at "is"
      walk_at "t"
      exact q H (Same.refl _)
    | str z =>
      walk_at "x"
      walk_at "is"
      walk_at "t"
      exact q H (Same.refl _)
    | tup h hs =>
      walk_at "x"
      walk_at "is"
      walk_at "t"
      exact q H (Same.refl _)


def sp_gate_of_two (K : PySem.W.Frag) : Sp := fun vs H Q _ => ∃ (t a b : Nat), vs = [.int (t : Int), .int (a : Int), .int (b : Int)] ∧ ∀ r H', Same H H' → GtAt H' r (two t a b) → Q (.ref r) H'
theorem ok_gate_of_two (T : Txt K mg) : FnOk P w K mg base CX0 1 T.a_gate_of_two T.fd_gate_of_two ["target", "a", "b"] (sp_gate_of_two K) := by
  refine T.F_gate_of_two.ok sc_gate_of_two (fun vs H Q E h => ?_) (fun cdv A outer s H vs Q E hr h => ?_)
  · obtain ⟨t, a, b, rfl, _⟩ := h
    rfl
  · obtain ⟨t, a, b, rfl, q⟩ := h
    refine ⟨_, (pss_one (ps_ret (pe_tup (pa_cons (pv 0) (pa_cons (pe_ifExp (pt_cmpR op_lt (pv 1) (pv 2) (nomark _)) (pe_tup (pa_cons (pv 1) (pa_cons (pv 2) pa_nil))) (pe_tup (pa_cons (pv 2) (pa_cons (pv 1) pa_nil)))) pa_nil))))), ?_⟩
    walk_at "start"
    walk_at "x"
    refine x_ite (fun hc => ?_) (fun hc => ?_)
    · walk_at "x"
      refine ⟨by show 2 ≤ sizeLine; decide, fun r hr => ?_⟩
      have s1 := same_upd (o := .tup [.int (a : Int), .int (b : Int)]) hr
      have e1 : (upd H r (.tup [.int (a : Int), .int (b : Int)])) r = _ := upd_same
      generalize upd H r (.tup [.int (a : Int), .int (b : Int)]) = H1 at s1 e1
      walk_at "x"
      refine ⟨by show 2 ≤ sizeLine; decide, fun r2 hr2 => ?_⟩
      have s2 := same_upd (o := .tup [.int (t : Int), .ref r]) hr2
      refine q _ _ (s1.trans s2) ⟨r, upd_same, ?_⟩
      have : (two t a b).2 = [a, b] := if_pos (by omega)
      rw [this]
      exact s2 _ _ e1
    · walk_at "x"
      refine ⟨by show 2 ≤ sizeLine; decide, fun r hr => ?_⟩
      have s1 := same_upd (o := .tup [.int (b : Int), .int (a : Int)]) hr
      have e1 : (upd H r (.tup [.int (b : Int), .int (a : Int)])) r = _ := upd_same
      generalize upd H r (.tup [.int (b : Int), .int (a : Int)]) = H1 at s1 e1
      walk_at "x"
      refine ⟨by show 2 ≤ sizeLine; decide, fun r2 hr2 => ?_⟩
      have s2 := same_upd (o := .tup [.int (t : Int), .ref r]) hr2
      refine q _ _ (s1.trans s2) ⟨r, upd_same, ?_⟩
      have : (two t a b).2 = [b, a] := if_neg (by omega)
      rw [this]
      exact s2 _ _ e1


def sp_spread (CG : Addr) (K : PySem.W.Frag) : Sp := fun vs H Q E => ∃ (d : Addr) (tv cv bv : V) (te ce be : PyData), vs = [tv, cv, bv] ∧ DAt d H tv te ∧ DAt d H cv ce ∧ DAt d H bv be ∧
  ((¬ ∃ (t : Nat) (cs bs : List Nat), te = .int (t : Int) ∧ ce = .tuple (natsD cs) ∧ be = .list (natsD bs) ∧ GtOk 120 (t, cs) ∧ bs.length = cs.length - 2 ∧ (∀ b, b ∈ bs → b < 120) ∧ (t :: cs ++ bs).Nodup) → ∀ H', Same H H' → E (.ref CG) none H') ∧
  (∀ (t : Nat) (cs bs : List Nat), te = .int (t : Int) → ce = .tuple (natsD cs) → be = .list (natsD bs) → GtOk 120 (t, cs) → bs.length = cs.length - 2 → (∀ b, b ∈ bs → b < 120) → (t :: cs ++ bs).Nodup →
    ∀ l as H', H l = none → Same H H' → H' l = some (.lst (as.map V.ref)) → GtsAt H' as (spreadF t cs bs) → Q (.ref l) H')
theorem ok_spread (T : Txt K mg) : FnOk P w K mg base (L2.CX P w) 5 T.a_spread T.fd_spread ["target", "controls", "borrowed"] (sp_spread T.E_BadGate K) := by
  refine T.F_spread.okX sc_spread (fun vs H Q E h => ?_) (fun cdv A outer s H vs Q E hr h => ?_)
  · obtain ⟨d, tv, cv, bv, te, ce, be, rfl, _⟩ := h
    rfl
  · obtain ⟨d, tv, cv, bv, te, ce, be, rfl, ht, hc, hb, hE, hQ⟩ := h
    refine ⟨_, (pss_cons (ps_if (pt_not (pt_val (pe_call (ok_is_gate T) hr (by rfl) T.g_is_gate T.F_is_gate.kp T.b_is_gate .nil pass0 (pa_cons (pe_tup (pa_cons (pv 0) (pa_cons (pv 1) pa_nil))) pa_nil))))
      (pss_one (ps_raise rfl (takes_of rfl rfl rfl rfl) (pmk_own PySem.F.excBase_ValueError T.xE_BadGate T.gE_BadGate T.kE_BadGate (raises_own T.bE_BadGate T.tE_BadGate) (by exact rfl))))
      pss_nil)
      (pss_cons (ps_if (pt_not (pt_val (pe_call (ok_are_borrowed T) (hr.mono (by decide)) (by rfl) T.g_are_borrowed T.F_are_borrowed.kp T.b_are_borrowed .nil pass0 (pa_cons (pv 2) (pa_cons (pe_callB (id := "max") (r := rMax2) (cr_max2 rfl) (by rfl) T.m_max (by decide +kernel) (pa_cons pe_int (pa_cons (pe_op op_sub (pe_callB (id := "len") (r := rLen K) cr_len (by rfl) T.m_len PySem.boot_len (pa_cons (pv 1) pa_nil)) pe_int) pa_nil))) (pa_cons (pe_op op_cat (pe_lst (pa_cons (pv 0) pa_nil)) (pe_callTy (T := "list") (r := rListOf K) cr_list_of (by rfl) T.m_list (by decide +kernel) (pa_cons (pv 1) pa_nil))) pa_nil))))))
      (pss_one (ps_raise rfl (takes_of rfl rfl rfl rfl) (pmk_own PySem.F.excBase_ValueError T.xE_BadGate T.gE_BadGate T.kE_BadGate (raises_own T.bE_BadGate T.tE_BadGate) (by exact rfl))))
      pss_nil)
      (PSs.nox (pss_cons (ps_if (pt_not (pt_truth (pv 2) (by intro _; rfl)))
      (pss_one (ps_ret (pe_lst (pa_cons (pe_tup (pa_cons (pv 0) (pa_cons (pv 1) pa_nil))) pa_nil))))
      pss_nil)
      (pss_cons (ps_set (i := 3) sc_spread.nd rfl (.inr rfl) (pe_op op_cat (pe_lst (pa_cons (pv 0) pa_nil)) (pe_revL (pv 2))))
      (pss_cons (ps_setLc (i := 4) (own := [("at", 7)]) (g := gName 7) (tt := tYes) rfl sc_spread.nd rfl rfl (sw_true rfl rfl rfl (by decide +kernel)) (pi_range1 (by rfl) T.m_range (pa_cons (pe_callB (id := "len") (r := rLen K) cr_len (by rfl) T.m_len PySem.boot_len (pa_cons (pv 2) pa_nil)) pa_nil)) (blkOk_by (N := N_spread) (sc := defScope s_spread) (by decide +kernel)) (fun _ _ _ _ _ => (pg_name (i := 7) sc_spread.nd rfl (Or.inl rfl))) (fun _ _ _ _ _ => pts_nil) (fun _ _ _ _ _ => (pe_call (ok_gate_of_two T) (hr.mono (by decide)) (by rfl) T.g_gate_of_two T.F_gate_of_two.kp T.b_gate_of_two .nil pass0 (pa_cons (pe_ix (r := rIxL K) ix_list (pv 3) (pv 7) (fun _ _ => rfl)) (pa_cons (pe_ix (r := rIxL K) ix_list (pv 3) (pe_op op_add (pv 7) pe_int) (fun _ _ => rfl)) (pa_cons (pe_ix (r := rIxT K) ix_tup (pv 1) (pe_op op_sub (pe_un un_neg pe_int) (pv 7)) (fun _ _ => rfl)) pa_nil))))))
      (pss_cons (ps_set (i := 5) sc_spread.nd rfl (.inl rfl) (pe_lst (pa_cons (pe_tup (pa_cons (pe_ix (r := rIxL K) ix_list (pv 3) (pe_un un_neg pe_int) (fun _ _ => rfl)) (pa_cons (pe_slice (r := rSlT K) sl_tup (pv 1) po_none (po_some pe_int)) pa_nil))) pa_nil)))
      (pss_cons (ps_set (i := 6) sc_spread.nd rfl (.inl rfl) (pe_slice (r := rSlL K) sl_list (pv 4) (po_some pe_int) po_none))
      (pss_one (ps_ret (pe_op op_cat (pe_op op_cat (pe_op op_cat (pe_op op_cat (pe_op op_cat (pv 4) (pv 5)) (pe_revL (pv 4))) (pv 6)) (pv 5)) (pe_revL (pv 6))))))))))))), ?_⟩
    walk_at "start"
    walk_at "x"
    refine ⟨by show 2 ≤ sizeLine; decide, fun r0 hr0 => ?_⟩
    have s1 := same_upd (o := .tup [tv, cv]) hr0
    have e1 : (upd H r0 (.tup [tv, cv])) r0 = _ := upd_same
    generalize upd H r0 (.tup [tv, cv]) = H1 at s1 e1
    refine ⟨d, _, .tuple [te, ce], rfl, .tup e1 (.cons (DAt.same s1 _ ht) (.cons (DAt.same s1 _ hc) .nil)), ?_⟩
    walk_at "x"
    refine x_iteBN (fun h0 => ?_) (fun h0 => ?_)
    · exact hE (fun ⟨t, cs, bs, h1, h2, h3, h4, _⟩ => by subst h1 h2; rw [show PyData.tuple [.int (t : Int), .tuple (natsD cs)] = gtD (t, cs) from rfl, gateD_ok h4] at h0; cases h0) H1 s1
    obtain ⟨⟨t, cs⟩, hg, ok⟩ := gateD_iff.mp h0
    obtain ⟨rfl, h2⟩ := List.cons.inj (PyData.tuple.inj hg)
    obtain rfl : ce = .tuple (natsD cs) := (List.cons.inj h2).1
    have ht : DAt d H tv (.int (t : Int)) := ht
    clear h0 hg h2 e1 hr0
    cases ht
    cases hc with
    | tup hca hcs =>
      rename_i ca cxs
      obtain rfl := cInts_of hcs
      have hcl := ok.len
      have hcl : cs.length ≤ 120 := hcl
      have hcI : (cInts cs).length = cs.length := cInts_len
      walk_at "x"
      refine x_lenT (st_of (s1 _ _ hca)) ?_
      rw [hcI]
      walk_at "x"
      obtain ⟨nn, en, hnn⟩ : ∃ nn : Nat, (if (cs.length : Int) - 2 > 0 then (cs.length : Int) - 2 else 0) = (nn : Int) ∧ nn = cs.length - 2 := ⟨cs.length - 2, by split <;> omega, rfl⟩
      rw [en]
      refine ⟨by show 1 ≤ sizeLine; decide, fun p hp => ?_⟩
      have s2 := s1.trans (same_upd (o := .lst [.int (t : Int)]) hp)
      have e2 : (upd H1 p (.lst [.int (t : Int)])) p = _ := upd_same
      generalize upd H1 p (.lst [.int (t : Int)]) = H2 at s2 e2
      walk_at "x"
      refine x_listT (st_of (s2 _ _ hca)) fun p2 hp2 => ?_
      have s3 := s2.trans (same_upd (o := .lst (cInts cs)) hp2)
      have e3 := same_upd (o := .lst (cInts cs)) hp2 _ _ e2
      have e4 : (upd H2 p2 (.lst (cInts cs))) p2 = _ := upd_same
      generalize upd H2 p2 (.lst (cInts cs)) = H3 at s3 e3 e4
      refine x_cat e3 e4 (by rw [hcI]; show 1 + cs.length ≤ 1000000; omega) fun p3 hp3 => ?_
      have s4 := s3.trans (same_upd (o := .lst ([.int (t : Int)] ++ cInts cs)) hp3)
      have e5 : (upd H3 p3 (.lst ([.int (t : Int)] ++ cInts cs))) p3 = _ := upd_same
      generalize upd H3 p3 (.lst ([.int (t : Int)] ++ cInts cs)) = H4 at s4 e5
      have ei : [V.int (t : Int)] ++ cInts cs = ((t : Int) :: cs.map fun (c : Nat) => (c : Int)).map V.int := by rw [cInts_eq]; rfl
      rw [ei] at e5
      refine ⟨d, p3, bv, be, nn, _, rfl, DAt.same s4 _ hb, e5, by rw [List.length_cons, List.length_map]; omega, by omega, fun H5 s5 => ?_⟩
      have s5 := s4.trans s5
      walk_at "x"
      refine x_iteBN (fun h1 => ?_) (fun h1 => ?_)
      · exact hE (fun ⟨t', cs', bs, h1', h2, h3, h4, h5, h6, h7⟩ => by
          obtain rfl : t = t' := by have := PyData.int.inj h1'; omega
          obtain rfl : cs = cs' := (List.map_inj_right (fun _ _ z => Int.ofNat.inj (PyData.int.inj z))).mp (PyData.tuple.inj h2)
          rw [borD_iff.mpr ⟨bs, h3, by omega, h6, h7⟩] at h1; cases h1) H5 s5
      obtain ⟨bs, rfl, hbl, hb12, hnd⟩ := borD_iff.mp h1
      have q := hQ t cs bs rfl rfl rfl ok (by omega) hb12 hnd
      clear hE hQ h1 e2 e3 e4 e5 hp hp2 hp3 ei s1 s2 s3 s4
      cases hb with
      | lst hbd hba hbs =>
        rename_i ba bxs
        obtain rfl := cInts_of hbs
        have hbI : (cInts bs).length = bs.length := cInts_len
        have hba5 := s5 _ _ hba
        have hca5 := s5 _ _ hca
        walk_at "x"
        refine ⟨_, .inl ⟨cInts bs, sq_of hba5, rfl⟩, ?_⟩
        have q0 := q
        unfold spreadF at q
        by_cases hbe : bs = []
        · subst hbe
          walk_at "x"
          rw [if_pos rfl] at q
          refine iteT ?_
          walk_at "x"
          refine ⟨by show 2 ≤ sizeLine; decide, fun r hr => ?_⟩
          have s6 := s5.trans (same_upd (o := .tup [.int (t : Int), .ref ca]) hr)
          have e6 : (upd H5 r (.tup [.int (t : Int), .ref ca])) r = _ := upd_same
          generalize upd H5 r (.tup [.int (t : Int), .ref ca]) = H6 at s6 e6
          walk_at "x"
          refine ⟨by show 1 ≤ sizeLine; decide, fun l hl => ?_⟩
          have s7 := s6.trans (same_upd (o := .lst [.ref r]) hl)
          refine q l [r] _ (s6.free hl) s7 upd_same (GtsAt.one ⟨ca, ?_, s7 _ _ hca⟩)
          exact same_upd hl _ _ e6
        · rw [if_neg hbe] at q
          have h3 : 3 ≤ cs.length := by
            have : 0 < bs.length := List.length_pos_iff.mpr hbe
            omega
          have hne : (cInts bs).isEmpty = false := by
            cases bs with
            | nil => exact absurd rfl hbe
            | cons b bs => rfl
          rw [hne]
          refine iteF ?_
          walk_at "x"
          refine ⟨by show 1 ≤ sizeLine; decide, fun p hp => ?_⟩
          have s6 := s5.trans (same_upd (o := .lst [.int (t : Int)]) hp)
          have e6 : (upd H5 p (.lst [.int (t : Int)])) p = _ := upd_same
          generalize upd H5 p (.lst [.int (t : Int)]) = H6 at s6 e6
          walk_at "x"
          refine x_revL ?_
          walk_at "x"
          refine ⟨ba, _, rfl, sq_of (s6 _ _ hba), fun p2 hp2 => ?_⟩
          rw [cInts_rev]
          have s7 := s6.trans (same_upd (o := .lst (cInts bs.reverse)) hp2)
          have e7 := same_upd (o := .lst (cInts bs.reverse)) hp2 _ _ e6
          have e7b : (upd H6 p2 (.lst (cInts bs.reverse))) p2 = _ := upd_same
          generalize upd H6 p2 (.lst (cInts bs.reverse)) = H7 at s7 e7 e7b
          refine x_cat e7 e7b (by rw [cInts_len, List.length_reverse]; show 1 + bs.length ≤ 1000000; omega) fun tu htu => ?_
          have s8 := s7.trans (same_upd (o := .lst ([.int (t : Int)] ++ cInts bs.reverse)) htu)
          have e8 : (upd H7 tu (.lst ([.int (t : Int)] ++ cInts bs.reverse))) tu = _ := upd_same
          generalize upd H7 tu (.lst ([.int (t : Int)] ++ cInts bs.reverse)) = H8 at s8 e8
          rw [show [V.int (t : Int)] ++ cInts bs.reverse = cInts (turnF t bs) from rfl] at e8
          clear e6 e7 e7b hp hp2 htu s6 s7 hba5 hca5
          have hca8 := s8 _ _ hca
          have hba8 := s8 _ _ hba
          have htl : (cInts (turnF t bs)).length = bs.length + 1 := by rw [cInts_len, turn_len]
          walk_at "x"
          refine x_lcR1 (bs.length : Int) (fun o k H' => Same H8 H' ∧ ∃ as : List Addr, H' o = some (.lst (as.map V.ref)) ∧ GtsAt H' as ((downF t cs bs).take k)) (fun R r => by walk_at "x"; refine x_len (sq_of hba8) ?_; rw [hbI]; exact r) (by omega) (by omega) (fun o ho => ⟨same_upd ho, [], upd_same, rfl, fun i x b h _ => by simp at h⟩) (fun x => rfl) ?_ ?_
          · rintro o k H9 ho hk ⟨s9, as, hO, hG⟩
            have hk : k < bs.length := by omega
            walk_at "x"
            refine x_ixL (sq_of (s9 _ _ e8)) (atI_nat (cInts_at2 (by rw [turn_len]; omega))) ?_
            walk_at "x"
            refine x_ixL (i := ((k + 1 : Nat) : Int)) (sq_of (s9 _ _ e8)) (atI_nat (cInts_at2 (by rw [turn_len]; omega))) ?_
            walk_at "x"
            refine x_ixT (st_of (s9 _ _ hca8)) (atI_back (by rw [hcI]; omega) (cInts_at2 (by rw [hcI]; omega))) ?_
            rw [hcI]
            walk_at "x"
            refine ⟨_, _, _, rfl, fun r HA sA hr => ?_⟩
            have hOA := sA _ _ hO
            have hT : ∀ b xs, HA b = some (.tup xs) → (upd HA o (.lst (as.map V.ref ++ [.ref r]))) b = some (.tup xs) := fun b xs e => by rw [upd_ne (ne_of e hOA (by intro z; cases z))]; exact e
            refine ⟨_, hOA, lt_line (by rw [List.length_map, hG.1, List.length_take]; omega), sput (s9.trans sA) ho, as ++ [r], by rw [upd_same, List.map_append]; rfl, ?_⟩
            rw [take_snocG (down_get hk)]
            exact (hG.tups fun b xs e => hT b xs (sA _ _ e)).snoc (hr.tups hT)
          rintro dn H9 hdn ⟨s9a, das, hdn9, hG9⟩
          rw [show ((bs.length : Int)).toNat = (downF t cs bs).length by rw [down_len]; omega, List.take_length] at hG9
          have hdal := hG9.1
          rw [down_len] at hdal
          have s9 := s8.trans s9a
          have e9 := s9a _ _ e8
          clear s9a e8 hca8 hba8 s8 hdn
          walk_at "x"
          -- last
          refine x_ixL (sq_of e9) (atI_m1 (by omega) (cInts_at2 (by rw [cInts_len, turn_len]; omega))) ?_
          rw [htl]
          walk_at "x"
          refine x_sl2 ?_
          walk_at "x"
          refine x_part0 (x_part1 ?_)
          walk_at "x"
          refine ⟨_, rfl, ca, _, rfl, st_of (s9 _ _ hca), ?_, fun p hp => ?_⟩
          · rw [hcI, show (2 : Int) = ((2 : Nat) : Int) from rfl, HT.sIx_nat]
            omega
          rw [show (2 : Int) = ((2 : Nat) : Int) from rfl, cutV_to (by rw [hcI]; omega), cInts_take]
          have sA := s9.trans (same_upd (o := .tup (cInts (cs.take 2))) hp)
          have eA := same_upd (o := .tup (cInts (cs.take 2))) hp _ _ hdn9
          have eA2 : (upd H9 p (.tup (cInts (cs.take 2)))) p = _ := upd_same
          have hGA := hG9.tups fun b xs e => same_upd (o := .tup (cInts (cs.take 2))) hp _ _ e
          generalize upd H9 p (.tup (cInts (cs.take 2))) = HA at sA eA eA2 hGA
          clear hdn9 hG9 s9 e9 hp
          walk_at "x"
          refine ⟨by show 2 ≤ sizeLine; decide, fun r hr => ?_⟩
          have sB := sA.trans (same_upd (o := .tup [.int (((turnF t bs).getD (bs.length + 1 - 1) 0 : Nat) : Int), .ref p]) hr)
          have eB := same_upd (o := .tup [.int (((turnF t bs).getD (bs.length + 1 - 1) 0 : Nat) : Int), .ref p]) hr _ _ eA
          have eB2 : (upd HA r (.tup [.int (((turnF t bs).getD (bs.length + 1 - 1) 0 : Nat) : Int), .ref p])) r = _ := upd_same
          have eB3 := same_upd (o := .tup [.int (((turnF t bs).getD (bs.length + 1 - 1) 0 : Nat) : Int), .ref p]) hr _ _ eA2
          have hGB := hGA.tups fun b xs e => same_upd (o := .tup [.int (((turnF t bs).getD (bs.length + 1 - 1) 0 : Nat) : Int), .ref p]) hr _ _ e
          generalize upd HA r (.tup [.int (((turnF t bs).getD (bs.length + 1 - 1) 0 : Nat) : Int), .ref p]) = HB at sB eB eB2 eB3 hGB
          have hL : GtAt HB r (lastF t cs bs) := ⟨p, eB2, eB3⟩
          clear eA eA2 hGA sA eB2 eB3 hr
          walk_at "x"
          refine ⟨by show 1 ≤ sizeLine; decide, fun la hla => ?_⟩
          have sC := same_upd (o := .lst [.ref r]) hla
          have eC := sC _ _ eB
          have eC2 : (upd HB la (.lst [.ref r])) la = _ := upd_same
          have hGC := hGB.tups fun b xs e => sC _ _ e
          have hLC := hL.tups fun b xs e => sC _ _ e
          have sC := sB.trans sC
          generalize upd HB la (.lst [.ref r]) = HC at sC eC eC2 hGC hLC
          clear eB hGB hL sB hla
          walk_at "x"
          -- again
          refine x_sl2 ?_
          walk_at "x"
          refine x_part1 ?_
          walk_at "x"
          refine ⟨_, rfl, x_part0 (x_cutL (sq_of eC) fun ag hag => ?_)⟩
          rw [show (1 : Int) = ((1 : Nat) : Int) from rfl, cutV_from (by rw [List.length_map]; omega), ← List.map_drop]
          have sD := same_upd (o := .lst ((das.drop 1).map V.ref)) hag
          have eD := sD _ _ eC
          have eD2 := sD _ _ eC2
          have eD3 : (upd HC ag (.lst ((das.drop 1).map V.ref))) ag = _ := upd_same
          have hGD := hGC.tups fun b xs e => sD _ _ e
          have hLD := hLC.tups fun b xs e => sD _ _ e
          have sD := sC.trans sD
          generalize upd HC ag (.lst ((das.drop 1).map V.ref)) = HD at sD eD eD2 eD3 hGD hLD
          clear eC eC2 hGC hLC sC hag
          have hda1 : (das.drop 1).length = bs.length - 1 := by rw [List.length_drop]; omega
          walk_at "x"
          -- the sum
          refine x_cat eD eD2 (by rw [List.length_map]; show das.length + 1 ≤ 1000000; omega) fun q1 hq1 => ?_
          have f1 := same_upd (o := .lst (das.map V.ref ++ [.ref r])) hq1
          have g1 : (upd HD q1 (.lst (das.map V.ref ++ [.ref r]))) q1 = _ := upd_same
          generalize upd HD q1 (.lst (das.map V.ref ++ [.ref r])) = I1 at f1 g1
          refine x_revL ?_
          walk_at "x"
          refine ⟨dn, _, rfl, sq_of (f1 _ _ eD), fun q2 hq2 => ?_⟩
          have f2 := same_upd (o := .lst (das.map V.ref).reverse) hq2
          have g2 : (upd I1 q2 (.lst (das.map V.ref).reverse)) q2 = _ := upd_same
          have g1 := f2 _ _ g1
          have f2 := f1.trans f2
          generalize upd I1 q2 (.lst (das.map V.ref).reverse) = I2 at f2 g1 g2
          refine x_cat g1 g2 (by simp only [List.length_append, List.length_map, List.length_reverse, List.length_cons, List.length_nil]; omega) fun q3 hq3 => ?_
          have f3 := f2.trans (same_upd (o := .lst (das.map V.ref ++ [.ref r] ++ (das.map V.ref).reverse)) hq3)
          have g3 : (upd I2 q3 (.lst (das.map V.ref ++ [.ref r] ++ (das.map V.ref).reverse))) q3 = _ := upd_same
          generalize upd I2 q3 (.lst (das.map V.ref ++ [.ref r] ++ (das.map V.ref).reverse)) = I3 at f3 g3
          walk_at "x"
          refine x_cat g3 (f3 _ _ eD3) (by simp only [List.length_append, List.length_map, List.length_reverse, List.length_cons, List.length_nil]; omega) fun q4 hq4 => ?_
          have f4 := f3.trans (same_upd (o := .lst (das.map V.ref ++ [.ref r] ++ (das.map V.ref).reverse ++ (das.drop 1).map V.ref)) hq4)
          have g4 : (upd I3 q4 (.lst (das.map V.ref ++ [.ref r] ++ (das.map V.ref).reverse ++ (das.drop 1).map V.ref))) q4 = _ := upd_same
          generalize upd I3 q4 (.lst (das.map V.ref ++ [.ref r] ++ (das.map V.ref).reverse ++ (das.drop 1).map V.ref)) = I4 at f4 g4
          walk_at "x"
          refine x_cat g4 (f4 _ _ eD2) (by simp only [List.length_append, List.length_map, List.length_reverse, List.length_cons, List.length_nil]; omega) fun q5 hq5 => ?_
          have f5 := f4.trans (same_upd (o := .lst (das.map V.ref ++ [.ref r] ++ (das.map V.ref).reverse ++ (das.drop 1).map V.ref ++ [.ref r])) hq5)
          have g5 : (upd I4 q5 (.lst (das.map V.ref ++ [.ref r] ++ (das.map V.ref).reverse ++ (das.drop 1).map V.ref ++ [.ref r]))) q5 = _ := upd_same
          generalize upd I4 q5 (.lst (das.map V.ref ++ [.ref r] ++ (das.map V.ref).reverse ++ (das.drop 1).map V.ref ++ [.ref r])) = I5 at f5 g5
          refine x_revL ?_
          walk_at "x"
          refine ⟨ag, _, rfl, sq_of (f5 _ _ eD3), fun q6 hq6 => ?_⟩
          have f6 := same_upd (o := .lst ((das.drop 1).map V.ref).reverse) hq6
          have g6 : (upd I5 q6 (.lst ((das.drop 1).map V.ref).reverse)) q6 = _ := upd_same
          have g5 := f6 _ _ g5
          have f6 := f5.trans f6
          generalize upd I5 q6 (.lst ((das.drop 1).map V.ref).reverse) = I6 at f6 g5 g6
          refine x_cat g5 g6 (by simp only [List.length_append, List.length_map, List.length_reverse, List.length_cons, List.length_nil]; omega) fun q7 hq7 => ?_
          have f7 := f6.trans (same_upd (o := .lst (das.map V.ref ++ [.ref r] ++ (das.map V.ref).reverse ++ (das.drop 1).map V.ref ++ [.ref r] ++ ((das.drop 1).map V.ref).reverse)) hq7)
          have hGZ := hGD.tups fun b xs e => f7 _ _ e
          have hLZ := hLD.tups fun b xs e => f7 _ _ e
          refine q q7 (das ++ [r] ++ das.reverse ++ das.drop 1 ++ [r] ++ (das.drop 1).reverse) _ ((sD.trans f6).free hq7) (sD.trans f7) ?_ ?_
          · rw [upd_same]
            simp only [List.map_append, List.map_reverse, List.map_cons, List.map_nil]
          · exact (((((hGZ.app (.one hLZ)).app hGZ.rev).app hGZ.drop).app (.one hLZ)).app hGZ.drop.rev)


end
end Br
namespace Br
open PySem PySem.Spec PyProof.Rows L2
local macro_rules | `(tactic| walk_at "x1") => `(tactic| (with_reducible first
  | refine Br.x_seq ?_ | refine Br.x_set ?_ | refine Br.x_asg ?_ | refine Br.x_next ?_ | refine Br.x_ret ?_ | refine Br.x_retN ?_ | refine Br.x_drop ?_ | refine Br.x_if ?_ | refine Br.x_brk ?_ | refine Br.x_cont ?_
  | refine Br.x_c ?_ | refine Br.x_op ?_ | refine Br.x_un ?_ | refine Br.x_I0 ?_ | refine Br.x_U ?_ | refine Br.x_EqI ?_ | refine Br.x_NeI ?_ | refine Br.x_EqB ?_ | refine Br.x_iN ?_ | refine Br.x_int1 ?_ | refine Br.x_min2 ?_ | refine Br.x_max2 ?_ | refine Br.x_nN ?_ | refine Br.x_ifE ?_
  | refine Br.x_test (b := ()) ?_ | refine Br.x_tB ?_ | refine Br.x_bl ?_ | refine Br.x_and ?_ | refine Br.x_or ?_ | refine Br.x_not ?_ | refine Br.x_andV ?_ | refine Br.x_orV ?_ | refine Br.x_notV ?_ | refine Br.x_blP ?_
  | refine Br.x_nil ?_ | refine Br.x_cons ?_ | refine Br.x_call ?_ | refine Br.x_CB ?_ | refine Br.x_BM ?_ | refine Br.x_tup ?_ | refine Br.x_lst ?_ | refine Br.x_chain ?_ | refine Br.x_par ?_ | refine Br.x_gSub ?_ | refine Br.x_gName ?_ | refine Br.x_fld ?_ | refine Br.x_fldS ?_ | refine Br.x_match ?_ | refine Br.x_else ?_ | refine Br.x_noCase ?_))
local macro_rules | `(tactic| walk_at "xv") => `(tactic| ((with_reducible refine' Br.x_var ?hvar ?_); (case hvar => rfl)))
local macro_rules | `(tactic| walk_at "xd") => `(tactic| (dsimp only [List.set_cons_zero, List.set_cons_succ, List.cons_append, List.nil_append, List.append_nil]))
local macro_rules | `(tactic| walk_at "xi") => `(tactic| ((with_reducible refine Br.x_I ?hside ?_); (case hside => first | exact Br.mul_r (by decide) (by decide) | exact Br.mul_l (by decide) (by decide) | exact Br.mul_l (by omega) (by omega) | exact Br.mul_r (by omega) (by omega) | (show (0 : Int) < _; first | decide | omega) | exact ⟨by decide, by decide⟩ | exact ⟨by omega, by omega⟩ | exact ⟨by decide, by decide, by decide⟩)))
local macro_rules | `(tactic| walk_at "x") => `(tactic| (repeat (first | walk_at "x1" | walk_at "xv" | walk_at "xi" | walk_at "xd")))
local macro_rules | `(tactic| walk_at "start") => `(tactic| (simp only [L2.start, List.map_cons, List.map_nil, List.length_cons, List.length_nil, Nat.reduceAdd, Nat.reduceSub, List.replicate, List.cons_append, List.nil_append, List.append_nil]))
local macro_rules | `(tactic| walk_at "isi") => `(tactic| first
  | refine Br.x_isi (b := true) (.base (.int _)) (by decide +kernel) ?_ | refine Br.x_isi (b := false) (.base (.int _)) (by decide +kernel) ?_
  | refine Br.x_isi (b := true) (.base (.bl _)) (by decide +kernel) ?_ | refine Br.x_isi (b := false) (.base (.bl _)) (by decide +kernel) ?_
  | refine Br.x_isi (b := false) (.base .non) (by decide +kernel) ?_
  | refine Br.x_isi (b := true) (.base (.str _)) (by decide +kernel) ?_ | refine Br.x_isi (b := false) (.base (.str _)) (by decide +kernel) ?_
  | refine Br.x_isi (b := true) (.base (.tup (by assumption))) (by decide +kernel) ?_ | refine Br.x_isi (b := false) (.base (.tup (by assumption))) (by decide +kernel) ?_
  | refine Br.x_isi (b := true) (.base (.lst (by assumption))) (by decide +kernel) ?_ | refine Br.x_isi (b := false) (.base (.lst (by assumption))) (by decide +kernel) ?_)
local macro_rules | `(tactic| walk_at "f") => `(tactic| (refine L2.iteF ?_; walk_at "x"))
local macro_rules | `(tactic| walk_at "t") => `(tactic| (refine L2.iteT ?_; walk_at "x"))
local macro_rules | `(tactic| walk_at "is") => `(tactic| (walk_at "isi"; walk_at "x"))
local macro_rules | `(tactic| walk_at "xb") => `(tactic| (simp only [Br.bindS, List.set_cons_zero, List.set_cons_succ]; walk_at "x"))

section
variable {P : Program} {w : World} {K : PySem.W.Frag} {mg : Str → Option Value} {base : Heap}

open Br

def sp_is_input (K : PySem.W.Frag) : Sp := fun vs H Q _ => ∃ (d : Addr) (v : V) (e : PyData), vs = [v] ∧ DAt d H v e ∧ Q (.bl (isBD 60 e)) H
theorem ok_is_input (T : Txt K mg) : FnOk P w K mg base CX0 2 T.a_is_input T.fd_is_input ["k"] (sp_is_input K) := by
  refine T.F_is_input.ok sc_is_input (fun vs H Q E h => ?_) (fun cdv A outer s H vs Q E hr h => ?_)
  · obtain ⟨d, v, e, rfl, _⟩ := h
    rfl
  · obtain ⟨d, v, e, rfl, hv, q⟩ := h
    refine ⟨_, (pss_one (ps_ret (pe_call (ok_is_below T) hr (by rfl) T.g_is_below T.F_is_below.kp T.b_is_below .nil pass0 (pa_cons (pv 0) (pa_cons (pe_glob (v := .int 60) (by rfl) T.c_MOST_INPUTS_nodes ⟨_, rfl⟩) pa_nil))))), ?_⟩
    walk_at "start"
    walk_at "x"
    refine ⟨v, _, rfl, hv.odd, ?_⟩
    rw [hv.isB]
    exact q


def sp_are_nodes (K : PySem.W.Frag) : Sp := fun vs H Q _ => ∃ (d : Addr) (v : V) (e : PyData), vs = [v] ∧ DAt d H v e ∧ ∀ H', Same H H' → Q (.bl (nodesD e)) H'
theorem ok_are_nodes (T : Txt K mg) : FnOk P w K mg base CX0 1 T.a_are_nodes T.fd_are_nodes ["source"] (sp_are_nodes K) := by
  refine T.F_are_nodes.ok sc_are_nodes (fun vs H Q E h => ?_) (fun cdv A outer s H vs Q E hr h => ?_)
  · obtain ⟨d, v, e, rfl, _⟩ := h
    rfl
  · obtain ⟨d, v, e, rfl, hv, q⟩ := h
    refine ⟨_, (pss_cons (ps_if (PW.pt (pw_or (pt_not (pt_val (pe_callB (id := "isinstance") (r := rIsi K) call_isi (by rfl) T.m_isinstance (by decide +kernel) (pa_cons (pv 0) (pa_cons (pe_bltn (v := .ty "tuple") (by rfl) T.m_tuple (by decide +kernel) rfl) pa_nil))))) (pw_or1 (pt_not (pt_chain op_le op_le pe_int (pe_callB (id := "len") (r := rLen K) cr_len (by rfl) T.m_len PySem.boot_len (pa_cons (pv 0) pa_nil)) (pe_glob (v := .int 200) (by rfl) T.c_MOST_NODES ⟨_, rfl⟩))))))
      (pss_one (ps_ret pe_bl))
      pss_nil)
      (pss_one (ps_ret (pe_callB (id := "all") (r := rAll K) (cr_all rfl) (by rfl) T.m_all (by decide +kernel) (pa_cons (pe_lc (own := [("node", 1)]) (g := gName 1) (tt := tYes) rfl sc_are_nodes.nd (pi_tup (pv 0)) (blkOk_by (N := N_are_nodes) (sc := defScope s_are_nodes) (by decide +kernel)) (fun _ _ _ _ _ => (pg_name (i := 1) sc_are_nodes.nd rfl (Or.inl rfl))) (fun _ _ _ _ _ => pts_nil) (fun _ _ _ _ _ => (pe_callB (id := "isinstance") (r := rIsi K) call_isi (by rfl) T.m_isinstance (by decide +kernel) (pa_cons (pv 1) (pa_cons (pe_bltn (v := .ty "tuple") (by rfl) T.m_tuple (by decide +kernel) rfl) pa_nil))))) pa_nil))))), ?_⟩
    walk_at "start"
    cases hv with
    | tup h hs =>
      rename_i a xs es
      have hlen := hs.len
      have ep : nodesD (.tuple es) = ((decide (1 ≤ es.length) && decide (es.length ≤ 200)) && es.all isTupD) := rfl
      walk_at "x"
      walk_at "is"
      walk_at "f"
      refine x_lenT (st_of h) ?_
      walk_at "x"
      refine x_ite (fun h1 => ?_) (fun h1 => ?_)
      · walk_at "x"
        refine x_iteN (fun h2 => ?_) (fun h2 => ?_)
        · walk_at "x"
          have e : nodesD (.tuple es) = false := by rw [ep, decide_eq_false (show ¬ es.length ≤ 200 by omega), Bool.and_false, Bool.false_and]
          rw [← e]
          exact q H (Same.refl _)
        · walk_at "x"
          refine x_lcB (xs := xs) (fun i => isTupD (es.getD i .none)) (J := Itt K a) (G := fun H => SqT K H a xs) (fun R r => ⟨_, rfl, a, rfl, ⟨xs, st_of h⟩, r⟩) walk_tup (by omega) (fun H' s => st_of (s _ _ h)) (fun x => rfl) ?_ ?_
          · intro i x H' s hx R hR
            obtain ⟨f, hf, hxf⟩ := hs.get hx
            rw [getDD hf] at hR
            have hxf := DAt.same s f hxf
            walk_at "x"
            cases hxf with
            | int i => walk_at "is"; exact hR H' (Same.refl _)
            | bl b => walk_at "is"; exact hR H' (Same.refl _)
            | non => walk_at "is"; exact hR H' (Same.refl _)
            | str z => walk_at "is"; exact hR H' (Same.refl _)
            | tup h hs => walk_at "is"; exact hR H' (Same.refl _)
            | lst hd h hs => walk_at "is"; exact hR H' (Same.refl _)
          · intro p H' hp s hP
            walk_at "x"
            refine x_all hP ?_
            rw [hlen, range_allD (f := isTupD)]
            have e : nodesD (.tuple es) = es.all isTupD := by rw [ep, decide_eq_true (show 1 ≤ es.length by omega), decide_eq_true (show es.length ≤ 200 by omega)]; rfl
            rw [← e]
            exact q H' s
      · walk_at "x"
        walk_at "t"
        have e : nodesD (.tuple es) = false := by rw [ep, decide_eq_false (show ¬ 1 ≤ es.length by omega), Bool.false_and, Bool.false_and]
        rw [← e]
        exact q H (Same.refl _)
    | int i =>
      walk_at "x"
      walk_at "is"
      walk_at "t"
      exact q H (Same.refl _)
    | bl b =>
      walk_at "x"
      walk_at "is"
      walk_at "t"
      exact q H (Same.refl _)
    | non =>
      walk_at "x"
      walk_at "is"
      walk_at "t"
      exact q H (Same.refl _)
    | str z =>
      walk_at "x"
      walk_at "is"
      walk_at "t"
      exact q H (Same.refl _)
    | lst hd h hs =>
      walk_at "x"
      walk_at "is"
      walk_at "t"
      exact q H (Same.refl _)


def sp_are_before (K : PySem.W.Frag) : Sp := fun vs H Q _ => ∃ (d r : Addr) (n : Int) (xs : List V) (es : List PyData), vs = [.int n, .ref r] ∧ H r = some (.tup xs) ∧ DAts d H xs es ∧ es.length ≤ 1000 ∧ ∀ H', Same H H' → Q (.bl (es.all (isBD n))) H'
theorem ok_are_before (T : Txt K mg) : FnR P w K mg base CX0 2 T.a_are_before (spStar 1 (sp_are_before K)) := by
  refine star_ok T.F_are_before T.b_are_before sc_are_before (fun cdv A outer s H vs Q E hr h => ?_)
  obtain ⟨d, r, n, xs, es, rfl, hr2, hs, hl, q⟩ := h
  have hlen := hs.len
  refine ⟨_, (pss_one (ps_ret (pe_callB (id := "all") (r := rAll K) (cr_all rfl) (by rfl) T.m_all (by decide +kernel) (pa_cons (pe_lc (own := [("reference", 2)]) (g := gName 2) (tt := tYes) rfl sc_are_before.nd (pi_tup (pv 1)) (blkOk_by (N := N_are_before) (sc := defScope s_are_before) (by decide +kernel)) (fun _ _ _ _ _ => (pg_name (i := 2) sc_are_before.nd rfl (Or.inl rfl))) (fun _ _ _ _ _ => pts_nil) (fun _ _ _ _ _ => (pe_call (ok_is_below T) hr (by rfl) T.g_is_below T.F_is_below.kp T.b_is_below .nil pass0 (pa_cons (pv 2) (pa_cons (pv 0) pa_nil))))) pa_nil)))), ?_⟩
  walk_at "start"
  walk_at "x"
  refine x_lcB (xs := xs) (fun i => isBD n (es.getD i .none)) (J := Itt K r) (G := fun H => SqT K H r xs) (fun R r2 => ⟨_, rfl, r, rfl, ⟨xs, st_of hr2⟩, r2⟩) walk_tup (by omega) (fun H' s => st_of (s _ _ hr2)) (fun x => rfl) ?_ ?_
  · intro i x H' s hx R hR
    obtain ⟨f, hf, hxf⟩ := hs.get hx
    rw [getDD hf] at hR
    have hxf := DAt.same s f hxf
    walk_at "x"
    refine ⟨x, _, rfl, hxf.odd, ?_⟩
    rw [hxf.isB]
    exact hR H' (Same.refl _)
  · intro p H' hp s hP
    walk_at "x"
    refine x_all hP ?_
    rw [hlen, range_allD (f := isBD n)]
    exact q H' s

/-- what a call of are_before asks -/
theorem before_call {K : PySem.W.Frag} {d : Addr} {H : Hp} {n : Int} {vs : List V} {es : List PyData} {Q : VK} {E : XK} (hs : DAts d H vs es) (hl : es.length ≤ 1000) (q : ∀ H', Same H H' → Q (.bl (es.all (isBD n))) H') : spStar 1 (sp_are_before K) (.int n :: vs) H Q E :=
  ⟨[.int n], vs, rfl, rfl, by rw [hs.len]; exact Nat.le_trans hl (by decide), fun p hp => ⟨d, p, n, vs, es, rfl, upd_same, DAts.same (same_upd hp) es hs, hl, fun H' s => q H' ((same_upd hp).trans s)⟩⟩

end
end Br
namespace Br
open PySem PySem.Spec PyProof.Rows L2
local macro_rules | `(tactic| walk_at "x1") => `(tactic| (with_reducible first
  | refine Br.x_seq ?_ | refine Br.x_set ?_ | refine Br.x_asg ?_ | refine Br.x_next ?_ | refine Br.x_ret ?_ | refine Br.x_retN ?_ | refine Br.x_drop ?_ | refine Br.x_if ?_ | refine Br.x_brk ?_ | refine Br.x_cont ?_
  | refine Br.x_c ?_ | refine Br.x_op ?_ | refine Br.x_un ?_ | refine Br.x_I0 ?_ | refine Br.x_U ?_ | refine Br.x_EqI ?_ | refine Br.x_NeI ?_ | refine Br.x_EqB ?_ | refine Br.x_iN ?_ | refine Br.x_int1 ?_ | refine Br.x_min2 ?_ | refine Br.x_max2 ?_ | refine Br.x_nN ?_ | refine Br.x_ifE ?_
  | refine Br.x_test (b := ()) ?_ | refine Br.x_tB ?_ | refine Br.x_bl ?_ | refine Br.x_and ?_ | refine Br.x_or ?_ | refine Br.x_not ?_ | refine Br.x_andV ?_ | refine Br.x_orV ?_ | refine Br.x_notV ?_ | refine Br.x_blP ?_
  | refine Br.x_nil ?_ | refine Br.x_cons ?_ | refine Br.x_call ?_ | refine Br.x_CB ?_ | refine Br.x_BM ?_ | refine Br.x_tup ?_ | refine Br.x_lst ?_ | refine Br.x_chain ?_ | refine Br.x_par ?_ | refine Br.x_gSub ?_ | refine Br.x_gName ?_ | refine Br.x_fld ?_ | refine Br.x_fldS ?_ | refine Br.x_match ?_ | refine Br.x_else ?_ | refine Br.x_noCase ?_))
local macro_rules | `(tactic| walk_at "xv") => `(tactic| ((with_reducible refine' Br.x_var ?hvar ?_); (case hvar => rfl)))
local macro_rules | `(tactic| walk_at "xd") => `(tactic| (dsimp only [List.set_cons_zero, List.set_cons_succ, List.cons_append, List.nil_append, List.append_nil]))
local macro_rules | `(tactic| walk_at "xi") => `(tactic| ((with_reducible refine Br.x_I ?hside ?_); (case hside => first | exact Br.mul_r (by decide) (by decide) | exact Br.mul_l (by decide) (by decide) | exact Br.mul_l (by omega) (by omega) | exact Br.mul_r (by omega) (by omega) | (show (0 : Int) < _; first | decide | omega) | exact ⟨by decide, by decide⟩ | exact ⟨by omega, by omega⟩ | exact ⟨by decide, by decide, by decide⟩)))
local macro_rules | `(tactic| walk_at "x") => `(tactic| (repeat (first | walk_at "x1" | walk_at "xv" | walk_at "xi" | walk_at "xd")))
local macro_rules | `(tactic| walk_at "start") => `(tactic| (simp only [L2.start, List.map_cons, List.map_nil, List.length_cons, List.length_nil, Nat.reduceAdd, Nat.reduceSub, List.replicate, List.cons_append, List.nil_append, List.append_nil]))
local macro_rules | `(tactic| walk_at "isi") => `(tactic| first
  | refine Br.x_isi (b := true) (.base (.int _)) (by decide +kernel) ?_ | refine Br.x_isi (b := false) (.base (.int _)) (by decide +kernel) ?_
  | refine Br.x_isi (b := true) (.base (.bl _)) (by decide +kernel) ?_ | refine Br.x_isi (b := false) (.base (.bl _)) (by decide +kernel) ?_
  | refine Br.x_isi (b := false) (.base .non) (by decide +kernel) ?_
  | refine Br.x_isi (b := true) (.base (.str _)) (by decide +kernel) ?_ | refine Br.x_isi (b := false) (.base (.str _)) (by decide +kernel) ?_
  | refine Br.x_isi (b := true) (.base (.tup (by assumption))) (by decide +kernel) ?_ | refine Br.x_isi (b := false) (.base (.tup (by assumption))) (by decide +kernel) ?_
  | refine Br.x_isi (b := true) (.base (.lst (by assumption))) (by decide +kernel) ?_ | refine Br.x_isi (b := false) (.base (.lst (by assumption))) (by decide +kernel) ?_)
local macro_rules | `(tactic| walk_at "f") => `(tactic| (refine L2.iteF ?_; walk_at "x"))
local macro_rules | `(tactic| walk_at "t") => `(tactic| (refine L2.iteT ?_; walk_at "x"))
local macro_rules | `(tactic| walk_at "is") => `(tactic| (walk_at "isi"; walk_at "x"))
local macro_rules | `(tactic| walk_at "xb") => `(tactic| (simp only [Br.bindS, List.set_cons_zero, List.set_cons_succ]; walk_at "x"))

section
variable {P : Program} {w : World} {K : PySem.W.Frag} {mg : Str → Option Value} {base : Heap}

open Br

def sp_is_node (K : PySem.W.Frag) : Sp := fun vs H Q _ => ∃ (d a : Addr) (n : Int) (es : List PyData), vs = [.ref a, .int n] ∧ DAt d H (.ref a) (.tuple es) ∧ Sh (.tuple es) ∧ ∀ H', Same H H' → Q (.bl (snodeD n (.tuple es))) H'
theorem sno_first {m : Int} {e0 : PyData} {es : List PyData} (h : ∀ w, e0 ≠ .str w) : snodeD m (.tuple (e0 :: es)) = false := by
  match e0, es, h with
  | .str w, _, h => exact absurd rfl (h w)
  | .none, [], _ => rfl
  | .none, [_], _ => rfl
  | .none, [_, _], _ => rfl
  | .none, _ :: _ :: _ :: _, _ => rfl
  | .bool _, [], _ => rfl
  | .bool _, [_], _ => rfl
  | .bool _, [_, _], _ => rfl
  | .bool _, _ :: _ :: _ :: _, _ => rfl
  | .int _, [], _ => rfl
  | .int _, [_], _ => rfl
  | .int _, [_, _], _ => rfl
  | .int _, _ :: _ :: _ :: _, _ => rfl
  | .list _, [], _ => rfl
  | .list _, [_], _ => rfl
  | .list _, [_, _], _ => rfl
  | .list _, _ :: _ :: _ :: _, _ => rfl
  | .tuple _, [], _ => rfl
  | .tuple _, [_], _ => rfl
  | .tuple _, [_, _], _ => rfl
  | .tuple _, _ :: _ :: _ :: _, _ => rfl
  | .dict _, [], _ => rfl
  | .dict _, [_], _ => rfl
  | .dict _, [_, _], _ => rfl
  | .dict _, _ :: _ :: _ :: _, _ => rfl
theorem ok_is_node (T : Txt K mg) : FnOk P w K mg base CX0 3 T.a_is_node T.fd_is_node ["node", "at"] (sp_is_node K) := by
  refine T.F_is_node.ok sc_is_node (fun vs H Q E h => ?_) (fun cdv A outer s H vs Q E hr h => ?_)
  · obtain ⟨d, a, n, es, rfl, _⟩ := h
    rfl
  · obtain ⟨d, a, n, es, rfl, hv, hsh, q⟩ := h
    cases hv with
    | tup ha hs =>
      rename_i xs
      have hsh := hsh.of_tup
      refine ⟨_, (pss_one (ps_match (pv 0) (pcs_seq rfl (op_eqD hr.units) (pcap_name 2 sc_is_node.nd rfl (.inl rfl) pcap_nil)
      (pss_one (ps_ret (pe_call (ok_is_below T) (hr.mono (by decide)) (by rfl) T.g_is_below T.F_is_below.kp T.b_is_below .nil pass0 (pa_cons (pv 2) (pa_cons (pe_glob (v := .int 1000000000) (by rfl) T.c_CONSTANTS_END ⟨_, rfl⟩) pa_nil)))))
      (pcs_seq rfl (op_eqD hr.units) (pcap_name 3 sc_is_node.nd rfl (.inl rfl) pcap_nil)
      (pss_one (ps_ret (pe_call (ok_is_input T) hr (by rfl) T.g_is_input T.F_is_input.kp T.b_is_input .nil pass0 (pa_cons (pv 3) pa_nil))))
      (pcs_seq rfl (op_eqD hr.units) (pcap_name 4 sc_is_node.nd rfl (.inl rfl) (pcap_name 5 sc_is_node.nd rfl (.inl rfl) pcap_nil))
      (pss_one (ps_ret (pe_callR (ok_are_before T) hr T.F_are_before.kp (by rfl) T.g_are_before pass0 (pa_cons (pv 1) (pa_cons (pv 4) (pa_cons (pv 5) pa_nil))))))
      (pcs_seq rfl (op_eqD hr.units) (pcap_name 4 sc_is_node.nd rfl (.inl rfl) (pcap_name 5 sc_is_node.nd rfl (.inl rfl) pcap_nil))
      (pss_one (ps_ret (pe_callR (ok_are_before T) hr T.F_are_before.kp (by rfl) T.g_are_before pass0 (pa_cons (pv 1) (pa_cons (pv 4) (pa_cons (pv 5) pa_nil))))))
      (pcs_seq rfl (op_eqD hr.units) (pcap_name 2 sc_is_node.nd rfl (.inl rfl) (pcap_name 4 sc_is_node.nd rfl (.inl rfl) pcap_nil))
      (pss_one (ps_ret (pe_and (pe_call (ok_is_below T) (hr.mono (by decide)) (by rfl) T.g_is_below T.F_is_below.kp T.b_is_below .nil pass0 (pa_cons (pv 2) (pa_cons (pe_glob (v := .int 1000000000) (by rfl) T.c_CONSTANTS_END ⟨_, rfl⟩) pa_nil))) (pe_one (pe_callR (ok_are_before T) hr T.F_are_before.kp (by rfl) T.g_are_before pass0 (pa_cons (pv 1) (pa_cons (pv 4) pa_nil)))))))
      (pcs_seq rfl (op_eqD hr.units) (pcap_name 4 sc_is_node.nd rfl (.inl rfl) (pcap_name 5 sc_is_node.nd rfl (.inl rfl) (pcap_name 6 sc_is_node.nd rfl (.inl rfl) pcap_nil)))
      (pss_one (ps_ret (pe_callR (ok_are_before T) hr T.F_are_before.kp (by rfl) T.g_are_before pass0 (pa_cons (pv 1) (pa_cons (pv 4) (pa_cons (pv 5) (pa_cons (pv 6) pa_nil)))))))
      (pcs_else (rest := _) (pss_one (ps_ret pe_bl))))))))))), ?_⟩
      walk_at "start"
      walk_at "x"
      refine x_caseD (st_of ha) hs hsh (by decide +kernel) (by decide) (fun y ys er h1 h2 h3 h4 => ?_) (fun c1 => ?_)
      · subst h2
        obtain ⟨k, rfl⟩ : ∃ k, er = [k] := by
          match er, h3 with
          | [k], _ => exact ⟨k, rfl⟩
        cases h4 with
        | cons h4 h5 =>
          cases h5
          walk_at "xb"
          rw [sn1, if_pos rfl] at q
          refine ⟨_, 1000000000, rfl, h4.odd, ?_⟩
          rw [h4.isB]
          exact q H (Same.refl _)
      refine x_caseD (st_of ha) hs hsh (by decide +kernel) (by decide) (fun y ys er h1 h2 h3 h4 => ?_) (fun c2 => ?_)
      · subst h2
        obtain ⟨k, rfl⟩ : ∃ k, er = [k] := by
          match er, h3 with
          | [k], _ => exact ⟨k, rfl⟩
        cases h4 with
        | cons h4 h5 =>
          cases h5
          walk_at "xb"
          rw [sn1, if_neg (by decide), if_pos rfl] at q
          exact ⟨d, _, _, rfl, h4, q H (Same.refl _)⟩
      refine x_caseD (st_of ha) hs hsh (by decide +kernel) (by decide) (fun y ys er h1 h2 h3 h4 => ?_) (fun c3 => ?_)
      · subst h2
        obtain ⟨i, j, rfl⟩ : ∃ i j, er = [i, j] := by
          match er, h3 with
          | [i, j], _ => exact ⟨i, j, rfl⟩
        cases h4 with
        | cons h4 h5 =>
          cases h5 with
          | cons h5 h6 =>
            cases h6
            walk_at "xb"
            rw [sn2, if_pos rfl] at q
            refine x_callR ?_
            walk_at "x"
            refine before_call (.cons h4 (.cons h5 .nil)) (Nat.le_of_ble_eq_true rfl) fun H' s => ?_
            have e : [i, j].all (isBD n) = (isBD n i && isBD n j) := by show (isBD n i && (isBD n j && true)) = _; rw [Bool.and_true]
            rw [e]
            exact q H' s
      refine x_caseD (st_of ha) hs hsh (by decide +kernel) (by decide) (fun y ys er h1 h2 h3 h4 => ?_) (fun c4 => ?_)
      · subst h2
        obtain ⟨i, j, rfl⟩ : ∃ i j, er = [i, j] := by
          match er, h3 with
          | [i, j], _ => exact ⟨i, j, rfl⟩
        cases h4 with
        | cons h4 h5 =>
          cases h5 with
          | cons h5 h6 =>
            cases h6
            walk_at "xb"
            rw [sn2, if_neg (by decide), if_pos rfl] at q
            refine x_callR ?_
            walk_at "x"
            refine before_call (.cons h4 (.cons h5 .nil)) (Nat.le_of_ble_eq_true rfl) fun H' s => ?_
            have e : [i, j].all (isBD n) = (isBD n i && isBD n j) := by show (isBD n i && (isBD n j && true)) = _; rw [Bool.and_true]
            rw [e]
            exact q H' s
      refine x_caseD (st_of ha) hs hsh (by decide +kernel) (by decide) (fun y ys er h1 h2 h3 h4 => ?_) (fun c5 => ?_)
      · subst h2
        obtain ⟨i, j, rfl⟩ : ∃ i j, er = [i, j] := by
          match er, h3 with
          | [i, j], _ => exact ⟨i, j, rfl⟩
        cases h4 with
        | cons h4 h5 =>
          cases h5 with
          | cons h5 h6 =>
            cases h6
            walk_at "xb"
            rw [sn2, if_neg (by decide), if_neg (by decide), if_pos rfl] at q
            refine ⟨_, 1000000000, rfl, h4.odd, ?_⟩
            rw [h4.isB]
            refine x_blP ?_
            refine x_iteB (fun hb => ?_) (fun hb => ?_)
            · refine x_callR ?_
              walk_at "x"
              refine before_call (.cons h5 .nil) (Nat.le_of_ble_eq_true rfl) fun H' s => ?_
              have e : [j].all (isBD n) = isBD n j := by show (isBD n j && true) = _; rw [Bool.and_true]
              rw [e]
              rw [hb, Bool.true_and] at q
              exact q H' s
            · rw [hb, Bool.false_and] at q
              exact q H (Same.refl _)
      refine x_caseD (st_of ha) hs hsh (by decide +kernel) (by decide) (fun y ys er h1 h2 h3 h4 => ?_) (fun c6 => ?_)
      · subst h2
        obtain ⟨i, j, l, rfl⟩ : ∃ i j l, er = [i, j, l] := by
          match er, h3 with
          | [i, j, l], _ => exact ⟨i, j, l, rfl⟩
        cases h4 with
        | cons h4 h5 =>
          cases h5 with
          | cons h5 h6 =>
            cases h6 with
            | cons h6 h7 =>
              cases h7
              walk_at "xb"
              rw [sn3, if_pos rfl] at q
              refine x_callR ?_
              walk_at "x"
              refine before_call (.cons h4 (.cons h5 (.cons h6 .nil))) (Nat.le_of_ble_eq_true rfl) fun H' s => ?_
              have e : [i, j, l].all (isBD n) = (isBD n i && (isBD n j && isBD n l)) := by show (isBD n i && (isBD n j && (isBD n l && true))) = _; rw [Bool.and_true]
              rw [e]
              exact q H' s
      walk_at "x"
      have e : snodeD n (.tuple es) = false := by
        match es, c1, c2, c3, c4, c5, c6 with
        | [], _, _, _, _, _, _ => rfl
        | [.str w, k], c1, c2, _, _, _, _ =>
          have c1 : (true && decide (w = "const")) = false := c1
          have c2 : (true && decide (w = "input")) = false := c2
          rw [Bool.true_and, decide_eq_false_iff_not] at c1 c2
          rw [sn1, if_neg c1, if_neg c2]
        | [.str w, i, j], _, _, c3, c4, c5, _ =>
          have c3 : (true && decide (w = "sum")) = false := c3
          have c4 : (true && decide (w = "product")) = false := c4
          have c5 : (true && decide (w = "scaled")) = false := c5
          rw [Bool.true_and, decide_eq_false_iff_not] at c3 c4 c5
          rw [sn2, if_neg c3, if_neg c4, if_neg c5]
        | [.str w, i, j, l], _, _, _, _, _, c6 =>
          have c6 : (true && decide (w = "choose")) = false := c6
          rw [Bool.true_and, decide_eq_false_iff_not] at c6
          rw [sn3, if_neg c6]
        | [.str w], _, _, _, _, _, _ => rfl
        | .str w :: _ :: _ :: _ :: _ :: _, _, _, _, _, _, _ => rfl
        | .none :: es, _, _, _, _, _, _ => exact sno_first (fun w h => by cases h)
        | .bool _ :: es, _, _, _, _, _, _ => exact sno_first (fun w h => by cases h)
        | .int _ :: es, _, _, _, _, _, _ => exact sno_first (fun w h => by cases h)
        | .list _ :: es, _, _, _, _, _, _ => exact sno_first (fun w h => by cases h)
        | .tuple _ :: es, _, _, _, _, _, _ => exact sno_first (fun w h => by cases h)
        | .dict _ :: es, _, _, _, _, _, _ => exact sno_first (fun w h => by cases h)
      rw [← e]
      exact q H (Same.refl _)


def sp_is_source (K : PySem.W.Frag) : Sp := fun vs H Q _ => ∃ (d : Addr) (v : V) (e : PyData), vs = [v] ∧ DAt d H v e ∧ Sh e ∧ ∀ H', Same H H' → Q (.bl (sourceD e)) H'
theorem sourceD_no {e : PyData} (h : nodesD e = false) : sourceD e = false := by
  cases e with
  | tuple es =>
    show (nodesD (.tuple es) && _) = false
    rw [h, Bool.false_and]
  | _ => rfl
theorem range_all2 {es : List PyData} {f : Nat → PyData → Bool} : ((List.range es.length).map fun i => f i (es.getD i .none)).all id = (List.range es.length).all fun i => f i (es.getD i .none) := by rw [List.all_map]; rfl
theorem ok_is_source (T : Txt K mg) : FnOk P w K mg base CX0 4 T.a_is_source T.fd_is_source ["source"] (sp_is_source K) := by
  refine T.F_is_source.ok sc_is_source (fun vs H Q E h => ?_) (fun cdv A outer s H vs Q E hr h => ?_)
  · obtain ⟨d, v, e, rfl, _⟩ := h
    rfl
  · obtain ⟨d, v, e, rfl, hv, hsh, q⟩ := h
    refine ⟨_, (pss_cons (ps_if (pt_not (pt_val (pe_call (ok_are_nodes T) (hr.mono (by decide)) (by rfl) T.g_are_nodes T.F_are_nodes.kp T.b_are_nodes .nil pass0 (pa_cons (pv 0) pa_nil))))
      (pss_one (ps_ret pe_bl))
      pss_nil)
      (pss_one (ps_ret (pe_callB (id := "all") (r := rAll K) (cr_all rfl) (by rfl) T.m_all (by decide +kernel) (pa_cons (pe_lc (own := [("at", 1), ("node", 2)]) (g := gTup K 2 (gCons (gName 1) (gCons (gName 2) gNil))) (tt := tYes) rfl sc_is_source.nd (pi_enumT (K2 := K) rfl (by rfl) T.m_enumerate (pa_cons (pv 0) pa_nil)) (blkOk_by (N := N_is_source) (sc := defScope s_is_source) (by decide +kernel)) (fun _ _ _ _ _ => (pg_tup rfl (pgs_cons (pg_name (i := 1) sc_is_source.nd rfl (Or.inl rfl)) (pgs_cons (pg_name (i := 2) sc_is_source.nd rfl (Or.inl rfl)) pgs_nil)))) (fun _ _ _ _ _ => pts_nil) (fun _ _ _ _ _ => (pe_call (ok_is_node T) hr (by rfl) T.g_is_node T.F_is_node.kp T.b_is_node .nil pass0 (pa_cons (pv 2) (pa_cons (pv 1) pa_nil))))) pa_nil))))), ?_⟩
    walk_at "start"
    walk_at "x"
    refine ⟨d, v, e, rfl, hv, fun H1 s1 => ?_⟩
    walk_at "x"
    refine x_iteBN (fun h0 => ?_) (fun h0 => ?_)
    · walk_at "x"
      rw [sourceD_no h0] at q
      exact q H1 s1
    cases e with
    | tuple es =>
      cases hv with
      | tup ha hs =>
        rename_i a xs
        have hlen := hs.len
        have hsh2 := hsh.of_tup
        have hb : ((decide (1 ≤ es.length) && decide (es.length ≤ 200)) && es.all isTupD) = true := h0
        rw [Bool.and_eq_true, Bool.and_eq_true, decide_eq_true_iff, decide_eq_true_iff] at hb
        walk_at "x"
        refine x_lcEnT (xs := xs) (fun i => .bl (snodeD (i : Int) (es.getD i .none))) (fun R r => by walk_at "x"; exact r) (st_of (s1 _ _ ha)) (by omega) (fun x y => rfl) (fun H' s => st_of (s _ _ (s1 _ _ ha))) ?_ ?_
        · intro i x H' s hx R hR
          obtain ⟨f, hf, hxf⟩ := hs.get hx
          rw [getDD hf] at hR
          have hft := List.all_eq_true.mp hb.2 f (List.mem_of_getElem? hf)
          cases f with
          | tuple fs =>
            have hxf := DAt.same (s1.trans s) _ hxf
            obtain ⟨b, rfl⟩ : ∃ b, x = .ref b := by cases hxf; exact ⟨_, rfl⟩
            walk_at "x"
            exact ⟨d, b, (i : Int), fs, rfl, hxf, hsh2 _ (List.mem_of_getElem? hf), hR⟩
          | _ => cases hft
        · intro p H' hp s hP
          walk_at "x"
          have hP2 : H' p = some (.lst (((List.range xs.length).map fun (i : Nat) => snodeD (i : Int) (es.getD i .none)).map V.bl)) := by rw [hP, List.map_map]; rfl
          refine x_all hP2 ?_
          rw [hlen, range_all2 (f := fun (i : Nat) e => snodeD (i : Int) e)]
          have e : sourceD (.tuple es) = ((List.range es.length).all fun i => snodeD (i : Int) (es.getD i .none)) := by
            show (nodesD (.tuple es) && _) = _
            rw [h0, Bool.true_and]
          rw [← e]
          exact q H' (s1.trans s)
    | _ => cases h0


def sp_check_source (CS : Addr) (K : PySem.W.Frag) : Sp := fun vs H Q E => ∃ (d : Addr) (v : V) (e : PyData), vs = [v] ∧ DAt d H v e ∧ Sh e ∧ (sourceD e = false → ∀ H', Same H H' → E (.ref CS) none H') ∧ (sourceD e = true → ∀ H', Same H H' → Q .non H')
theorem ok_check_source (T : Txt K mg) : FnOk P w K mg base (L2.CX P w) 5 T.a_check_source T.fd_check_source ["source"] (sp_check_source T.E_BadSource K) := by
  refine T.F_check_source.okX sc_check_source (fun vs H Q E h => ?_) (fun cdv A outer s H vs Q E hr h => ?_)
  · obtain ⟨d, v, e, rfl, _⟩ := h
    rfl
  · obtain ⟨d, v, e, rfl, hv, hsh, hE, hQ⟩ := h
    refine ⟨_, (pss_one (ps_if (pt_not (pt_val (pe_call (ok_is_source T) hr (by rfl) T.g_is_source T.F_is_source.kp T.b_is_source .nil pass0 (pa_cons (pv 0) pa_nil))))
      (pss_one (ps_raise rfl (takes_of rfl rfl rfl rfl) (pmk_own PySem.F.excBase_ValueError T.xE_BadSource T.gE_BadSource T.kE_BadSource (raises_own T.bE_BadSource T.tE_BadSource) (by exact rfl))))
      pss_nil)), ?_⟩
    walk_at "start"
    walk_at "x"
    refine ⟨d, v, e, rfl, hv, hsh, fun H1 s1 => ?_⟩
    walk_at "x"
    refine x_iteBN (fun h0 => ?_) (fun h0 => ?_)
    · exact hE h0 H1 s1
    · exact hQ h0 H1 s1


theorem nat_get {ls : List Nat} {i : Nat} (h : i < ls.length) : (cInts ls)[i]? = some (.int ((ls.getD i 0 : Nat) : Int)) := by
  unfold cInts
  rw [List.getElem?_map, List.getElem?_eq_getElem h, List.getD_eq_getElem?_getD, List.getElem?_eq_getElem h]
  rfl
def sp_cost_of (K : PySem.W.Frag) : Sp := fun vs H Q _ => ∃ (a la : Addr) (n : SN) (cs : List Nat), vs = [.ref a, .ref la] ∧ H a = some (.tup (snV n)) ∧ H la = some (.lst (cInts cs)) ∧ SnOk cs.length n ∧ Q (.int ((cost1 cs n : Nat) : Int)) H
theorem ok_cost_of (T : Txt K mg) : FnOk P w K mg base CX0 1 T.a_cost_of T.fd_cost_of ["node", "costs"] (sp_cost_of K) := by
  refine T.F_cost_of.ok sc_cost_of (fun vs H Q E h => ?_) (fun cdv A outer s H vs Q E hr h => ?_)
  · obtain ⟨a, la, n, cs, rfl, _⟩ := h
    rfl
  · obtain ⟨a, la, n, cs, rfl, ha, hla, ok, q⟩ := h
    refine ⟨_, (pss_one (ps_match (pv 0) (pcs_seq rfl op_eq (pcap_name 2 sc_cost_of.nd rfl (.inl rfl) (pcap_name 3 sc_cost_of.nd rfl (.inl rfl) pcap_nil))
      (pss_one (ps_ret (pe_op op_add (pe_ix (r := rIxL K) ix_list (pv 1) (pv 2) (fun _ _ => rfl)) (pe_ix (r := rIxL K) ix_list (pv 1) (pv 3) (fun _ _ => rfl)))))
      (pcs_seq rfl op_eq (pcap_name 2 sc_cost_of.nd rfl (.inl rfl) (pcap_name 3 sc_cost_of.nd rfl (.inl rfl) pcap_nil))
      (pss_one (ps_ret (pe_op op_mul pe_int (pe_op op_add (pe_ix (r := rIxL K) ix_list (pv 1) (pv 2) (fun _ _ => rfl)) (pe_ix (r := rIxL K) ix_list (pv 1) (pv 3) (fun _ _ => rfl))))))
      (pcs_seq rfl op_eq (pcap_wild (pcap_name 2 sc_cost_of.nd rfl (.inl rfl) pcap_nil))
      (pss_one (ps_ret (pe_ix (r := rIxL K) ix_list (pv 1) (pv 2) (fun _ _ => rfl))))
      (pcs_seq rfl op_eq (pcap_name 2 sc_cost_of.nd rfl (.inl rfl) (pcap_name 3 sc_cost_of.nd rfl (.inl rfl) (pcap_name 4 sc_cost_of.nd rfl (.inl rfl) pcap_nil)))
      (pss_one (ps_ret (pe_op op_add (pe_ix (r := rIxL K) ix_list (pv 1) (pv 4) (fun _ _ => rfl)) (pe_op op_mul pe_int (pe_op op_add (pe_op op_add (pe_ix (r := rIxL K) ix_list (pv 1) (pv 2) (fun _ _ => rfl)) (pe_ix (r := rIxL K) ix_list (pv 1) (pv 3) (fun _ _ => rfl))) (pe_ix (r := rIxL K) ix_list (pv 1) (pv 4) (fun _ _ => rfl)))))))
      (pcs_else (rest := _) (pss_one (ps_ret pe_int))))))))), ?_⟩
    walk_at "start"
    walk_at "x"
    cases n with
    | con c =>
      have ha : H a = some (.tup [.str "const", .int (c : Int)]) := ha
      refine x_caseNo (st_of ha) (by show (2 : Nat) ≠ 3; decide) ?_
      refine x_caseNo (st_of ha) (by show (2 : Nat) ≠ 3; decide) ?_
      refine x_caseNo (st_of ha) (by show (2 : Nat) ≠ 3; decide) ?_
      refine x_caseNo (st_of ha) (by show (2 : Nat) ≠ 4; decide) ?_
      walk_at "x"
      exact q
    | inp c =>
      have ha : H a = some (.tup [.str "input", .int (c : Int)]) := ha
      refine x_caseNo (st_of ha) (by show (2 : Nat) ≠ 3; decide) ?_
      refine x_caseNo (st_of ha) (by show (2 : Nat) ≠ 3; decide) ?_
      refine x_caseNo (st_of ha) (by show (2 : Nat) ≠ 3; decide) ?_
      refine x_caseNo (st_of ha) (by show (2 : Nat) ≠ 4; decide) ?_
      walk_at "x"
      exact q
    | sum i j =>
      have ha : H a = some (.tup [.str "sum", .int (i : Int), .int (j : Int)]) := ha
      refine x_caseY (st_of ha) rfl ?_
      walk_at "xb"
      refine x_ixL (sq_of hla) (atI_nat (nat_get ok.1)) ?_
      walk_at "x"
      refine x_ixL (sq_of hla) (atI_nat (nat_get ok.2)) ?_
      walk_at "x"
      exact q
    | prod i j =>
      have ha : H a = some (.tup [.str "product", .int (i : Int), .int (j : Int)]) := ha
      refine x_caseW (st_of ha) rfl (by decide) ?_
      refine x_caseY (st_of ha) rfl ?_
      walk_at "xb"
      refine x_ixL (sq_of hla) (atI_nat (nat_get ok.1)) ?_
      walk_at "x"
      refine x_ixL (sq_of hla) (atI_nat (nat_get ok.2)) ?_
      walk_at "x"
      exact q
    | scl c i =>
      have ha : H a = some (.tup [.str "scaled", .int (c : Int), .int (i : Int)]) := ha
      refine x_caseW (st_of ha) rfl (by decide) ?_
      refine x_caseW (st_of ha) rfl (by decide) ?_
      refine x_caseY (st_of ha) rfl ?_
      walk_at "xb"
      refine x_ixL (sq_of hla) (atI_nat (nat_get ok.2)) ?_
      walk_at "x"
      exact q
    | cho i j l =>
      have ha : H a = some (.tup [.str "choose", .int (i : Int), .int (j : Int), .int (l : Int)]) := ha
      refine x_caseNo (st_of ha) (by show (4 : Nat) ≠ 3; decide) ?_
      refine x_caseNo (st_of ha) (by show (4 : Nat) ≠ 3; decide) ?_
      refine x_caseNo (st_of ha) (by show (4 : Nat) ≠ 3; decide) ?_
      refine x_caseY (st_of ha) rfl ?_
      walk_at "xb"
      refine x_ixL (sq_of hla) (atI_nat (nat_get ok.2.2)) ?_
      walk_at "x"
      refine x_ixL (sq_of hla) (atI_nat (nat_get ok.1)) ?_
      walk_at "x"
      refine x_ixL (sq_of hla) (atI_nat (nat_get ok.2.1)) ?_
      walk_at "x"
      refine x_ixL (sq_of hla) (atI_nat (nat_get ok.2.2)) ?_
      walk_at "x"
      exact q


def sp_cost (CS : Addr) (K : PySem.W.Frag) : Sp := fun vs H Q E => ∃ (d : Addr) (v : V) (e : PyData), vs = [v] ∧ DAt d H v e ∧ Sh e ∧ (sourceD e = false → ∀ H', Same H H' → E (.ref CS) none H') ∧ (∀ ns : List SN, e = .tuple (ns.map snD) → SsOk ns → ∀ H', Same H H' → Q (.int ((costF ns : Nat) : Int)) H')
theorem ok_cost (T : Txt K mg) : FnOk P w K mg base (L2.CX P w) 6 T.a_cost T.fd_cost ["source"] (sp_cost T.E_BadSource K) := by
  refine T.F_cost.okX sc_cost (fun vs H Q E h => ?_) (fun cdv A outer s H vs Q E hr h => ?_)
  · obtain ⟨d, v, e, rfl, _⟩ := h
    rfl
  · obtain ⟨d, v, e, rfl, hv, hsh, hE, hQ⟩ := h
    refine ⟨_, (pss_cons (ps_expr (pe_call (ok_check_source T) hr (by rfl) T.g_check_source T.F_check_source.kp T.b_check_source .nil (passes_call (takes_of rfl rfl rfl rfl) (fun _ _ _ _ h => h)) (pa_cons (pv 0) pa_nil)))
      (PSs.nox (pss_cons (ps_set (i := 1) sc_cost.nd rfl (.inl rfl) (pe_lst pa_nil))
      (pss_cons (ps_for PassesOwn.never rfl (pi_tup (pv 0)) (pg_name (i := 2) sc_cost.nd rfl (Or.inl rfl))
      (pss_one (ps_expr (pe_bm PySem.F.plainAttrs_list PySem.F.slot_list_append PySem.F.type_list_append mt_append (pv 1) (pa_cons (pe_call (ok_cost_of T) (hr.mono (by decide)) (by rfl) T.g_cost_of T.F_cost_of.kp T.b_cost_of .nil pass0 (pa_cons (pv 2) (pa_cons (pv 1) pa_nil))) pa_nil)))))
      (pss_one (ps_ret (pe_ix (r := rIxL K) ix_list (pv 1) (pe_un un_neg pe_int) (fun _ _ => rfl)))))))), ?_⟩
    walk_at "start"
    walk_at "x"
    refine ⟨d, v, e, rfl, hv, hsh, hE, fun hb H1 s1 => ?_⟩
    obtain ⟨ns, rfl, hok⟩ := sourceD_iff.mp hb
    have q := hQ ns rfl hok
    obtain ⟨o1, o2, o3⟩ := hok
    cases hv with
    | tup ha hs =>
      rename_i a xs
      obtain ⟨as, rfl, hal, hat⟩ := sns_at hs
      walk_at "x"
      refine ⟨by show 0 ≤ sizeLine; decide, fun p hp => ?_⟩
      have hp0 : H p = none := s1.free hp
      have s2 := s1.trans (same_upd (o := .lst []) hp)
      have e2 : (upd H1 p (.lst [])) p = some (.lst (cInts [])) := upd_same
      generalize upd H1 p (.lst []) = H2 at s2 e2
      walk_at "x"
      refine x_forI (J := Itt K a) (n := (as.map V.ref).length) (G := fun H => SqT K H a (as.map V.ref)) (fun R r => ⟨_, rfl, a, rfl, ⟨_, st_of (s2 _ _ ha)⟩, r⟩) walk_tup (fun k σ' H' => ∃ v2, σ' = [some (.ref a), some (.ref p), v2] ∧ Same H H' ∧ H' p = some (.lst (cInts (costsF (ns.take k))))) ⟨_, rfl, s2, e2⟩ (fun k σ' H' _ z => by obtain ⟨_, _, z, _⟩ := z; exact st_of (z _ _ ha)) ?_ ?_
      · rintro k x σ' H3 H4 hk ⟨v2, rfl, s3, e3⟩ ⟨rfl, hx⟩
        obtain ⟨b, hb2, rfl⟩ := map_getR hx
        obtain ⟨n, hn⟩ : ∃ n, ns[k]? = some n := ⟨_, List.getElem?_eq_getElem (by rw [List.length_map] at hk; omega)⟩
        have hb3 := s3 _ _ (hat k n b hn hb2)
        have hll : (costsF (ns.take k)).length = k := by
          rw [costs_len, List.length_take]
          have := (List.getElem?_eq_some_iff.mp hn).1
          omega
        have hst : costsF (ns.take (k + 1)) = costsF (ns.take k) ++ [cost1 (costsF (ns.take k)) n] := by
          rw [take_snocG hn]
          exact costs_snoc
        walk_at "x"
        refine x_tyL e3 ?_
        walk_at "x"
        refine ⟨b, p, n, _, rfl, hb3, e3, by rw [hll]; exact o3 k n hn, ?_⟩
        walk_at "x"
        refine x_app e3 (by rw [cInts_len, hll]; rw [List.length_map] at hk; omega) ?_
        walk_at "x"
        exact ⟨_, rfl, same_keep hp0 s3 keep_upd, by rw [upd_same, hst, cInts_snoc]⟩
      · rintro σ' H3 ⟨v2, rfl, s3, e3⟩
        rw [List.length_map, hal, List.take_length] at e3
        have hll : (costsF ns).length = ns.length := costs_len
        walk_at "x"
        refine x_ixL (sq_of e3) (atI_m1 (by rw [cInts_len, hll]; omega) (nat_get (by rw [cInts_len, hll]; omega))) ?_
        rw [cInts_len, hll]
        exact q H3 s3


end
end Br
namespace Br
open PySem PySem.Spec PyProof.Rows L2
local macro_rules | `(tactic| walk_at "x1") => `(tactic| (with_reducible first
  | refine Br.x_seq ?_ | refine Br.x_set ?_ | refine Br.x_asg ?_ | refine Br.x_next ?_ | refine Br.x_ret ?_ | refine Br.x_retN ?_ | refine Br.x_drop ?_ | refine Br.x_if ?_ | refine Br.x_brk ?_ | refine Br.x_cont ?_
  | refine Br.x_c ?_ | refine Br.x_op ?_ | refine Br.x_un ?_ | refine Br.x_I0 ?_ | refine Br.x_U ?_ | refine Br.x_EqI ?_ | refine Br.x_NeI ?_ | refine Br.x_EqB ?_ | refine Br.x_iN ?_ | refine Br.x_int1 ?_ | refine Br.x_min2 ?_ | refine Br.x_max2 ?_ | refine Br.x_nN ?_ | refine Br.x_ifE ?_
  | refine Br.x_test (b := ()) ?_ | refine Br.x_tB ?_ | refine Br.x_bl ?_ | refine Br.x_and ?_ | refine Br.x_or ?_ | refine Br.x_not ?_ | refine Br.x_andV ?_ | refine Br.x_orV ?_ | refine Br.x_notV ?_ | refine Br.x_blP ?_
  | refine Br.x_nil ?_ | refine Br.x_cons ?_ | refine Br.x_call ?_ | refine Br.x_CB ?_ | refine Br.x_BM ?_ | refine Br.x_tup ?_ | refine Br.x_lst ?_ | refine Br.x_chain ?_ | refine Br.x_par ?_ | refine Br.x_gSub ?_ | refine Br.x_gName ?_ | refine Br.x_fld ?_ | refine Br.x_fldS ?_ | refine Br.x_match ?_ | refine Br.x_else ?_ | refine Br.x_noCase ?_))
local macro_rules | `(tactic| walk_at "xv") => `(tactic| ((with_reducible refine' Br.x_var ?hvar ?_); (case hvar => rfl)))
local macro_rules | `(tactic| walk_at "xd") => `(tactic| (dsimp only [List.set_cons_zero, List.set_cons_succ, List.cons_append, List.nil_append, List.append_nil]))
local macro_rules | `(tactic| walk_at "xi") => `(tactic| ((with_reducible refine Br.x_I ?hside ?_); (case hside => first | exact Br.mul_r (by decide) (by decide) | exact Br.mul_l (by decide) (by decide) | exact Br.mul_l (by omega) (by omega) | exact Br.mul_r (by omega) (by omega) | (show (0 : Int) < _; first | decide | omega) | exact ⟨by decide, by decide⟩ | exact ⟨by omega, by omega⟩ | exact ⟨by decide, by decide, by decide⟩)))
local macro_rules | `(tactic| walk_at "x") => `(tactic| (repeat (first | walk_at "x1" | walk_at "xv" | walk_at "xi" | walk_at "xd")))
local macro_rules | `(tactic| walk_at "start") => `(tactic| (simp only [L2.start, List.map_cons, List.map_nil, List.length_cons, List.length_nil, Nat.reduceAdd, Nat.reduceSub, List.replicate, List.cons_append, List.nil_append, List.append_nil]))
local macro_rules | `(tactic| walk_at "isi") => `(tactic| first
  | refine Br.x_isi (b := true) (.base (.int _)) (by decide +kernel) ?_ | refine Br.x_isi (b := false) (.base (.int _)) (by decide +kernel) ?_
  | refine Br.x_isi (b := true) (.base (.bl _)) (by decide +kernel) ?_ | refine Br.x_isi (b := false) (.base (.bl _)) (by decide +kernel) ?_
  | refine Br.x_isi (b := false) (.base .non) (by decide +kernel) ?_
  | refine Br.x_isi (b := true) (.base (.str _)) (by decide +kernel) ?_ | refine Br.x_isi (b := false) (.base (.str _)) (by decide +kernel) ?_
  | refine Br.x_isi (b := true) (.base (.tup (by assumption))) (by decide +kernel) ?_ | refine Br.x_isi (b := false) (.base (.tup (by assumption))) (by decide +kernel) ?_
  | refine Br.x_isi (b := true) (.base (.lst (by assumption))) (by decide +kernel) ?_ | refine Br.x_isi (b := false) (.base (.lst (by assumption))) (by decide +kernel) ?_)
local macro_rules | `(tactic| walk_at "f") => `(tactic| (refine L2.iteF ?_; walk_at "x"))
local macro_rules | `(tactic| walk_at "t") => `(tactic| (refine L2.iteT ?_; walk_at "x"))
local macro_rules | `(tactic| walk_at "is") => `(tactic| (walk_at "isi"; walk_at "x"))
local macro_rules | `(tactic| walk_at "xb") => `(tactic| (simp only [Br.bindS, List.set_cons_zero, List.set_cons_succ]; walk_at "x"))

section
variable {P : Program} {w : World} {K : PySem.W.Frag} {mg : Str → Option Value} {base : Heap}

theorem Eqv.bls {K : PySem.W.Frag} {H : Hp} {n : Nat} {a b : Addr} {xs : List Bool} (h1 : H a = some (.lst (Br.bls xs))) (h2 : H b = some (.lst (Br.bls xs))) (hz : xs.length ≤ 100000) : Eqv K H (n + 2) (.ref a) (.ref b) :=
  Eqv.lst h1 h2 rfl (by rw [bls_len]; exact hz) fun i x y e1 e2 => by
    rw [e1] at e2
    cases e2
    obtain ⟨z, _, rfl⟩ := List.mem_map.mp (List.mem_of_getElem? e1)
    exact .bl
theorem keep_tupsG {d n : Addr} {H H' : Hp} (k : Keep d H H') (h : Dr H d n) : ∀ b xs, H b = some (.tup xs) → H' b = some (.tup xs) := fun b xs e => by
  obtain ⟨_, _, h, _⟩ := h
  exact k _ _ e (ne_of e h (by intro z; cases z))
theorem x_lcPreY {σ : L2.St} {H : Hp} {Q : VK} {ta : TE} {j : Nat} {te : TE} {vs : List Nat} (h : ta σ H fun v H1 => tLc (iRng1 (tCons (tC v) tNil)) (gName j) tYes te vs σ H1 Q) : tLc (iRng1 (tCons ta tNil)) (gName j) tYes te vs σ H Q := h
theorem x_forPre {σ : L2.St} {H : Hp} {D : Ends} {ta : TE} {g : TG} {tb : TS} (h : ta σ H fun v H1 => tFor (iRng1 (tCons (tC v) tNil)) g tb D σ H1) : tFor (iRng1 (tCons ta tNil)) g tb D σ H := h

end
end Br
namespace Br
open PySem PySem.Spec PyProof.Rows L2
local macro_rules | `(tactic| walk_at "x1") => `(tactic| (with_reducible first
  | refine Br.x_seq ?_ | refine Br.x_set ?_ | refine Br.x_asg ?_ | refine Br.x_next ?_ | refine Br.x_ret ?_ | refine Br.x_retN ?_ | refine Br.x_drop ?_ | refine Br.x_if ?_ | refine Br.x_brk ?_ | refine Br.x_cont ?_
  | refine Br.x_c ?_ | refine Br.x_op ?_ | refine Br.x_un ?_ | refine Br.x_I0 ?_ | refine Br.x_U ?_ | refine Br.x_EqI ?_ | refine Br.x_NeI ?_ | refine Br.x_EqB ?_ | refine Br.x_iN ?_ | refine Br.x_int1 ?_ | refine Br.x_min2 ?_ | refine Br.x_max2 ?_ | refine Br.x_nN ?_ | refine Br.x_ifE ?_
  | refine Br.x_test (b := ()) ?_ | refine Br.x_tB ?_ | refine Br.x_bl ?_ | refine Br.x_and ?_ | refine Br.x_or ?_ | refine Br.x_not ?_ | refine Br.x_andV ?_ | refine Br.x_orV ?_ | refine Br.x_notV ?_ | refine Br.x_blP ?_
  | refine Br.x_nil ?_ | refine Br.x_cons ?_ | refine Br.x_call ?_ | refine Br.x_CB ?_ | refine Br.x_BM ?_ | refine Br.x_tup ?_ | refine Br.x_lst ?_ | refine Br.x_chain ?_ | refine Br.x_par ?_ | refine Br.x_gSub ?_ | refine Br.x_gName ?_ | refine Br.x_fld ?_ | refine Br.x_fldS ?_ | refine Br.x_match ?_ | refine Br.x_else ?_ | refine Br.x_noCase ?_))
local macro_rules | `(tactic| walk_at "xv") => `(tactic| ((with_reducible refine' Br.x_var ?hvar ?_); (case hvar => rfl)))
local macro_rules | `(tactic| walk_at "xd") => `(tactic| (dsimp only [List.set_cons_zero, List.set_cons_succ, List.cons_append, List.nil_append, List.append_nil]))
local macro_rules | `(tactic| walk_at "xi") => `(tactic| ((with_reducible refine Br.x_I ?hside ?_); (case hside => first | exact Br.mul_r (by decide) (by decide) | exact Br.mul_l (by decide) (by decide) | exact Br.mul_l (by omega) (by omega) | exact Br.mul_r (by omega) (by omega) | (show (0 : Int) < _; first | decide | omega) | exact ⟨by decide, by decide⟩ | exact ⟨by omega, by omega⟩ | exact ⟨by decide, by decide, by decide⟩)))
local macro_rules | `(tactic| walk_at "x") => `(tactic| (repeat (first | walk_at "x1" | walk_at "xv" | walk_at "xi" | walk_at "xd")))
local macro_rules | `(tactic| walk_at "start") => `(tactic| (simp only [L2.start, List.map_cons, List.map_nil, List.length_cons, List.length_nil, Nat.reduceAdd, Nat.reduceSub, List.replicate, List.cons_append, List.nil_append, List.append_nil]))
local macro_rules | `(tactic| walk_at "isi") => `(tactic| first
  | refine Br.x_isi (b := true) (.base (.int _)) (by decide +kernel) ?_ | refine Br.x_isi (b := false) (.base (.int _)) (by decide +kernel) ?_
  | refine Br.x_isi (b := true) (.base (.bl _)) (by decide +kernel) ?_ | refine Br.x_isi (b := false) (.base (.bl _)) (by decide +kernel) ?_
  | refine Br.x_isi (b := false) (.base .non) (by decide +kernel) ?_
  | refine Br.x_isi (b := true) (.base (.str _)) (by decide +kernel) ?_ | refine Br.x_isi (b := false) (.base (.str _)) (by decide +kernel) ?_
  | refine Br.x_isi (b := true) (.base (.tup (by assumption))) (by decide +kernel) ?_ | refine Br.x_isi (b := false) (.base (.tup (by assumption))) (by decide +kernel) ?_
  | refine Br.x_isi (b := true) (.base (.lst (by assumption))) (by decide +kernel) ?_ | refine Br.x_isi (b := false) (.base (.lst (by assumption))) (by decide +kernel) ?_)
local macro_rules | `(tactic| walk_at "f") => `(tactic| (refine L2.iteF ?_; walk_at "x"))
local macro_rules | `(tactic| walk_at "t") => `(tactic| (refine L2.iteT ?_; walk_at "x"))
local macro_rules | `(tactic| walk_at "is") => `(tactic| (walk_at "isi"; walk_at "x"))
local macro_rules | `(tactic| walk_at "xb") => `(tactic| (simp only [Br.bindS, List.set_cons_zero, List.set_cons_succ]; walk_at "x"))

section
variable {P : Program} {w : World} {K : PySem.W.Frag} {mg : Str → Option Value} {base : Heap}

open Br

def sp_inputs_needed (K : PySem.W.Frag) : Sp := fun vs H Q _ => ∃ (d t : Addr) (ns : List SN), vs = [.ref t] ∧ DAt d H (.ref t) (.tuple (ns.map snD)) ∧ ns.length ≤ 1000 ∧ ∀ H', Same H H' → Q (.int ((needF ns : Nat) : Int)) H'
theorem ok_inputs_needed (T : Txt K mg) : FnOk P w K mg base CX0 1 T.a_inputs_needed T.fd_inputs_needed ["source"] (sp_inputs_needed K) := by
  refine T.F_inputs_needed.ok sc_inputs_needed (fun vs H Q E h => ?_) (fun cdv A outer s H vs Q E hr h => ?_)
  · obtain ⟨d, t, ns, rfl, _⟩ := h
    rfl
  · obtain ⟨d, t, ns, rfl, ht, hl9, q⟩ := h
    cases ht with
    | tup ha hs =>
      rename_i xs
      obtain ⟨as, rfl, hal, hat⟩ := sns_at hs
      have hml : (as.map V.ref).length = ns.length := by rw [List.length_map, hal]
      refine ⟨_, (pss_one (ps_ret (pe_callBK (cr_maxDf rfl) (by rfl) T.m_max (by decide +kernel) (pa_cons (pe_lc (own := [("node", 1)]) (g := gName 1) (tt := _) rfl sc_inputs_needed.nd (pi_tup (pv 0)) (blkOk_by (N := N_inputs_needed) (sc := defScope s_inputs_needed) (by decide +kernel)) (fun _ _ _ _ _ => (pg_name (i := 1) sc_inputs_needed.nd rfl (Or.inl rfl))) (fun _ _ _ _ _ => (pts_one (pt_cmpR op_eq (pe_ix (r := rIxT K) ix_tup (pv 1) pe_int (fun _ _ => rfl)) pe_str (nomark _)))) (fun _ _ _ _ _ => (pe_op op_add (pe_ix (r := rIxT K) ix_tup (pv 1) pe_int (fun _ _ => rfl)) pe_int))) pa_nil) (pk_cons pe_int pk_nil)))), ?_⟩
      walk_at "start"
      walk_at "x"
      refine x_maxDf ?_
      walk_at "x"
      refine x_lcTT (K := K) (a := t) (as.map V.ref) (fun p k H' => Same H H' ∧ H' p = some (.lst (cInts (needL (ns.take k)))) ∧ (needL (ns.take k)).length ≤ k) (fun R r => by walk_at "x"; exact r) (st_of ha) (fun p hp => ⟨same_upd hp, upd_same, Nat.le_refl _⟩) (fun p k H' hp hk z => st_of (z.1 _ _ ha)) (fun x => rfl) ?_ ?_
      · rintro p k x H1 hp hx ⟨s1, hP, hcl⟩
        obtain ⟨a, ha2, rfl⟩ := map_getR hx
        have hk := (List.getElem?_eq_some_iff.mp ha2).1
        obtain ⟨n, hn⟩ : ∃ n, ns[k]? = some n := ⟨_, List.getElem?_eq_getElem (by omega)⟩
        have hb := s1 _ _ (hat k n a hn ha2)
        have hst : needL (ns.take (k + 1)) = needL (ns.take k) ++ (match need1 n with | some k => [k] | none => []) := by rw [take_snocG hn]; exact needL_snoc
        have other : ∀ (w : Str) (vs : List V), snV n = .str w :: vs → w ≠ "input" → need1 n = none → H1 a = some (.tup (.str w :: vs)) ∧ Same H H1 ∧ H1 p = some (.lst (cInts (needL (ns.take (k + 1))))) ∧ (needL (ns.take (k + 1))).length ≤ k + 1 := fun w vs e _ h => by
          rw [hst, h, List.append_nil]
          exact ⟨by rw [← e]; exact hb, s1, hP, by omega⟩
        walk_at "x"
        cases n with
        | inp c =>
          have hb : H1 a = some (.tup [.str "input", .int (c : Int)]) := hb
          refine x_ixT (v := .str "input") (st_of hb) (atI_nat (j := 0) rfl) ?_
          walk_at "x"
          refine x_EqS ?_
          walk_at "x"
          rw [decide_eq_true rfl]
          refine iteT ?_
          walk_at "x"
          refine x_ixT (v := .int (c : Int)) (st_of hb) (atI_nat (j := 1) rfl) ?_
          walk_at "x"
          have e : need1 (.inp c) = some (c + 1) := rfl
          rw [e] at hst
          refine ⟨_, hP, lt_line (by rw [cInts_len]; omega), sput s1 hp, ?_, ?_⟩
          · rw [upd_same, hst, ← cInts_snoc]; rfl
          · rw [hst, List.length_append]; exact Nat.add_le_add_right hcl 1
        | con c =>
          obtain ⟨h1, h2⟩ := other "const" _ rfl (by decide) rfl
          refine x_ixT (v := .str "const") (st_of h1) (atI_nat (j := 0) rfl) ?_
          walk_at "x"
          refine x_EqS ?_
          walk_at "x"
          rw [decide_eq_false (by decide : ¬ (("const" : Str) = "input"))]
          exact iteF h2
        | sum i j =>
          obtain ⟨h1, h2⟩ := other "sum" _ rfl (by decide) rfl
          refine x_ixT (v := .str "sum") (st_of h1) (atI_nat (j := 0) rfl) ?_
          walk_at "x"
          refine x_EqS ?_
          walk_at "x"
          rw [decide_eq_false (by decide : ¬ (("sum" : Str) = "input"))]
          exact iteF h2
        | prod i j =>
          obtain ⟨h1, h2⟩ := other "product" _ rfl (by decide) rfl
          refine x_ixT (v := .str "product") (st_of h1) (atI_nat (j := 0) rfl) ?_
          walk_at "x"
          refine x_EqS ?_
          walk_at "x"
          rw [decide_eq_false (by decide : ¬ (("product" : Str) = "input"))]
          exact iteF h2
        | scl c i =>
          obtain ⟨h1, h2⟩ := other "scaled" _ rfl (by decide) rfl
          refine x_ixT (v := .str "scaled") (st_of h1) (atI_nat (j := 0) rfl) ?_
          walk_at "x"
          refine x_EqS ?_
          walk_at "x"
          rw [decide_eq_false (by decide : ¬ (("scaled" : Str) = "input"))]
          exact iteF h2
        | cho i j l =>
          obtain ⟨h1, h2⟩ := other "choose" _ rfl (by decide) rfl
          refine x_ixT (v := .str "choose") (st_of h1) (atI_nat (j := 0) rfl) ?_
          walk_at "x"
          refine x_EqS ?_
          walk_at "x"
          rw [decide_eq_false (by decide : ¬ (("choose" : Str) = "input"))]
          exact iteF h2
      · rintro p H1 hp ⟨s1, hP, hcl⟩
        rw [hml, List.take_length, cInts_eq] at hP
        walk_at "x"
        refine x_maxDfP (sq_of hP) fun m hm => ?_
        rw [needF_max hm]
        exact q H1 s1


def sp_needs (CS : Addr) (K : PySem.W.Frag) : Sp := fun vs H Q E => ∃ (d : Addr) (v : V) (e : PyData), vs = [v] ∧ DAt d H v e ∧ Sh e ∧ (sourceD e = false → ∀ H', Same H H' → E (.ref CS) none H') ∧ (∀ ns : List SN, e = .tuple (ns.map snD) → SsOk ns → ∀ H', Same H H' → Q (.int ((needF ns : Nat) : Int)) H')
theorem ok_needs (T : Txt K mg) : FnOk P w K mg base (L2.CX P w) 6 T.a_needs T.fd_needs ["source"] (sp_needs T.E_BadSource K) := by
  refine T.F_needs.okX sc_needs (fun vs H Q E h => ?_) (fun cdv A outer s H vs Q E hr h => ?_)
  · obtain ⟨d, v, e, rfl, _⟩ := h
    rfl
  · obtain ⟨d, v, e, rfl, hv, hsh, hE, hQ⟩ := h
    refine ⟨_, (pss_cons (ps_expr (pe_call (ok_check_source T) hr (by rfl) T.g_check_source T.F_check_source.kp T.b_check_source .nil (passes_call (takes_of rfl rfl rfl rfl) (fun _ _ _ _ h => h)) (pa_cons (pv 0) pa_nil)))
      (PSs.nox (pss_one (ps_ret (pe_call (ok_inputs_needed T) (hr.mono (by decide)) (by rfl) T.g_inputs_needed T.F_inputs_needed.kp T.b_inputs_needed .nil pass0 (pa_cons (pv 0) pa_nil)))))), ?_⟩
    walk_at "start"
    walk_at "x"
    refine ⟨d, v, e, rfl, hv, hsh, hE, fun hb H1 s1 => ?_⟩
    obtain ⟨ns, rfl, hok⟩ := sourceD_iff.mp hb
    have q := hQ ns rfl hok
    have hl := hok.l2
    obtain ⟨t, rfl⟩ : ∃ t, v = .ref t := by cases hv; exact ⟨_, rfl⟩
    walk_at "x"
    exact ⟨d, t, ns, rfl, DAt.same s1 _ hv, by omega, fun H2 s2 => q H2 (s1.trans s2)⟩


end
end Br
namespace Br
open PySem PySem.Spec PyProof.Rows L2
local macro_rules | `(tactic| walk_at "x1") => `(tactic| (with_reducible first
  | refine Br.x_seq ?_ | refine Br.x_set ?_ | refine Br.x_asg ?_ | refine Br.x_next ?_ | refine Br.x_ret ?_ | refine Br.x_retN ?_ | refine Br.x_drop ?_ | refine Br.x_if ?_ | refine Br.x_brk ?_ | refine Br.x_cont ?_
  | refine Br.x_c ?_ | refine Br.x_op ?_ | refine Br.x_un ?_ | refine Br.x_I0 ?_ | refine Br.x_U ?_ | refine Br.x_EqI ?_ | refine Br.x_NeI ?_ | refine Br.x_EqB ?_ | refine Br.x_iN ?_ | refine Br.x_int1 ?_ | refine Br.x_min2 ?_ | refine Br.x_max2 ?_ | refine Br.x_nN ?_ | refine Br.x_ifE ?_
  | refine Br.x_test (b := ()) ?_ | refine Br.x_tB ?_ | refine Br.x_bl ?_ | refine Br.x_and ?_ | refine Br.x_or ?_ | refine Br.x_not ?_ | refine Br.x_andV ?_ | refine Br.x_orV ?_ | refine Br.x_notV ?_ | refine Br.x_blP ?_
  | refine Br.x_nil ?_ | refine Br.x_cons ?_ | refine Br.x_call ?_ | refine Br.x_CB ?_ | refine Br.x_BM ?_ | refine Br.x_tup ?_ | refine Br.x_lst ?_ | refine Br.x_chain ?_ | refine Br.x_par ?_ | refine Br.x_gSub ?_ | refine Br.x_gName ?_ | refine Br.x_fld ?_ | refine Br.x_fldS ?_ | refine Br.x_match ?_ | refine Br.x_else ?_ | refine Br.x_noCase ?_))
local macro_rules | `(tactic| walk_at "xv") => `(tactic| ((with_reducible refine' Br.x_var ?hvar ?_); (case hvar => rfl)))
local macro_rules | `(tactic| walk_at "xd") => `(tactic| (dsimp only [List.set_cons_zero, List.set_cons_succ, List.cons_append, List.nil_append, List.append_nil]))
local macro_rules | `(tactic| walk_at "xi") => `(tactic| ((with_reducible refine Br.x_I ?hside ?_); (case hside => first | exact Br.mul_r (by decide) (by decide) | exact Br.mul_l (by decide) (by decide) | exact Br.mul_l (by omega) (by omega) | exact Br.mul_r (by omega) (by omega) | (show (0 : Int) < _; first | decide | omega) | exact ⟨by decide, by decide⟩ | exact ⟨by omega, by omega⟩ | exact ⟨by decide, by decide, by decide⟩)))
local macro_rules | `(tactic| walk_at "x") => `(tactic| (repeat (first | walk_at "x1" | walk_at "xv" | walk_at "xi" | walk_at "xd")))
local macro_rules | `(tactic| walk_at "start") => `(tactic| (simp only [L2.start, List.map_cons, List.map_nil, List.length_cons, List.length_nil, Nat.reduceAdd, Nat.reduceSub, List.replicate, List.cons_append, List.nil_append, List.append_nil]))
local macro_rules | `(tactic| walk_at "isi") => `(tactic| first
  | refine Br.x_isi (b := true) (.base (.int _)) (by decide +kernel) ?_ | refine Br.x_isi (b := false) (.base (.int _)) (by decide +kernel) ?_
  | refine Br.x_isi (b := true) (.base (.bl _)) (by decide +kernel) ?_ | refine Br.x_isi (b := false) (.base (.bl _)) (by decide +kernel) ?_
  | refine Br.x_isi (b := false) (.base .non) (by decide +kernel) ?_
  | refine Br.x_isi (b := true) (.base (.str _)) (by decide +kernel) ?_ | refine Br.x_isi (b := false) (.base (.str _)) (by decide +kernel) ?_
  | refine Br.x_isi (b := true) (.base (.tup (by assumption))) (by decide +kernel) ?_ | refine Br.x_isi (b := false) (.base (.tup (by assumption))) (by decide +kernel) ?_
  | refine Br.x_isi (b := true) (.base (.lst (by assumption))) (by decide +kernel) ?_ | refine Br.x_isi (b := false) (.base (.lst (by assumption))) (by decide +kernel) ?_)
local macro_rules | `(tactic| walk_at "f") => `(tactic| (refine L2.iteF ?_; walk_at "x"))
local macro_rules | `(tactic| walk_at "t") => `(tactic| (refine L2.iteT ?_; walk_at "x"))
local macro_rules | `(tactic| walk_at "is") => `(tactic| (walk_at "isi"; walk_at "x"))
local macro_rules | `(tactic| walk_at "xb") => `(tactic| (simp only [Br.bindS, List.set_cons_zero, List.set_cons_succ]; walk_at "x"))

section
variable {P : Program} {w : World} {K : PySem.W.Frag} {mg : Str → Option Value} {base : Heap}

open Br

theorem borF_at {t i : Nat} {f : Option Nat} (h : ∀ j, j < i → j = t ∨ f = some j) (h1 : i ≠ t) (h2 : f ≠ some i) (h3 : i < 3) : borF t f = i := by
  have hf : ∀ j, j < i → ¬ (j ≠ t ∧ some j ≠ f) := fun j hj hh => by
    rcases h j hj with e | e
    · exact hh.1 e
    · exact hh.2 e.symm
  unfold borF
  match i, h3 with
  | 0, _ => rw [if_pos ⟨h1, h2.symm⟩]
  | 1, _ => rw [if_neg (hf 0 (by decide)), if_pos ⟨h1, h2.symm⟩]
  | 2, _ => rw [if_neg (hf 0 (by decide)), if_neg (hf 1 (by decide))]
def sp_borrowed_cell (K : PySem.W.Frag) : Sp := fun vs H Q _ => ∃ (t : Nat) (a : Addr) (f : Option Nat), vs = [.int (t : Int), .ref a] ∧ FcAt H a f ∧ t < 3 ∧ (∀ g, f = some g → g < 3 ∧ g ≠ t) ∧ ∀ H', Same H H' → Q (.int ((borF t f : Nat) : Int)) H'
theorem ok_borrowed_cell (T : Txt K mg) : FnOk P w K mg base CX0 1 T.a_borrowed_cell T.fd_borrowed_cell ["target", "factors"] (sp_borrowed_cell K) := by
  refine T.F_borrowed_cell.ok sc_borrowed_cell (fun vs H Q E h => ?_) (fun cdv A outer s H vs Q E hr h => ?_)
  · obtain ⟨t, a, f, rfl, _⟩ := h
    rfl
  · obtain ⟨t, a, f, rfl, ha, t3, f3, q⟩ := h
    refine ⟨_, (pss_one (ps_for PassesOwn.never rfl (pi_range1 (by rfl) T.m_range (pa_cons (pe_glob (v := .int 3) (by rfl) T.c_CELLS ⟨_, rfl⟩) pa_nil)) (pg_name (i := 2) sc_borrowed_cell.nd rfl (Or.inl rfl))
      (pss_one (ps_if (PW.pt (pw_and (pt_cmpR op_ne (pv 2) (pv 0) (nomark _)) (pw_and1 (pt_cmpR (op_notInT hr.units) (pe_tup (pa_cons pe_str (pa_cons (pv 2) pa_nil))) (pv 1) (by with_unfolding_all rfl)))))
      (pss_one (ps_ret (pv 2)))
      pss_nil)))), ?_⟩
    walk_at "start"
    walk_at "x"
    refine x_forR1 3 (fun i σ' H' => ∃ v2, σ' = [some (.int (t : Int)), some (.ref a), v2] ∧ Same H H' ∧ ∀ j, j < i → j = t ∨ f = some j) (fun R r => r) (by decide) (by decide) ⟨none, rfl, Same.refl _, fun j h => by omega⟩ ?_ ?_
    · rintro i σ' H' hi ⟨v2, rfl, s, hno⟩
      have more : (i = t ∨ f = some i) → ∀ j, j < i + 1 → j = t ∨ f = some j := fun h j hj => by
        by_cases e : j = i
        · rw [e]; exact h
        · exact hno j (by omega)
      walk_at "x"
      refine x_iteN (fun hne => ?_) (fun heq => ?_)
      · walk_at "x"
        refine ⟨by show 2 ≤ sizeLine; decide, fun p hp => ?_⟩
        have s1 := s.trans (same_upd (o := .tup [V.str "cell", V.int (i : Int)]) hp)
        have e1 : (upd H' p (.tup [V.str "cell", V.int (i : Int)])) p = some (.tup [V.str "cell", V.int (i : Int)]) := upd_same
        generalize upd H' p (.tup [V.str "cell", V.int (i : Int)]) = H1 at s1 e1
        walk_at "x"
        have hd : DAt p H1 (.ref p) (.tuple [.str "cell", .int (i : Int)]) := .tup e1 (.cons (.str _) (.cons (.int _) .nil))
        have hfs : ShN 2 (.tuple (fcD f)) := fcD_sh (m := 0)
        refine ⟨.tuple [.str "cell", .int (i : Int)], fcD f, hd.dp, ((ha.tups (Tups.same s1)).dat (d := p)).dp, (cellD_sh (m := 0)).sh (by decide), hfs.1, _, rfl, ?_⟩
        rw [fcD_in]
        by_cases hf : f = some i
        · rw [decide_eq_true hf]
          walk_at "f"
          exact ⟨_, rfl, s1, more (.inr hf)⟩
        · rw [decide_eq_false hf]
          walk_at "t"
          have e := borF_at hno (by omega) hf (by omega)
          rw [← e]
          exact q _ s1
      · walk_at "f"
        exact ⟨_, rfl, s, more (.inl (by omega))⟩
    · rintro σ' H' ⟨v2, rfl, s, hno⟩
      exfalso
      have h0 := hno 0 (by decide)
      have h1 := hno 1 (by decide)
      have h2 := hno 2 (by decide)
      rcases h0 with rfl | h0
      · rcases h1 with h1 | h1
        · omega
        · rcases h2 with h2 | h2
          · omega
          · rw [h1] at h2; cases h2
      · rcases h1 with rfl | h1
        · rcases h2 with h2 | h2
          · omega
          · rw [h0] at h2; cases h2
        · rw [h0] at h1; cases h1


def sp_parts_of (K : PySem.W.Frag) : Sp := fun vs H Q _ => ∃ (a fa : Addr) (n : SN) (t : Nat) (c : Int) (f : Option Nat), vs = [.ref a, .int (t : Int), .int c, .ref fa] ∧ H a = some (.tup (snV n)) ∧ isScl n = false ∧ isLeaf n = false ∧ FcAt H fa f ∧ t < 3 ∧ (∀ g, f = some g → g < 3 ∧ g ≠ t) ∧ 0 ≤ c ∧ c < 1000000000 ∧
  ∀ (l : Addr) (as : List Addr) (H' : Hp), Same H H' → H l = none → H' l = some (.lst (as.map V.ref)) → TksAt H' as (partsF t c f n) → Q (.ref l) H'
theorem ok_parts_of (T : Txt K mg) : FnOk P w K mg base CX0 2 T.a_parts_of T.fd_parts_of ["node", "target", "coefficient", "factors"] (sp_parts_of K) := by
  refine T.F_parts_of.ok sc_parts_of (fun vs H Q E h => ?_) (fun cdv A outer s H vs Q E hr h => ?_)
  · obtain ⟨a, fa, n, t, c, f, rfl, _⟩ := h
    rfl
  · obtain ⟨a, fa, n, t, c, f, rfl, ha, hs, hl, hf, t3, f3, c0, c1, q⟩ := h
    refine ⟨_, (pss_cons (ps_set (i := 4) sc_parts_of.nd rfl (.inl rfl) (pe_call (ok_borrowed_cell T) hr (by rfl) T.g_borrowed_cell T.F_borrowed_cell.kp T.b_borrowed_cell .nil pass0 (pa_cons (pv 1) (pa_cons (pv 3) pa_nil))))
      (pss_cons (ps_set (i := 5) sc_parts_of.nd rfl (.inl rfl) (pe_tup (pa_cons (pe_tup (pa_cons pe_str (pa_cons (pv 4) pa_nil))) pa_nil)))
      (pss_one (ps_match (pv 0) (pcs_seq rfl op_eq (pcap_name 6 sc_parts_of.nd rfl (.inl rfl) (pcap_name 7 sc_parts_of.nd rfl (.inl rfl) pcap_nil))
      (pss_one (ps_ret (pe_lst (pa_cons (pe_tup (pa_cons (pv 6) (pa_cons (pv 1) (pa_cons (pv 2) (pa_cons (pv 3) pa_nil))))) (pa_cons (pe_tup (pa_cons (pv 7) (pa_cons (pv 1) (pa_cons (pv 2) (pa_cons (pv 3) pa_nil))))) pa_nil)))))
      (pcs_seq rfl op_eq (pcap_name 6 sc_parts_of.nd rfl (.inl rfl) (pcap_name 7 sc_parts_of.nd rfl (.inl rfl) pcap_nil))
      (pss_one (ps_ret (pe_lst (pa_cons (pe_tup (pa_cons (pv 6) (pa_cons (pv 4) (pa_cons pe_int (pa_cons (pv 3) pa_nil))))) (pa_cons (pe_tup (pa_cons (pv 7) (pa_cons (pv 1) (pa_cons (pv 2) (pa_cons (pv 5) pa_nil))))) (pa_cons (pe_tup (pa_cons (pv 6) (pa_cons (pv 4) (pa_cons (pe_un un_neg pe_int) (pa_cons (pv 3) pa_nil))))) (pa_cons (pe_tup (pa_cons (pv 7) (pa_cons (pv 1) (pa_cons (pe_un un_neg (pv 2)) (pa_cons (pv 5) pa_nil))))) pa_nil)))))))
      (pcs_seq rfl op_eq (pcap_name 6 sc_parts_of.nd rfl (.inl rfl) (pcap_name 7 sc_parts_of.nd rfl (.inl rfl) (pcap_name 8 sc_parts_of.nd rfl (.inl rfl) pcap_nil)))
      (pss_one (ps_ret (pe_lst (pa_cons (pe_tup (pa_cons (pv 8) (pa_cons (pv 1) (pa_cons (pv 2) (pa_cons (pv 3) pa_nil))))) (pa_cons (pe_tup (pa_cons (pv 6) (pa_cons (pv 4) (pa_cons pe_int (pa_cons (pv 3) pa_nil))))) (pa_cons (pe_tup (pa_cons (pv 7) (pa_cons (pv 1) (pa_cons (pv 2) (pa_cons (pv 5) pa_nil))))) (pa_cons (pe_tup (pa_cons (pv 8) (pa_cons (pv 1) (pa_cons (pe_un un_neg (pv 2)) (pa_cons (pv 5) pa_nil))))) (pa_cons (pe_tup (pa_cons (pv 6) (pa_cons (pv 4) (pa_cons (pe_un un_neg pe_int) (pa_cons (pv 3) pa_nil))))) (pa_cons (pe_tup (pa_cons (pv 7) (pa_cons (pv 1) (pa_cons (pe_un un_neg (pv 2)) (pa_cons (pv 5) pa_nil))))) (pa_cons (pe_tup (pa_cons (pv 8) (pa_cons (pv 1) (pa_cons (pv 2) (pa_cons (pv 5) pa_nil))))) pa_nil))))))))))
      pcs_nil))))))), ?_⟩
    walk_at "start"
    walk_at "x"
    refine ⟨t, fa, f, rfl, hf, t3, f3, fun H1 s1 => ?_⟩
    generalize hb : borF t f = b
    walk_at "x"
    refine ⟨by show 2 ≤ sizeLine; decide, fun p hp => ?_⟩
    have s2 := s1.trans (same_upd (o := .tup [V.str "cell", V.int (b : Int)]) hp)
    have e2 : (upd H1 p (.tup [V.str "cell", V.int (b : Int)])) p = some (.tup [V.str "cell", V.int (b : Int)]) := upd_same
    generalize upd H1 p (.tup [V.str "cell", V.int (b : Int)]) = H2 at s2 e2
    walk_at "x"
    refine ⟨by show 1 ≤ sizeLine; decide, fun r hr0 => ?_⟩
    have s3 := s2.trans (same_upd (o := .tup [V.ref p]) hr0)
    have e3 : (upd H2 r (.tup [V.ref p])) r = some (.tup [V.ref p]) := upd_same
    have e3' := same_upd (o := .tup [V.ref p]) hr0 _ _ e2
    generalize upd H2 r (.tup [V.ref p]) = H3 at s3 e3 e3'
    have hby : FcAt H3 r (some b) := ⟨p, e3, e3'⟩
    have hf3 := hf.tups (Tups.same s3)
    have a3 := s3 _ _ ha
    have hf0 := hf3
    have hby0 := hby
    walk_at "x"
    cases n with
    | con => cases hl
    | inp => cases hl
    | scl => cases hs
    | sum i j =>
      have a3 : H3 a = some (.tup [.str "sum", .int (i : Int), .int (j : Int)]) := a3
      refine x_caseY (st_of a3) rfl ?_
      walk_at "xb"
      have T3 : TksAt H3 [] [] := TksAt.nil
      refine ⟨by show 4 ≤ sizeLine; decide, fun p1 hp1 => ?_⟩
      obtain ⟨s4, T4⟩ := tk_put (i := i) (t := t) (c := c) (g := f) s3 T3 hp1 (f := fa) hf0
      have u4 := (same_upd (o := (.tup [.int (i : Int), .int (t : Int), .int (c), .ref fa])) hp1)
      generalize upd H3 p1 (.tup [.int (i : Int), .int (t : Int), .int (c), .ref fa]) = H4 at s4 T4 u4
      walk_at "x"
      refine ⟨by show 4 ≤ sizeLine; decide, fun p2 hp2 => ?_⟩
      obtain ⟨s5, T5⟩ := tk_put (i := j) (t := t) (c := c) (g := f) s4 T4 hp2 (f := fa) (hf0.tups (Tups.same u4))
      have u5 := u4.trans (same_upd (o := (.tup [.int (j : Int), .int (t : Int), .int (c), .ref fa])) hp2)
      generalize upd H4 p2 (.tup [.int (j : Int), .int (t : Int), .int (c), .ref fa]) = H5 at s5 T5 u5
      walk_at "x"
      refine ⟨by show 2 ≤ sizeLine; decide, fun l hl => ?_⟩
      have T := T5.tups (Tups.same (same_upd (o := .lst [.ref p1, .ref p2]) hl))
      exact q l [p1, p2] _ (s5.trans (same_upd hl)) (s5.free hl) upd_same (by unfold partsF; rw [hb]; exact T)
    | prod i j =>
      have a3 : H3 a = some (.tup [.str "product", .int (i : Int), .int (j : Int)]) := a3
      refine x_caseW (st_of a3) rfl (by decide) ?_
      refine x_caseY (st_of a3) rfl ?_
      walk_at "xb"
      have T3 : TksAt H3 [] [] := TksAt.nil
      refine ⟨by show 4 ≤ sizeLine; decide, fun p1 hp1 => ?_⟩
      obtain ⟨s4, T4⟩ := tk_put (i := i) (t := b) (c := 1) (g := f) s3 T3 hp1 (f := fa) hf0
      have u4 := (same_upd (o := (.tup [.int (i : Int), .int (b : Int), .int (1), .ref fa])) hp1)
      generalize upd H3 p1 (.tup [.int (i : Int), .int (b : Int), .int (1), .ref fa]) = H4 at s4 T4 u4
      walk_at "x"
      refine ⟨by show 4 ≤ sizeLine; decide, fun p2 hp2 => ?_⟩
      obtain ⟨s5, T5⟩ := tk_put (i := j) (t := t) (c := c) (g := (some b)) s4 T4 hp2 (f := r) (hby0.tups (Tups.same u4))
      have u5 := u4.trans (same_upd (o := (.tup [.int (j : Int), .int (t : Int), .int (c), .ref r])) hp2)
      generalize upd H4 p2 (.tup [.int (j : Int), .int (t : Int), .int (c), .ref r]) = H5 at s5 T5 u5
      walk_at "x"
      refine ⟨by show 4 ≤ sizeLine; decide, fun p3 hp3 => ?_⟩
      obtain ⟨s6, T6⟩ := tk_put (i := i) (t := b) (c := -1) (g := f) s5 T5 hp3 (f := fa) (hf0.tups (Tups.same u5))
      have u6 := u5.trans (same_upd (o := (.tup [.int (i : Int), .int (b : Int), .int (-1), .ref fa])) hp3)
      generalize upd H5 p3 (.tup [.int (i : Int), .int (b : Int), .int (-1), .ref fa]) = H6 at s6 T6 u6
      walk_at "x"
      refine ⟨by show 4 ≤ sizeLine; decide, fun p4 hp4 => ?_⟩
      obtain ⟨s7, T7⟩ := tk_put (i := j) (t := t) (c := -c) (g := (some b)) s6 T6 hp4 (f := r) (hby0.tups (Tups.same u6))
      have u7 := u6.trans (same_upd (o := (.tup [.int (j : Int), .int (t : Int), .int (-c), .ref r])) hp4)
      generalize upd H6 p4 (.tup [.int (j : Int), .int (t : Int), .int (-c), .ref r]) = H7 at s7 T7 u7
      walk_at "x"
      refine ⟨by show 4 ≤ sizeLine; decide, fun l hl => ?_⟩
      have T := T7.tups (Tups.same (same_upd (o := .lst [.ref p1, .ref p2, .ref p3, .ref p4]) hl))
      exact q l [p1, p2, p3, p4] _ (s7.trans (same_upd hl)) (s7.free hl) upd_same (by unfold partsF; rw [hb]; exact T)
    | cho i j l =>
      have a3 : H3 a = some (.tup [.str "choose", .int (i : Int), .int (j : Int), .int (l : Int)]) := a3
      refine x_caseNo (st_of a3) (by show (4 : Nat) ≠ 3; decide) ?_
      refine x_caseNo (st_of a3) (by show (4 : Nat) ≠ 3; decide) ?_
      refine x_caseY (st_of a3) rfl ?_
      walk_at "xb"
      have T3 : TksAt H3 [] [] := TksAt.nil
      refine ⟨by show 4 ≤ sizeLine; decide, fun p1 hp1 => ?_⟩
      obtain ⟨s4, T4⟩ := tk_put (i := l) (t := t) (c := c) (g := f) s3 T3 hp1 (f := fa) hf0
      have u4 := (same_upd (o := (.tup [.int (l : Int), .int (t : Int), .int (c), .ref fa])) hp1)
      generalize upd H3 p1 (.tup [.int (l : Int), .int (t : Int), .int (c), .ref fa]) = H4 at s4 T4 u4
      walk_at "x"
      refine ⟨by show 4 ≤ sizeLine; decide, fun p2 hp2 => ?_⟩
      obtain ⟨s5, T5⟩ := tk_put (i := i) (t := b) (c := 1) (g := f) s4 T4 hp2 (f := fa) (hf0.tups (Tups.same u4))
      have u5 := u4.trans (same_upd (o := (.tup [.int (i : Int), .int (b : Int), .int (1), .ref fa])) hp2)
      generalize upd H4 p2 (.tup [.int (i : Int), .int (b : Int), .int (1), .ref fa]) = H5 at s5 T5 u5
      walk_at "x"
      refine ⟨by show 4 ≤ sizeLine; decide, fun p3 hp3 => ?_⟩
      obtain ⟨s6, T6⟩ := tk_put (i := j) (t := t) (c := c) (g := (some b)) s5 T5 hp3 (f := r) (hby0.tups (Tups.same u5))
      have u6 := u5.trans (same_upd (o := (.tup [.int (j : Int), .int (t : Int), .int (c), .ref r])) hp3)
      generalize upd H5 p3 (.tup [.int (j : Int), .int (t : Int), .int (c), .ref r]) = H6 at s6 T6 u6
      walk_at "x"
      refine ⟨by show 4 ≤ sizeLine; decide, fun p4 hp4 => ?_⟩
      obtain ⟨s7, T7⟩ := tk_put (i := l) (t := t) (c := -c) (g := (some b)) s6 T6 hp4 (f := r) (hby0.tups (Tups.same u6))
      have u7 := u6.trans (same_upd (o := (.tup [.int (l : Int), .int (t : Int), .int (-c), .ref r])) hp4)
      generalize upd H6 p4 (.tup [.int (l : Int), .int (t : Int), .int (-c), .ref r]) = H7 at s7 T7 u7
      walk_at "x"
      refine ⟨by show 4 ≤ sizeLine; decide, fun p5 hp5 => ?_⟩
      obtain ⟨s8, T8⟩ := tk_put (i := i) (t := b) (c := -1) (g := f) s7 T7 hp5 (f := fa) (hf0.tups (Tups.same u7))
      have u8 := u7.trans (same_upd (o := (.tup [.int (i : Int), .int (b : Int), .int (-1), .ref fa])) hp5)
      generalize upd H7 p5 (.tup [.int (i : Int), .int (b : Int), .int (-1), .ref fa]) = H8 at s8 T8 u8
      walk_at "x"
      refine ⟨by show 4 ≤ sizeLine; decide, fun p6 hp6 => ?_⟩
      obtain ⟨s9, T9⟩ := tk_put (i := j) (t := t) (c := -c) (g := (some b)) s8 T8 hp6 (f := r) (hby0.tups (Tups.same u8))
      have u9 := u8.trans (same_upd (o := (.tup [.int (j : Int), .int (t : Int), .int (-c), .ref r])) hp6)
      generalize upd H8 p6 (.tup [.int (j : Int), .int (t : Int), .int (-c), .ref r]) = H9 at s9 T9 u9
      walk_at "x"
      refine ⟨by show 4 ≤ sizeLine; decide, fun p7 hp7 => ?_⟩
      obtain ⟨s10, T10⟩ := tk_put (i := l) (t := t) (c := c) (g := (some b)) s9 T9 hp7 (f := r) (hby0.tups (Tups.same u9))
      have u10 := u9.trans (same_upd (o := (.tup [.int (l : Int), .int (t : Int), .int (c), .ref r])) hp7)
      generalize upd H9 p7 (.tup [.int (l : Int), .int (t : Int), .int (c), .ref r]) = H10 at s10 T10 u10
      walk_at "x"
      refine ⟨by show 7 ≤ sizeLine; decide, fun lo hl => ?_⟩
      have T := T10.tups (Tups.same (same_upd (o := .lst [.ref p1, .ref p2, .ref p3, .ref p4, .ref p5, .ref p6, .ref p7]) hl))
      exact q lo [p1, p2, p3, p4, p5, p6, p7] _ (s10.trans (same_upd hl)) (s10.free hl) upd_same (by unfold partsF; rw [hb]; exact T)


theorem bases_rg {m : Nat} {ns : List SN} (m1 : 1 ≤ m) (m9 : m ≤ 1000000000) : ∀ {x}, x ∈ basesF (m : Int) ns → 0 ≤ x.2 ∧ x.2 ≤ 1000000000 := by
  refine revRec (P := fun ns => ∀ {x}, x ∈ basesF (m : Int) ns → 0 ≤ x.2 ∧ x.2 ≤ 1000000000) (fun h => by simp [basesF, scanF] at h) (fun ns n ih => ?_) ns
  intro x hx
  have e : basesF (m : Int) (ns ++ [n]) = basesF (m : Int) ns ++ [base1 m (basesF (m : Int) ns) n] := scanF_snoc
  rw [e] at hx
  rcases List.mem_append.mp hx with hx | hx
  · exact ih hx
  · rw [List.mem_singleton.mp hx]
    cases n with
    | scl c i =>
      have h0 := Int.emod_nonneg (((basesF (m : Int) ns).getD i (0, 0)).2 * (c : Int)) (show (m : Int) ≠ 0 by omega)
      have h1 := Int.emod_lt_of_pos (((basesF (m : Int) ns).getD i (0, 0)).2 * (c : Int)) (show (0 : Int) < m by omega)
      exact ⟨h0, by show _ % _ ≤ _; omega⟩
    | _ => exact ⟨by show (0 : Int) ≤ 1; decide, by show (1 : Int) ≤ 1000000000; decide⟩
def sp_without_scaling (K : PySem.W.Frag) : Sp := fun vs H Q _ => ∃ (d t : Addr) (ns : List SN) (m : Nat), vs = [.ref t, .int (m : Int)] ∧ DAt d H (.ref t) (.tuple (ns.map snD)) ∧ SsOk ns ∧ 1 ≤ m ∧ m ≤ 1000000000 ∧
  ∀ (l : Addr) (as : List Addr) (H' : Hp), Same H H' → H l = none → H' l = some (.lst (as.map V.ref)) → BasL H' as (basesF m ns) → Q (.ref l) H'
theorem ok_without_scaling (T : Txt K mg) : FnOk P w K mg base CX0 1 T.a_without_scaling T.fd_without_scaling ["source", "modulus"] (sp_without_scaling K) := by
  refine T.F_without_scaling.ok sc_without_scaling (fun vs H Q E h => ?_) (fun cdv A outer s H vs Q E hr h => ?_)
  · obtain ⟨d, t, ns, m, rfl, _⟩ := h
    rfl
  · obtain ⟨d, t, ns, m, rfl, ht, ok, m1, m9, q⟩ := h
    have hl2 := ok.l2
    cases ht with
    | tup ha hs =>
      rename_i xs
      obtain ⟨as, rfl, hal, hat⟩ := sns_at hs
      refine ⟨_, (pss_cons (ps_set (i := 2) sc_without_scaling.nd rfl (.inl rfl) (pe_lst pa_nil))
      (pss_cons (ps_for PassesOwn.never rfl (pi_enumT (K2 := K) rfl (by rfl) T.m_enumerate (pa_cons (pv 0) pa_nil)) (pg_tup rfl (pgs_cons (pg_name (i := 3) sc_without_scaling.nd rfl (Or.inl rfl)) (pgs_cons (pg_name (i := 4) sc_without_scaling.nd rfl (Or.inl rfl)) pgs_nil)))
      (pss_one (ps_match (pv 4) (pcs_seq rfl op_eq (pcap_name 5 sc_without_scaling.nd rfl (.inl rfl) (pcap_name 6 sc_without_scaling.nd rfl (.inl rfl) pcap_nil))
      (pss_cons (ps_asg (pe_ix (r := rIxL K) ix_list (pv 2) (pv 6) (fun _ _ => rfl)) (pg_tup rfl (pgs_cons (pg_name (i := 7) sc_without_scaling.nd rfl (Or.inl rfl)) (pgs_cons (pg_name (i := 8) sc_without_scaling.nd rfl (Or.inl rfl)) pgs_nil))))
      (pss_one (ps_expr (pe_bm PySem.F.plainAttrs_list PySem.F.slot_list_append PySem.F.type_list_append mt_append (pv 2) (pa_cons (pe_tup (pa_cons (pv 7) (pa_cons (pe_op op_mod (pe_op op_mul (pv 8) (pv 5)) (pv 1)) pa_nil))) pa_nil)))))
      (pcs_else (rest := _) (pss_one (ps_expr (pe_bm PySem.F.plainAttrs_list PySem.F.slot_list_append PySem.F.type_list_append mt_append (pv 2) (pa_cons (pe_tup (pa_cons (pv 3) (pa_cons pe_int pa_nil))) pa_nil)))))))))
      (pss_one (ps_ret (pv 2))))), ?_⟩
      walk_at "start"
      walk_at "x"
      refine ⟨by show 0 ≤ sizeLine; decide, fun p hp => ?_⟩
      have s1 := same_upd (o := .lst []) hp
      have e1 : (upd H p (.lst [])) p = some (.lst (([] : List Addr).map V.ref)) := upd_same
      generalize upd H p (.lst []) = H1 at s1 e1
      walk_at "x"
      refine x_forI (J := IteT K t) (n := (as.map V.ref).length) (G := fun H => SqT K H t (as.map V.ref)) (fun R r => by unfold iEnumT; walk_at "x"; exact ⟨t, _, rfl, st_of (s1 _ _ ha), r⟩) walk_enumT
        (fun k σ' H' => ∃ v3 v4 v5 v6 v7 v8 bs, σ' = [some (.ref t), some (.int (m : Int)), some (.ref p), v3, v4, v5, v6, v7, v8] ∧ Same H H' ∧ H' p = some (.lst (bs.map V.ref)) ∧ BasL H' bs (basesF m (ns.take k))) ⟨_, _, _, _, _, _, [], rfl, s1, e1, BasL.nil⟩
        (fun k σ' H' _ z => by obtain ⟨_, _, _, _, _, _, _, _, z, _⟩ := z; exact st_of (z _ _ ha)) ?_ ?_
      · rintro k _ σ' H5 H6 hk ⟨v3, v4, v5, v6, v7, v8, bs, rfl, s5, e5, hB⟩ ⟨T, y, rfl, hT, rfl, hx⟩
        refine x_gTup2 (st_of upd_same) ?_
        obtain ⟨b, hb2, rfl⟩ := map_getR hx
        obtain ⟨n, hn⟩ : ∃ n, ns[k]? = some n := ⟨_, List.getElem?_eq_getElem (by rw [List.length_map] at hk; omega)⟩
        have okn := ok.ok k n hn
        have hkl := (List.getElem?_eq_some_iff.mp hn).1
        have u5 := same_upd (o := .tup [V.int (k : Nat), .ref b]) hT
        have s6 := s5.trans u5
        have e6 := u5 _ _ e5
        have hB := hB.tups (Tups.same u5)
        generalize upd H5 T (.tup [V.int (k : Nat), .ref b]) = H6 at s6 e6 hB
        have hb3 := s6 _ _ (hat k n b hn hb2)
        have hll : (basesF (m : Int) (ns.take k)).length = k := by
          have : (basesF (m : Int) (ns.take k)).length = (ns.take k).length := scanF_len
          rw [this, List.length_take]
          omega
        have hst : basesF (m : Int) (ns.take (k + 1)) = basesF (m : Int) (ns.take k) ++ [base1 m (basesF (m : Int) (ns.take k)) n] := by
          rw [take_snocG hn]
          exact scanF_snoc
        have hrg : ∀ {x}, x ∈ basesF (m : Int) (ns.take k) → 0 ≤ x.2 ∧ x.2 ≤ 1000000000 := fun h => bases_rg m1 m9 h
        have hbl := hB.1
        generalize basesF (m : Int) (ns.take k) = C at e6 hll hst hB hrg hbl
        have fin : ∀ (x : Nat × Int) (H7 : Hp) (r : Addr), Same H H7 → H7 p = some (.lst (bs.map V.ref)) → BasL H7 bs C → H7 r = none → base1 m C n = x →
            (∃ (zs : List V), (upd H7 r (.tup [.int (x.1 : Int), .int x.2])) p = some (.lst zs) ∧ zs.length + 1 ≤ 1000 ∧ ∃ bs2, zs ++ [.ref r] = bs2.map V.ref ∧ Same H (upd (upd H7 r (.tup [.int (x.1 : Int), .int x.2])) p (.lst (zs ++ [.ref r]))) ∧ BasL (upd (upd H7 r (.tup [.int (x.1 : Int), .int x.2])) p (.lst (zs ++ [.ref r]))) bs2 (basesF m (ns.take (k + 1)))) := fun x H7 r s7 e7 hB7 hr0 hx => by
          have u7 := same_upd (o := .tup [.int (x.1 : Int), .int x.2]) hr0
          have e8 := u7 _ _ e7
          refine ⟨_, e8, by rw [List.length_map, hbl, hll]; omega, bs ++ [r], by rw [List.map_append]; rfl, same_keep hp (s7.trans u7) keep_upd, ?_⟩
          rw [hst, hx]
          have hT : Tups (upd H7 r (.tup [.int (x.1 : Int), .int x.2])) (upd (upd H7 r (.tup [.int (x.1 : Int), .int x.2])) p (.lst (bs.map V.ref ++ [.ref r]))) := (Tups.refl _).put (no_tupL e8)
          exact ((hB7.tups (Tups.same u7)).tups hT).snoc (hT _ _ upd_same)
        walk_at "x"
        cases n with
        | con c =>
          have hb3 : H6 b = some (.tup [.str "const", .int (c : Int)]) := hb3
          refine x_caseNo (st_of hb3) (by show (2 : Nat) ≠ 3; decide) ?_
          refine x_else ?_
          walk_at "x"
          refine x_tyL e6 ?_
          walk_at "x"
          refine ⟨by show 2 ≤ sizeLine; decide, fun r hr0 => ?_⟩
          obtain ⟨zs, g1, g2, bs2, g3, g4, g5⟩ := fin (k, 1) H6 r s6 e6 hB hr0 (by show (C.length, (1 : Int)) = _; rw [hll])
          dsimp only at g1 g4 g5
          walk_at "x"
          refine x_app g1 (by omega) ?_
          walk_at "x"
          exact ⟨_, _, _, _, _, _, bs2, rfl, g4, by rw [upd_same, g3], g5⟩
        | inp c =>
          have hb3 : H6 b = some (.tup [.str "input", .int (c : Int)]) := hb3
          refine x_caseNo (st_of hb3) (by show (2 : Nat) ≠ 3; decide) ?_
          refine x_else ?_
          walk_at "x"
          refine x_tyL e6 ?_
          walk_at "x"
          refine ⟨by show 2 ≤ sizeLine; decide, fun r hr0 => ?_⟩
          obtain ⟨zs, g1, g2, bs2, g3, g4, g5⟩ := fin (k, 1) H6 r s6 e6 hB hr0 (by show (C.length, (1 : Int)) = _; rw [hll])
          dsimp only at g1 g4 g5
          walk_at "x"
          refine x_app g1 (by omega) ?_
          walk_at "x"
          exact ⟨_, _, _, _, _, _, bs2, rfl, g4, by rw [upd_same, g3], g5⟩
        | scl c i =>
          have hb3 : H6 b = some (.tup [.str "scaled", .int (c : Int), .int (i : Int)]) := hb3
          refine x_caseY (st_of hb3) rfl ?_
          walk_at "xb"
          have hi : i < k := okn.2
          obtain ⟨bb, hb4, hb5⟩ := hB.get (i := i) (by omega)
          refine x_ixL (v := .ref bb) (sq_of e6) (atI_nat (by rw [List.getElem?_map, hb4]; rfl)) ?_
          refine x_gTup2 (st_of hb5) ?_
          have hrg := hrg (x := C.getD i (0, 0)) (by rw [List.getD_eq_getElem?_getD, List.getElem?_eq_getElem (by omega)]; exact List.getElem_mem _)
          have hc := okn.1
          walk_at "x"
          refine x_tyL e6 ?_
          walk_at "x"
          refine ⟨by show 2 ≤ sizeLine; decide, fun r hr0 => ?_⟩
          obtain ⟨zs, g1, g2, bs2, g3, g4, g5⟩ := fin ((C.getD i (0, 0)).1, (C.getD i (0, 0)).2 * (c : Int) % (m : Int)) H6 r s6 e6 hB hr0 rfl
          dsimp only at g1 g4 g5
          walk_at "x"
          refine x_app g1 (by omega) ?_
          walk_at "x"
          exact ⟨_, _, _, _, _, _, bs2, rfl, g4, by rw [upd_same, g3], g5⟩
        | sum i j =>
          have hb3 : H6 b = some (.tup [.str "sum", .int (i : Int), .int (j : Int)]) := hb3
          refine x_caseW (st_of hb3) rfl (by decide) ?_
          refine x_else ?_
          walk_at "x"
          refine x_tyL e6 ?_
          walk_at "x"
          refine ⟨by show 2 ≤ sizeLine; decide, fun r hr0 => ?_⟩
          obtain ⟨zs, g1, g2, bs2, g3, g4, g5⟩ := fin (k, 1) H6 r s6 e6 hB hr0 (by show (C.length, (1 : Int)) = _; rw [hll])
          dsimp only at g1 g4 g5
          walk_at "x"
          refine x_app g1 (by omega) ?_
          walk_at "x"
          exact ⟨_, _, _, _, _, _, bs2, rfl, g4, by rw [upd_same, g3], g5⟩
        | prod i j =>
          have hb3 : H6 b = some (.tup [.str "product", .int (i : Int), .int (j : Int)]) := hb3
          refine x_caseW (st_of hb3) rfl (by decide) ?_
          refine x_else ?_
          walk_at "x"
          refine x_tyL e6 ?_
          walk_at "x"
          refine ⟨by show 2 ≤ sizeLine; decide, fun r hr0 => ?_⟩
          obtain ⟨zs, g1, g2, bs2, g3, g4, g5⟩ := fin (k, 1) H6 r s6 e6 hB hr0 (by show (C.length, (1 : Int)) = _; rw [hll])
          dsimp only at g1 g4 g5
          walk_at "x"
          refine x_app g1 (by omega) ?_
          walk_at "x"
          exact ⟨_, _, _, _, _, _, bs2, rfl, g4, by rw [upd_same, g3], g5⟩
        | cho i j l =>
          have hb3 : H6 b = some (.tup [.str "choose", .int (i : Int), .int (j : Int), .int (l : Int)]) := hb3
          refine x_caseNo (st_of hb3) (by show (4 : Nat) ≠ 3; decide) ?_
          refine x_else ?_
          walk_at "x"
          refine x_tyL e6 ?_
          walk_at "x"
          refine ⟨by show 2 ≤ sizeLine; decide, fun r hr0 => ?_⟩
          obtain ⟨zs, g1, g2, bs2, g3, g4, g5⟩ := fin (k, 1) H6 r s6 e6 hB hr0 (by show (C.length, (1 : Int)) = _; rw [hll])
          dsimp only at g1 g4 g5
          walk_at "x"
          refine x_app g1 (by omega) ?_
          walk_at "x"
          exact ⟨_, _, _, _, _, _, bs2, rfl, g4, by rw [upd_same, g3], g5⟩
      · rintro σ' H5 ⟨v3, v4, v5, v6, v7, v8, bs, rfl, s5, e5, hB⟩
        rw [List.length_map, hal, List.take_length] at hB
        walk_at "x"
        exact q p bs H5 s5 hp e5 hB


def sp_steps_of (K : PySem.W.Frag) : Sp := fun vs H Q _ => ∃ (d t : Addr) (ns : List SN) (m i : Nat), vs = [.ref t, .int (m : Int)] ∧ DAt d H (.ref t) (.tuple (ns.map snD)) ∧ SsOk ns ∧ 1 ≤ m ∧ m ≤ 1000000000 ∧ costF ns ≤ 20000 ∧ (∀ (j c : Nat), ns[j]? = some (SN.inp c) → c < i) ∧
  ∀ (l : Addr) (as : List Addr) (S : List Stp) (H' : Hp), Same H H' → H l = none → H' l = some (.lst (as.map V.ref)) → StpsAt H' as S → CompOk m ns i S → Q (.ref l) H'
theorem ok_steps_of (T : Txt K mg) : FnOk P w K mg base CX0 3 T.a_steps_of T.fd_steps_of ["source", "modulus"] (sp_steps_of K) := by
  refine T.F_steps_of.ok sc_steps_of (fun vs H Q E h => ?_) (fun cdv A outer s H vs Q E hr h => ?_)
  · obtain ⟨d, t, ns, m, i, rfl, _⟩ := h
    rfl
  · obtain ⟨d, t, ns, m, i, rfl, ht, ok, m1, m9, hc20, hin, q⟩ := h
    have hl2 := ok.l2
    have hl1 := ok.l1
    refine ⟨_, (pss_cons (ps_set (i := 2) sc_steps_of.nd rfl (.inl rfl) (pe_call (ok_without_scaling T) (hr.mono (by decide)) (by rfl) T.g_without_scaling T.F_without_scaling.kp T.b_without_scaling .nil pass0 (pa_cons (pv 0) (pa_cons (pv 1) pa_nil))))
      (pss_cons (ps_set (i := 3) sc_steps_of.nd rfl (.inl rfl) (pe_lst pa_nil))
      (pss_cons (ps_set (i := 4) sc_steps_of.nd rfl (.inl rfl) (pe_lst (pa_cons (pe_tup (pa_cons (pe_op op_sub (pe_callB (id := "len") (r := rLen K) cr_len (by rfl) T.m_len PySem.boot_len (pa_cons (pv 0) pa_nil)) pe_int) (pa_cons pe_int (pa_cons pe_int (pa_cons (pe_tup pa_nil) pa_nil))))) pa_nil)))
      (pss_cons (ps_while PassesOwn.never (pt_truth (pv 4) (by intro _; rfl))
      (pss_cons (ps_asg (pe_bm0 PySem.F.plainAttrs_list PySem.F.slot_list_pop PySem.F.type_list_pop mt_pop (pv 4)) (pg_tup rfl (pgs_cons (pg_name (i := 5) sc_steps_of.nd rfl (Or.inl rfl)) (pgs_cons (pg_name (i := 6) sc_steps_of.nd rfl (Or.inl rfl)) (pgs_cons (pg_name (i := 7) sc_steps_of.nd rfl (Or.inl rfl)) (pgs_cons (pg_name (i := 8) sc_steps_of.nd rfl (Or.inl rfl)) pgs_nil))))))
      (pss_cons (ps_asg (pe_ix (r := rIxL K) ix_list (pv 2) (pv 5) (fun _ _ => rfl)) (pg_tup rfl (pgs_cons (pg_name (i := 9) sc_steps_of.nd rfl (Or.inl rfl)) (pgs_cons (pg_name (i := 10) sc_steps_of.nd rfl (Or.inl rfl)) pgs_nil))))
      (pss_cons (ps_set (i := 7) sc_steps_of.nd rfl (.inl rfl) (pe_op op_mod (pe_op op_mul (pv 7) (pv 10)) (pv 1)))
      (pss_one (ps_match (pe_ix (r := rIxT K) ix_tup (pv 0) (pv 9) (fun _ _ => rfl)) (pcs_seq rfl op_eq (pcap_name 11 sc_steps_of.nd rfl (.inl rfl) pcap_nil)
      (pss_one (ps_expr (pe_bm PySem.F.plainAttrs_list PySem.F.slot_list_append PySem.F.type_list_append mt_append (pv 3) (pa_cons (pe_tup (pa_cons pe_str (pa_cons (pv 6) (pa_cons (pe_op op_mod (pe_op op_mul (pv 7) (pv 11)) (pv 1)) (pa_cons (pv 8) pa_nil))))) pa_nil))))
      (pcs_seq rfl op_eq (pcap_name 12 sc_steps_of.nd rfl (.inl rfl) pcap_nil)
      (pss_one (ps_expr (pe_bm PySem.F.plainAttrs_list PySem.F.slot_list_append PySem.F.type_list_append mt_append (pv 3) (pa_cons (pe_tup (pa_cons pe_str (pa_cons (pv 6) (pa_cons (pv 7) (pa_cons (pe_op (r := rCatA K) op_catA (pv 8) (pe_tup (pa_cons (pe_tup (pa_cons pe_str (pa_cons (pv 12) pa_nil))) pa_nil))) pa_nil))))) pa_nil))))
      (pcs_name (i := 13) (rest := _) sc_steps_of.nd rfl (.inl rfl) (pss_one (ps_expr (pe_bm PySem.F.plainAttrs_list PySem.F.slot_list_extend PySem.F.type_list_extend mt_extend (pv 4) (pa_cons (pe_revL (pe_call (ok_parts_of T) hr (by rfl) T.g_parts_of T.F_parts_of.kp T.b_parts_of .nil pass0 (pa_cons (pv 13) (pa_cons (pv 6) (pa_cons (pv 7) (pa_cons (pv 8) pa_nil)))))) pa_nil)))))))))))))
      (pss_one (ps_ret (pv 3))))))), ?_⟩
    walk_at "start"
    walk_at "x"
    refine ⟨d, t, ns, m, rfl, ht, ok, m1, m9, fun pb bas H1 s1 hpb hb1 hB1 => ?_⟩
    cases ht with
    | tup ha hs =>
      rename_i xs
      obtain ⟨as, rfl, hal, hat⟩ := sns_at hs
      walk_at "x"
      refine ⟨by show 0 ≤ sizeLine; decide, fun ps hps => ?_⟩
      have hps0 := s1.free hps
      have u2 := same_upd (o := .lst []) hps
      have s2 := s1.trans u2
      have e2 : (upd H1 ps (.lst [])) ps = some (.lst (([] : List Addr).map V.ref)) := upd_same
      have hb2 := u2 _ _ hb1
      have hB2 := hB1.tups (Tups.same u2)
      generalize upd H1 ps (.lst []) = H2 at s2 e2 hb2 hB2
      walk_at "x"
      refine x_lenT (st_of (s2 _ _ ha)) ?_
      walk_at "x"
      refine ⟨by show 0 ≤ sizeLine; decide, fun pf hpf => ?_⟩
      have u3 := same_upd (o := .tup []) hpf
      have s3 := s2.trans u3
      have e3 := u3 _ _ e2
      have hb3 := u3 _ _ hb2
      have hB3 := hB2.tups (Tups.same u3)
      have f3 : (upd H2 pf (.tup [])) pf = some (.tup []) := upd_same
      generalize upd H2 pf (.tup []) = H3 at s3 e3 hb3 hB3 f3
      walk_at "x"
      have hlast : ((as.map V.ref).length : Int) - 1 = ((ns.length - 1 : Nat) : Int) := by rw [List.length_map, hal]; omega
      rw [hlast]
      refine ⟨by show 4 ≤ sizeLine; decide, fun pk hpk => ?_⟩
      have u4 := same_upd (o := .tup [V.int ((ns.length - 1 : Nat) : Int), V.int 0, V.int 1, V.ref pf]) hpk
      have s4 := s3.trans u4
      have e4 := u4 _ _ e3
      have hb4 := u4 _ _ hb3
      have hB4 := hB3.tups (Tups.same u4)
      have f4 := u4 _ _ f3
      have k4 : TkAt (upd H3 pk (.tup [V.int ((ns.length - 1 : Nat) : Int), V.int 0, V.int 1, V.ref pf])) pk ⟨ns.length - 1, 0, 1, none⟩ := ⟨pf, upd_same, f4⟩
      generalize upd H3 pk (.tup [V.int ((ns.length - 1 : Nat) : Int), V.int 0, V.int 1, V.ref pf]) = H4 at s4 e4 hb4 hB4 f4 k4
      walk_at "x"
      refine ⟨by show 1 ≤ sizeLine; decide, fun pt hpt => ?_⟩
      have hpt0 := s4.free hpt
      have hbt : pb ≠ pt := ne_of_none hb4 hpt
      have hst : ps ≠ pt := ne_of_none e4 hpt
      have hbs : pb ≠ ps := ne_of_none hb1 hps
      have u5 := same_upd (o := .lst [V.ref pk]) hpt
      have s5 := s4.trans u5
      have e5 := u5 _ _ e4
      have hb5 := u5 _ _ hb4
      have hB5 := hB4.tups (Tups.same u5)
      have k5 := k4.tups (Tups.same u5)
      have t5 : (upd H4 pt (.lst [V.ref pk])) pt = some (.lst ([pk].map V.ref)) := upd_same
      generalize upd H4 pt (.lst [V.ref pk]) = H5 at s5 e5 hb5 hB5 k5 t5
      have hC0 := Cmp.init (m := m) (i := i) ok
      walk_at "x"
      refine x_while (fun k σ' H' => ∃ v5 v6 v7 v8 v9 v10 v11 v12 v13 sas tas S T, σ' = [some (.ref t), some (.int (m : Int)), some (.ref pb), some (.ref ps), some (.ref pt), v5, v6, v7, v8, v9, v10, v11, v12, v13] ∧ k = tksM ns T ∧ LoopAt H H' pb ps pt bas sas tas (basesF m ns) S T ∧ Cmp m ns i S T) _
        ⟨_, _, _, _, _, _, _, _, _, [], [pk], [], _, rfl, rfl, ⟨s5, hb5, hB5, e5, ⟨rfl, fun i x b h _ => by simp at h⟩, t5, TksAt.cons k5 TksAt.nil⟩, hC0⟩ ?_
      clear s1 s2 s3 s4 s5 u2 u3 u4 u5 e2 e3 e4 e5 hb1 hb2 hb3 hb4 hb5 hB1 hB2 hB3 hB4 hB5 f3 f4 k4 k5 t5 hC0 hlast hps hpf hpk hpt hpb
      rintro k σ' H1 ⟨v5, v6, v7, v8, v9, v10, v11, v12, v13, sas, tas, S, T, rfl, rfl, L1, hC⟩
      by_cases hT0 : tas = []
      · refine ⟨false, fun R r => ?_, (fun h => by cases h), fun _ => ?_⟩
        · walk_at "x"
          exact ⟨false, .inl ⟨_, sq_of L1.t, by rw [hT0]; rfl⟩, r⟩
        · have hT : T = [] := List.eq_nil_of_length_eq_zero (by rw [← L1.tk.1, hT0]; rfl)
          subst hT
          walk_at "x"
          exact q ps sas S H1 L1.same hps0 L1.e L1.st hC.done
      refine ⟨true, fun R r => ?_, fun _ => ?_, (fun h => by cases h)⟩
      · walk_at "x"
        refine ⟨true, .inl ⟨_, sq_of L1.t, ?_⟩, r⟩
        cases tas with
        | nil => exact absurd rfl hT0
        | cons a l => rfl
      obtain ⟨tas, T, b, k, rfl, rfl, hT2, _⟩ := L1.tk.last hT0
      obtain ⟨hkk, hlen⟩ := hC.pop
      have hmost := hC.most ok
      obtain ⟨bb, sc, n, hBa⟩ := bases_at m1 m9 ok hkk.lt
      walk_at "x"
      refine ⟨_, rfl, x_tyL L1.t ⟨pt, _, .ref b, rfl, rfl, L1.t, by rw [List.map_append, List.length_append, List.getElem?_append_right (by simp)]; simp, ?_⟩⟩
      obtain ⟨L2, f, hk, hf⟩ := L1.pop hpt0 hbt hst hT2.1
      generalize upd H1 pt (.lst ((tas ++ [b]).map V.ref).dropLast) = H2 at L2 hk hf
      refine x_gTup4 (st_of hk) ?_
      walk_at "x"
      have hbl : (basesF (m : Int) ns).length = ns.length := scanF_len
      obtain ⟨br, hbr1, hbr2⟩ := L2.B.get (i := k.at_) (by have := hkk.lt; omega)
      rw [hBa.e] at hbr2
      refine x_ixL (v := .ref br) (sq_of L2.hb) (atI_nat (by rw [List.getElem?_map, hbr1]; rfl)) ?_
      refine x_gTup2 (st_of hbr2) ?_
      have c0 := hkk.c0
      have c1 := hkk.c1
      have sc0 := hBa.s0
      have sc1 := hBa.s1
      have cc := coef_ok (m := m) (c := k.c * sc) m1
      have hbi := (List.getElem?_eq_some_iff.mp hBa.nd).1
      obtain ⟨an, han⟩ : ∃ an, as[bb]? = some an := ⟨_, List.getElem?_eq_getElem (by omega)⟩
      have hnn := L2.same _ _ (hat bb n an hBa.nd han)
      have okn := ok.ok bb n hBa.nd
      walk_at "x"
      refine x_ixT (v := .ref an) (st_of (L2.same _ _ ha)) (atI_nat (by rw [List.getElem?_map, han]; rfl)) ?_
      obtain ⟨fas, hfa, hfs, hf1⟩ := hf.facs
      have hpop := tksM_pop ok hC
      have hsl : sas.length ≤ 20000 := by have := L2.st.1; omega
      have htl : tas.length ≤ 20000 := by have := L2.tk.1; rw [List.length_append] at hmost; omega
      generalize hc2 : k.c * sc % (m : Int) = c2 at *
      cases n with
      | con c =>
        have hnn : H2 an = some (.tup [.str "const", .int (c : Int)]) := hnn
        have hc : c < 1000000000 := okn
        refine x_caseY (st_of hnn) rfl ?_
        walk_at "xb"
        refine x_tyL L2.e ?_
        walk_at "x"
        refine ⟨by show 4 ≤ sizeLine; decide, fun r hr0 => ?_⟩
        have u3 := same_upd (o := .tup [V.str "add", V.int (k.t : Int), V.int (c2 * (c : Int) % (m : Int)), V.ref f]) hr0
        have r3 : (upd H2 r (.tup [V.str "add", V.int (k.t : Int), V.int (c2 * (c : Int) % (m : Int)), V.ref f])) r = some (.tup [V.str "add", V.int (k.t : Int), V.int (c2 * (c : Int) % (m : Int)), V.ref f]) := upd_same
        generalize upd H2 r (.tup [V.str "add", V.int (k.t : Int), V.int (c2 * (c : Int) % (m : Int)), V.ref f]) = H3 at u3 r3
        have L3 := L2.next u3
        have st3 : StpAt H3 r (.add k.t (c2 * (c : Int) % (m : Int)) (facsF k.f)) := (hfs.tups (Tups.same u3)).stp (u3 _ _ hfa) r3
        have hC2 := hC.con m1 ok hBa
        rw [hc2] at hC2
        walk_at "x"
        refine x_app L3.e (by rw [List.length_map]; omega) ?_
        walk_at "x"
        exact ⟨_, hpop, _, _, _, _, _, _, _, _, _, _, _, _, _, rfl, rfl, L3.step hps0 hbs hst st3, hC2⟩
      | inp c =>
        have hnn : H2 an = some (.tup [.str "input", .int (c : Int)]) := hnn
        refine x_caseW (st_of hnn) rfl (by decide) ?_
        refine x_caseY (st_of hnn) rfl ?_
        walk_at "xb"
        refine x_tyL L2.e ?_
        walk_at "x"
        refine ⟨by show 2 ≤ sizeLine; decide, fun r hr0 => ?_⟩
        have u3 := same_upd (o := .tup [V.str "input", V.int (c : Int)]) hr0
        have r3 : (upd H2 r (.tup [V.str "input", V.int (c : Int)])) r = some (.tup [V.str "input", V.int (c : Int)]) := upd_same
        generalize upd H2 r (.tup [V.str "input", V.int (c : Int)]) = H3 at u3 r3
        walk_at "x"
        refine ⟨by show 1 ≤ sizeLine; decide, fun r1 hr1 => ?_⟩
        have u4 := same_upd (o := .tup [V.ref r]) hr1
        have r4 : (upd H3 r1 (.tup [V.ref r])) r1 = some (.tup [V.ref r]) := upd_same
        have r3 := u4 _ _ r3
        have u4 := u3.trans u4
        generalize upd H3 r1 (.tup [V.ref r]) = H4 at u4 r4 r3
        walk_at "x"
        refine x_catA (u4 _ _ hfa) r4 (by rw [List.length_map]; show _ + 1 ≤ 1000000; omega) fun r2 H5 s5 e5 => ?_
        have u5 := u4.trans s5
        have fs5 : FacsAt H5 (fas ++ [r]) (facsF k.f ++ [.inp c]) := (hfs.tups (Tups.same u5)).snoc (s5 _ _ r3)
        have e5 : H5 r2 = some (.tup ((fas ++ [r]).map V.ref)) := by rw [e5, List.map_append]; rfl
        walk_at "x"
        refine ⟨by show 4 ≤ sizeLine; decide, fun r5 hr5 => ?_⟩
        have u6 := same_upd (o := .tup [V.str "add", V.int (k.t : Int), V.int c2, V.ref r2]) hr5
        have r6 : (upd H5 r5 (.tup [V.str "add", V.int (k.t : Int), V.int c2, V.ref r2])) r5 = some (.tup [V.str "add", V.int (k.t : Int), V.int c2, V.ref r2]) := upd_same
        generalize upd H5 r5 (.tup [V.str "add", V.int (k.t : Int), V.int c2, V.ref r2]) = H6 at u6 r6
        have L6 := L2.next (u5.trans u6)
        have st6 : StpAt H6 r5 (.add k.t c2 (facsF k.f ++ [.inp c])) := (fs5.tups (Tups.same u6)).stp (u6 _ _ e5) r6
        have hC2 := hC.inp m1 ok hin hBa
        rw [hc2] at hC2
        walk_at "x"
        refine x_app L6.e (by rw [List.length_map]; omega) ?_
        walk_at "x"
        exact ⟨_, hpop, _, _, _, _, _, _, _, _, _, _, _, _, _, rfl, rfl, L6.step hps0 hbs hst st6, hC2⟩
      | scl c p =>
        have := hBa.nsc
        cases this
      | sum p q =>
        refine x_caseNo (st_of hnn) (by show (3 : Nat) ≠ 2; decide) ?_
        refine x_caseNo (st_of hnn) (by show (3 : Nat) ≠ 2; decide) ?_
        refine x_nameC ?_
        walk_at "x"
        refine x_tyL L2.t ?_
        refine x_revL2 ?_
        walk_at "x"
        have hC2 := hC.node m1 m9 ok hBa rfl
        have hM := tksM_node ok hC hBa rfl
        have p7 := (parts_cost (ns := ns) (t := k.t) (c := c2) (f := k.f) hBa.nsc rfl).2.2
        rw [hc2] at hC2 hM
        refine ⟨an, f, .sum p q, k.t, c2, k.f, rfl, hnn, rfl, rfl, hf, hkk.t3, hkk.f3, cc.1, by omega, fun l bs H3 s3 hl0 hl hT => ?_⟩
        have L3 := L2.next s3
        refine ⟨l, _, rfl, sq_of hl, fun p2 hp2 => ?_⟩
        have u4 := same_upd (o := .lst (bs.map V.ref).reverse) hp2
        have r4 : (upd H3 p2 (.lst (bs.map V.ref).reverse)) p2 = some (.lst (bs.reverse.map V.ref)) := by rw [upd_same, List.map_reverse]
        have T4 := (hT.tups (Tups.same u4)).rev
        generalize upd H3 p2 (.lst (bs.map V.ref).reverse) = H4 at u4 r4 T4
        have L4 := L3.next u4
        walk_at "x"
        refine ⟨pt, p2, _, _, rfl, rfl, L4.t, r4, ?_, ?_⟩
        · have := hT.1
          rw [List.length_map, List.length_map, List.length_reverse]
          exact Nat.le_trans (show _ ≤ 30000 by omega) (by decide)
        walk_at "x"
        exact ⟨_, hM, _, _, _, _, _, _, _, _, _, _, _, _, _, rfl, rfl, L4.push hpt0 hbt hst T4, hC2⟩
      | prod p q =>
        refine x_caseNo (st_of hnn) (by show (3 : Nat) ≠ 2; decide) ?_
        refine x_caseNo (st_of hnn) (by show (3 : Nat) ≠ 2; decide) ?_
        refine x_nameC ?_
        walk_at "x"
        refine x_tyL L2.t ?_
        refine x_revL2 ?_
        walk_at "x"
        have hC2 := hC.node m1 m9 ok hBa rfl
        have hM := tksM_node ok hC hBa rfl
        have p7 := (parts_cost (ns := ns) (t := k.t) (c := c2) (f := k.f) hBa.nsc rfl).2.2
        rw [hc2] at hC2 hM
        refine ⟨an, f, .prod p q, k.t, c2, k.f, rfl, hnn, rfl, rfl, hf, hkk.t3, hkk.f3, cc.1, by omega, fun l bs H3 s3 hl0 hl hT => ?_⟩
        have L3 := L2.next s3
        refine ⟨l, _, rfl, sq_of hl, fun p2 hp2 => ?_⟩
        have u4 := same_upd (o := .lst (bs.map V.ref).reverse) hp2
        have r4 : (upd H3 p2 (.lst (bs.map V.ref).reverse)) p2 = some (.lst (bs.reverse.map V.ref)) := by rw [upd_same, List.map_reverse]
        have T4 := (hT.tups (Tups.same u4)).rev
        generalize upd H3 p2 (.lst (bs.map V.ref).reverse) = H4 at u4 r4 T4
        have L4 := L3.next u4
        walk_at "x"
        refine ⟨pt, p2, _, _, rfl, rfl, L4.t, r4, ?_, ?_⟩
        · have := hT.1
          rw [List.length_map, List.length_map, List.length_reverse]
          exact Nat.le_trans (show _ ≤ 30000 by omega) (by decide)
        walk_at "x"
        exact ⟨_, hM, _, _, _, _, _, _, _, _, _, _, _, _, _, rfl, rfl, L4.push hpt0 hbt hst T4, hC2⟩
      | cho p q l =>
        refine x_caseNo (st_of hnn) (by show (4 : Nat) ≠ 2; decide) ?_
        refine x_caseNo (st_of hnn) (by show (4 : Nat) ≠ 2; decide) ?_
        refine x_nameC ?_
        walk_at "x"
        refine x_tyL L2.t ?_
        refine x_revL2 ?_
        walk_at "x"
        have hC2 := hC.node m1 m9 ok hBa rfl
        have hM := tksM_node ok hC hBa rfl
        have p7 := (parts_cost (ns := ns) (t := k.t) (c := c2) (f := k.f) hBa.nsc rfl).2.2
        rw [hc2] at hC2 hM
        refine ⟨an, f, .cho p q l, k.t, c2, k.f, rfl, hnn, rfl, rfl, hf, hkk.t3, hkk.f3, cc.1, by omega, fun lq bs H3 s3 hl0 hl hT => ?_⟩
        have L3 := L2.next s3
        refine ⟨lq, _, rfl, sq_of hl, fun p2 hp2 => ?_⟩
        have u4 := same_upd (o := .lst (bs.map V.ref).reverse) hp2
        have r4 : (upd H3 p2 (.lst (bs.map V.ref).reverse)) p2 = some (.lst (bs.reverse.map V.ref)) := by rw [upd_same, List.map_reverse]
        have T4 := (hT.tups (Tups.same u4)).rev
        generalize upd H3 p2 (.lst (bs.map V.ref).reverse) = H4 at u4 r4 T4
        have L4 := L3.next u4
        walk_at "x"
        refine ⟨pt, p2, _, _, rfl, rfl, L4.t, r4, ?_, ?_⟩
        · have := hT.1
          rw [List.length_map, List.length_map, List.length_reverse]
          exact Nat.le_trans (show _ ≤ 30000 by omega) (by decide)
        walk_at "x"
        exact ⟨_, hM, _, _, _, _, _, _, _, _, _, _, _, _, _, rfl, rfl, L4.push hpt0 hbt hst T4, hC2⟩


theorem needF_in {ns : List SN} (j c : Nat) (h : ns[j]? = some (SN.inp c)) : c < needF ns := by
  have hm : c + 1 ∈ needL ns := List.mem_filterMap.mpr ⟨_, List.mem_of_getElem? h, rfl⟩
  exact (foldr_max (cs := needL ns) (t := 0)).2.1 _ hm
theorem needF_60 {ns : List SN} (ok : SsOk ns) : needF ns ≤ 60 := by
  have h : ∀ ls : List Nat, (∀ x, x ∈ ls → x ≤ 60) → ls.foldr max 0 ≤ 60 := by
    intro ls
    induction ls with
    | nil => intro _; show 0 ≤ 60; decide
    | cons a ls ih =>
      intro h
      have h1 := h a List.mem_cons_self
      have h2 := ih fun x hx => h x (List.mem_cons_of_mem _ hx)
      show max a (ls.foldr max 0) ≤ 60
      omega
  refine h _ fun x hx => ?_
  obtain ⟨n, hn, he⟩ := List.mem_filterMap.mp hx
  obtain ⟨i, hi⟩ := List.mem_iff_getElem?.mp hn
  have := ok.ok i n hi
  cases n with
  | inp k =>
    have e : k + 1 = x := Option.some.inj he
    have : k < 60 := this
    omega
  | _ => cases he
theorem src_sh2 {ns : List SN} : Sh (.tuple (ns.map snD)) := (ShN.tup (sns_sh (m := 3))).sh (by decide)
theorem modB2 {v : V} (h : (isB v 1000000001 && !isB v 2) = true) : ∃ m : Nat, v = .int (m : Int) ∧ 2 ≤ m ∧ m ≤ 1000000000 := by
  rw [Bool.and_eq_true] at h
  obtain ⟨h1, h2⟩ := h
  cases v with
  | int i =>
    have h1 : (decide (0 ≤ i) && decide (i < 1000000001)) = true := h1
    have h2 : (!(decide (0 ≤ i) && decide (i < 2))) = true := h2
    rw [Bool.and_eq_true, decide_eq_true_iff, decide_eq_true_iff] at h1
    rw [decide_eq_true h1.1, Bool.true_and, Bool.not_eq_true', decide_eq_false_iff_not] at h2
    exact ⟨i.toNat, by rw [show ((i.toNat : Nat) : Int) = i by omega], by omega, by omega⟩
  | _ => cases h1
def sp_compile_source (CS CT CL C : Addr) (K : PySem.W.Frag) : Sp := fun vs H Q E => ∃ (d : Addr) (v mv : V) (e : PyData), vs = [v, mv] ∧ DAt d H v e ∧ Sh e ∧ Odd H mv ∧
  (sourceD e = false → ∀ H', Same H H' → E (.ref CS) none H') ∧
  (sourceD e = true → (isB mv 1000000001 && !isB mv 2) = false → ∀ H', Same H H' → E (.ref CT) none H') ∧
  (∀ (ns : List SN) (m : Nat), e = .tuple (ns.map snD) → SsOk ns → mv = .int (m : Int) → 2 ≤ m → m ≤ 1000000000 →
    (20000 < costF ns → ∀ H', Same H H' → E (.ref CL) none H') ∧
    (costF ns ≤ 20000 → ∀ p L as S H', H L = none → Same H H' → PrAt K C H' p L as S m 3 (needF ns) → CompOk m ns (needF ns) S → PrOk S m 3 (needF ns) → Q (.ref p) H'))
theorem ok_compile_source (T : Txt K mg) : FnOk P w K mg base (L2.CX P w) 8 T.a_compile_source T.fd_compile_source ["source", "modulus"] (sp_compile_source T.E_BadSource T.E_BadStep T.E_TooLong T.C_Program K) := by
  refine T.F_compile_source.okX sc_compile_source (fun vs H Q E h => ?_) (fun cdv A outer s H vs Q E hr h => ?_)
  · obtain ⟨d, v, mv, e, rfl, _⟩ := h
    rfl
  · obtain ⟨d, v, mv, e, rfl, hv, hsh, hm, hS, hT, hQ⟩ := h
    have hC : PC K T.C_Program := ⟨T.cl_Program, T.na_Program_modulus, T.na_Program_cells, T.na_Program_inputs, T.na_Program_steps⟩
    refine ⟨_, (pss_cons (ps_expr (pe_call (ok_check_source T) (hr.mono (by decide)) (by rfl) T.g_check_source T.F_check_source.kp T.b_check_source .nil (passes_call (takes_of rfl rfl rfl rfl) (fun _ _ _ _ h => h)) (pa_cons (pv 0) pa_nil)))
      (pss_cons (ps_if (pt_not (pt_val (pe_call (ok_is_modulus T) (hr.mono (by decide)) (by rfl) T.g_is_modulus T.F_is_modulus.kp T.b_is_modulus .nil pass0 (pa_cons (pv 1) pa_nil))))
      (pss_one (ps_raise rfl (takes_of rfl rfl rfl rfl) (pmk_own PySem.F.excBase_ValueError T.xE_BadStep T.gE_BadStep T.kE_BadStep (raises_own T.bE_BadStep T.tE_BadStep) (by exact rfl))))
      pss_nil)
      (pss_cons (ps_if (pt_cmpR op_gt (pe_call (ok_cost T) (hr.mono (by decide)) (by rfl) T.g_cost T.F_cost.kp T.b_cost .nil (passes_call (takes_of rfl rfl rfl rfl) (fun _ _ _ _ h => h)) (pa_cons (pv 0) pa_nil)) (pe_glob (v := .int 20000) (by rfl) T.c_MOST_STEPS ⟨_, rfl⟩) (nomark _))
      (pss_one (ps_raise rfl (takes_of rfl rfl rfl rfl) (SkE.pmk_own1 PySem.F.excBase_ValueError T.xE_TooLong T.gE_TooLong T.kE_TooLong (raises_own T.bE_TooLong T.tE_TooLong) (by exact rfl) (pe_joined (PJ.cons pe_str (PJ.cons (pe_fmt (pe_glob (v := .int 20000) (by rfl) T.c_MOST_STEPS ⟨_, rfl⟩)) (PJ.cons pe_str PJ.nil)))))))
      pss_nil)
      (pss_one (ps_ret (pe_make T.mk_Program (ok_Program___init T) (hr.mono (by decide)) (by rfl) T.gc_Program T.b_Program___init .nil pass0 (pa_cons (pv 1) (pa_cons (pe_glob (v := .int 3) (by rfl) T.c_CELLS ⟨_, rfl⟩) (pa_cons (pe_call (ok_needs T) (hr.mono (by decide)) (by rfl) T.g_needs T.F_needs.kp T.b_needs .nil (passes_call (takes_of rfl rfl rfl rfl) (fun _ _ _ _ h => h)) (pa_cons (pv 0) pa_nil)) (pa_cons (pe_call (ok_steps_of T) (hr.mono (by decide)) (by rfl) T.g_steps_of T.F_steps_of.kp T.b_steps_of .nil pass0 (pa_cons (pv 0) (pa_cons (pv 1) pa_nil))) pa_nil)))))))))), ?_⟩
    walk_at "start"
    walk_at "x"
    refine ⟨d, v, e, rfl, hv, hsh, hS, fun hse H1 s1 => ?_⟩
    obtain ⟨ns, rfl, hok⟩ := sourceD_iff.mp hse
    obtain ⟨t, rfl⟩ : ∃ t, v = .ref t := by cases hv; exact ⟨_, rfl⟩
    walk_at "x"
    refine ⟨mv, rfl, hm.same s1, ?_⟩
    walk_at "x"
    refine x_iteBN (fun h2 => ?_) (fun h2 => ?_)
    · walk_at "x"
      exact hT hse h2 H1 s1
    obtain ⟨m, rfl, m2, m9⟩ := modB2 h2
    obtain ⟨hL, hQ⟩ := hQ ns m rfl hok rfl m2 m9
    walk_at "x"
    refine ⟨d, .ref t, .tuple (ns.map snD), rfl, DAt.same s1 _ hv, hsh, (fun h => by rw [hse] at h; cases h), fun ns2 he hok2 H2 s2 => ?_⟩
    obtain rfl : ns = ns2 := sns_inj (PyData.tuple.inj he)
    have s2 := s1.trans s2
    walk_at "x"
    refine x_ite (fun h3 => ?_) (fun h3 => ?_)
    · walk_at "x"
      refine ⟨_, rfl, by show (Str.empty ++ _).length ≤ _; rw [Str.length_append]; exact Nat.le_of_ble_eq_true rfl, ?_⟩
      refine x_fmt ?_
      refine .inr ⟨_, rfl, log_nat (n := 20000) (by omega), ⟨_, rfl, ?_, _, rfl, ?_, hL (by omega) H2 s2⟩⟩
      · rw [Str.length_append]
        have := len_nat (n := 20000) (by omega)
        exact Nat.le_trans (Nat.add_le_add_left this _) (Nat.le_of_ble_eq_true rfl)
      · rw [Str.length_append, Str.length_append]
        have := len_nat (n := 20000) (by omega)
        exact Nat.le_trans (Nat.add_le_add_right (Nat.add_le_add_left this _) _) (Nat.le_of_ble_eq_true rfl)
    have hle : costF ns ≤ 20000 := by omega
    have hQ := hQ hle
    walk_at "x"
    refine x_make1 ?_
    walk_at "x"
    refine ⟨d, .ref t, .tuple (ns.map snD), rfl, DAt.same s2 _ hv, hsh, (fun h => by rw [hse] at h; cases h), fun ns2 he hok2 H3 s3 => ?_⟩
    obtain rfl : ns = ns2 := sns_inj (PyData.tuple.inj he)
    have s3 := s2.trans s3
    walk_at "x"
    refine ⟨d, t, ns, m, needF ns, rfl, DAt.same s3 _ hv, hok, by omega, m9, hle, needF_in, fun l as S H4 s4 hl0 hl hst hco => ?_⟩
    have s4 := s3.trans s4
    have okp : PrOk S m 3 (needF ns) := ⟨m2, m9, by decide, by decide, needF_60 hok, by rw [hco.len]; exact hle, hco.ok⟩
    walk_at "x"
    exact new_prog hC hl hst okp fun p' L' H' hL' s5 hP' => hQ p' L' as S H' (s4.free hL') (s4.trans s5) hP' hco okp


end
end Br
namespace Br
open PySem PySem.Spec PyProof.Rows L2
local macro_rules | `(tactic| walk_at "x1") => `(tactic| (with_reducible first
  | refine Br.x_seq ?_ | refine Br.x_set ?_ | refine Br.x_asg ?_ | refine Br.x_next ?_ | refine Br.x_ret ?_ | refine Br.x_retN ?_ | refine Br.x_drop ?_ | refine Br.x_if ?_ | refine Br.x_brk ?_ | refine Br.x_cont ?_
  | refine Br.x_c ?_ | refine Br.x_op ?_ | refine Br.x_un ?_ | refine Br.x_I0 ?_ | refine Br.x_U ?_ | refine Br.x_EqI ?_ | refine Br.x_NeI ?_ | refine Br.x_EqB ?_ | refine Br.x_iN ?_ | refine Br.x_int1 ?_ | refine Br.x_min2 ?_ | refine Br.x_max2 ?_ | refine Br.x_nN ?_ | refine Br.x_ifE ?_
  | refine Br.x_test (b := ()) ?_ | refine Br.x_tB ?_ | refine Br.x_bl ?_ | refine Br.x_and ?_ | refine Br.x_or ?_ | refine Br.x_not ?_ | refine Br.x_andV ?_ | refine Br.x_orV ?_ | refine Br.x_notV ?_ | refine Br.x_blP ?_
  | refine Br.x_nil ?_ | refine Br.x_cons ?_ | refine Br.x_call ?_ | refine Br.x_CB ?_ | refine Br.x_BM ?_ | refine Br.x_tup ?_ | refine Br.x_lst ?_ | refine Br.x_chain ?_ | refine Br.x_par ?_ | refine Br.x_gSub ?_ | refine Br.x_gName ?_ | refine Br.x_fld ?_ | refine Br.x_fldS ?_ | refine Br.x_match ?_ | refine Br.x_else ?_ | refine Br.x_noCase ?_))
local macro_rules | `(tactic| walk_at "xv") => `(tactic| ((with_reducible refine' Br.x_var ?hvar ?_); (case hvar => rfl)))
local macro_rules | `(tactic| walk_at "xd") => `(tactic| (dsimp only [List.set_cons_zero, List.set_cons_succ, List.cons_append, List.nil_append, List.append_nil]))
local macro_rules | `(tactic| walk_at "xi") => `(tactic| ((with_reducible refine Br.x_I ?hside ?_); (case hside => first | exact Br.mul_r (by decide) (by decide) | exact Br.mul_l (by decide) (by decide) | exact Br.mul_l (by omega) (by omega) | exact Br.mul_r (by omega) (by omega) | (show (0 : Int) < _; first | decide | omega) | exact ⟨by decide, by decide⟩ | exact ⟨by omega, by omega⟩ | exact ⟨by decide, by decide, by decide⟩)))
local macro_rules | `(tactic| walk_at "x") => `(tactic| (repeat (first | walk_at "x1" | walk_at "xv" | walk_at "xi" | walk_at "xd")))
local macro_rules | `(tactic| walk_at "start") => `(tactic| (simp only [L2.start, List.map_cons, List.map_nil, List.length_cons, List.length_nil, Nat.reduceAdd, Nat.reduceSub, List.replicate, List.cons_append, List.nil_append, List.append_nil]))
local macro_rules | `(tactic| walk_at "isi") => `(tactic| first
  | refine Br.x_isi (b := true) (.base (.int _)) (by decide +kernel) ?_ | refine Br.x_isi (b := false) (.base (.int _)) (by decide +kernel) ?_
  | refine Br.x_isi (b := true) (.base (.bl _)) (by decide +kernel) ?_ | refine Br.x_isi (b := false) (.base (.bl _)) (by decide +kernel) ?_
  | refine Br.x_isi (b := false) (.base .non) (by decide +kernel) ?_
  | refine Br.x_isi (b := true) (.base (.str _)) (by decide +kernel) ?_ | refine Br.x_isi (b := false) (.base (.str _)) (by decide +kernel) ?_
  | refine Br.x_isi (b := true) (.base (.tup (by assumption))) (by decide +kernel) ?_ | refine Br.x_isi (b := false) (.base (.tup (by assumption))) (by decide +kernel) ?_
  | refine Br.x_isi (b := true) (.base (.lst (by assumption))) (by decide +kernel) ?_ | refine Br.x_isi (b := false) (.base (.lst (by assumption))) (by decide +kernel) ?_)
local macro_rules | `(tactic| walk_at "f") => `(tactic| (refine L2.iteF ?_; walk_at "x"))
local macro_rules | `(tactic| walk_at "t") => `(tactic| (refine L2.iteT ?_; walk_at "x"))
local macro_rules | `(tactic| walk_at "is") => `(tactic| (walk_at "isi"; walk_at "x"))
local macro_rules | `(tactic| walk_at "xb") => `(tactic| (simp only [Br.bindS, List.set_cons_zero, List.set_cons_succ]; walk_at "x"))

section
variable {P : Program} {w : World} {K : PySem.W.Frag} {mg : Str → Option Value} {base : Heap}


def sp_law_equal (n : Nat) (K : PySem.W.Frag) : Sp := fun vs H Q _ => ∃ v u, vs = [v, u] ∧ Eqv K H n v u ∧ Q (.bl true) H
def sp_law_all_equal (n : Nat) (K : PySem.W.Frag) : Sp := fun vs H Q _ => ∃ (a b : Addr) (xs ys : List V), vs = [.ref a, .ref b] ∧ ((H a = some (.lst xs) ∧ H b = some (.lst ys)) ∨ (H a = some (.tup xs) ∧ H b = some (.tup ys))) ∧ xs.length = ys.length ∧ ys.length ≤ 100000 ∧ (∀ (i : Nat) x y, xs[i]? = some x → ys[i]? = some y → Eqv K H n x y) ∧ Q (.bl true) H
theorem x_ixQ {K : PySem.W.Frag} {H : Hp} {a b : Addr} {xs ys : List V} {i : Int} {v : V} {Q : VK} (h : (H a = some (.lst xs) ∧ H b = some (.lst ys)) ∨ (H a = some (.tup xs) ∧ H b = some (.tup ys))) (hi : atI xs i = some v) (q : Q v H) : rIx K (.ref a) (.int i) H Q := by
  rcases h with h | h
  · exact .inl (x_ixL (sq_of h.1) hi q)
  · exact .inr (.inl (x_ixT (st_of h.1) hi q))
theorem x_ixQ2 {K : PySem.W.Frag} {H : Hp} {a b : Addr} {xs ys : List V} {i : Int} {v : V} {Q : VK} (h : (H a = some (.lst xs) ∧ H b = some (.lst ys)) ∨ (H a = some (.tup xs) ∧ H b = some (.tup ys))) (hi : atI ys i = some v) (q : Q v H) : rIx K (.ref b) (.int i) H Q := by
  rcases h with h | h
  · exact .inl (x_ixL (sq_of h.2) hi q)
  · exact .inr (.inl (x_ixT (st_of h.2) hi q))
theorem all_equal_of (T : Txt K mg) (n : Nat) (G_law_equal : FnOk P w K mg base CX0 (2 * n + 1) T.a_law_equal T.fd_law_equal ["actual", "due"] (sp_law_equal n K)) : FnOk P w K mg base CX0 (2 * n + 2) T.a_law_all_equal T.fd_law_all_equal ["actual", "due"] (sp_law_all_equal n K) := by
  refine T.F_law_all_equal.ok sc_law_all_equal (fun vs H Q E h => ?_) (fun cdv A outer s H vs Q E hr h => ?_)
  · obtain ⟨a, b, xs, ys, rfl, _⟩ := h
    rfl
  · obtain ⟨a, b, xs, ys, rfl, hab, hl, hz, he, q⟩ := h
    refine ⟨_, (pss_cons (ps_for PassesOwn.never rfl (pi_range1 (by rfl) T.m_range (pa_cons (pe_callB (id := "len") (r := rLen K) cr_len (by rfl) T.m_len PySem.boot_len (pa_cons (pv 1) pa_nil)) pa_nil)) (pg_name (i := 2) sc_law_all_equal.nd rfl (Or.inl rfl))
      (pss_one (ps_if (pt_not (pt_val (pe_call G_law_equal (hr.mono (by omega)) (by rfl) T.g_law_equal T.F_law_equal.kp T.b_law_equal .nil pass0 (pa_cons (pe_ix (r := rIx K) ix_seq (pv 0) (pv 2) (fun _ _ => rfl)) (pa_cons (pe_ix (r := rIx K) ix_seq (pv 1) (pv 2) (fun _ _ => rfl)) pa_nil)))))
      (pss_one (ps_ret pe_bl))
      pss_nil)))
      (pss_one (ps_ret pe_bl))), ?_⟩
    walk_at "start"
    refine x_forR1 (ys.length : Int) (fun i σ' H' => H = H' ∧ ∃ v2, σ' = [some (.ref a), some (.ref b), v2]) (fun R r => by
      walk_at "x"
      rcases hab with h | h
      · refine x_len (sq_of h.2) ?_
        exact r
      · refine x_lenT (st_of h.2) ?_
        exact r) (by omega) (by omega) ⟨rfl, _, rfl⟩ ?_ ?_
    · rintro i σ' H' hi ⟨rfl, v2, rfl⟩
      obtain ⟨x, gx⟩ : ∃ x, xs[i]? = some x := ⟨_, List.getElem?_eq_getElem (by omega)⟩
      obtain ⟨y, gy⟩ : ∃ y, ys[i]? = some y := ⟨_, List.getElem?_eq_getElem (by omega)⟩
      walk_at "x"
      refine x_ixQ hab (atI_nat gx) ?_
      walk_at "x"
      refine x_ixQ2 hab (atI_nat gy) ?_
      walk_at "x"
      refine ⟨x, y, rfl, he i x y gx gy, ?_⟩
      walk_at "x"
      walk_at "f"
      exact ⟨rfl, _, rfl⟩
    · rintro σ' H' ⟨rfl, v2, rfl⟩
      walk_at "x"
      exact q
theorem ok_law_equal (T : Txt K mg) : ∀ n : Nat, FnOk P w K mg base CX0 (2 * n + 1) T.a_law_equal T.fd_law_equal ["actual", "due"] (sp_law_equal n K)
  | 0 => by
    refine T.F_law_equal.ok sc_law_equal (fun vs H Q E h => ?_) (fun cdv A outer s H vs Q E hr h => ?_)
    · obtain ⟨v, u, rfl, h, _⟩ := h
      exact h.elim
    · obtain ⟨v, u, rfl, h, _⟩ := h
      exact h.elim
  | n + 1 => by
    have G_law_all_equal := all_equal_of T n (ok_law_equal T n)
    refine T.F_law_equal.ok (k := 2 * n + 2) sc_law_equal (fun vs H Q E h => ?_) (fun cdv A outer s H vs Q E hr h => ?_)
    · obtain ⟨v, u, rfl, _⟩ := h
      rfl
    · obtain ⟨v, u, rfl, h, q⟩ := h
      refine ⟨_, (pss_cons (ps_if (pt_val (pe_callB (id := "isinstance") (r := rIsi K) call_isi (by rfl) T.m_isinstance (by decide +kernel) (pa_cons (pv 1) (pa_cons (pe_bltn (v := .ty "list") (by rfl) T.m_list (by decide +kernel) rfl) pa_nil))))
      (pss_cons (ps_if (PW.pt (pw_or (pt_not (pt_val (pe_callB (id := "isinstance") (r := rIsi K) call_isi (by rfl) T.m_isinstance (by decide +kernel) (pa_cons (pv 0) (pa_cons (pe_bltn (v := .ty "list") (by rfl) T.m_list (by decide +kernel) rfl) pa_nil))))) (pw_or1 (pt_cmpR op_ne (pe_callB (id := "len") (r := rLen K) cr_len (by rfl) T.m_len PySem.boot_len (pa_cons (pv 0) pa_nil)) (pe_callB (id := "len") (r := rLen K) cr_len (by rfl) T.m_len PySem.boot_len (pa_cons (pv 1) pa_nil)) (nomark _)))))
      (pss_one (ps_ret pe_bl))
      pss_nil)
      (pss_one (ps_ret (pe_call G_law_all_equal (hr.mono (by omega)) (by rfl) T.g_law_all_equal T.F_law_all_equal.kp T.b_law_all_equal .nil pass0 (pa_cons (pv 0) (pa_cons (pv 1) pa_nil))))))
      pss_nil)
      (pss_cons (ps_if (pt_val (pe_callB (id := "isinstance") (r := rIsi K) call_isi (by rfl) T.m_isinstance (by decide +kernel) (pa_cons (pv 1) (pa_cons (pe_bltn (v := .ty "tuple") (by rfl) T.m_tuple (by decide +kernel) rfl) pa_nil))))
      (pss_cons (ps_if (PW.pt (pw_or (pt_not (pt_val (pe_callB (id := "isinstance") (r := rIsi K) call_isi (by rfl) T.m_isinstance (by decide +kernel) (pa_cons (pv 0) (pa_cons (pe_bltn (v := .ty "tuple") (by rfl) T.m_tuple (by decide +kernel) rfl) pa_nil))))) (pw_or1 (pt_cmpR op_ne (pe_callB (id := "len") (r := rLen K) cr_len (by rfl) T.m_len PySem.boot_len (pa_cons (pv 0) pa_nil)) (pe_callB (id := "len") (r := rLen K) cr_len (by rfl) T.m_len PySem.boot_len (pa_cons (pv 1) pa_nil)) (nomark _)))))
      (pss_one (ps_ret pe_bl))
      pss_nil)
      (pss_one (ps_ret (pe_call G_law_all_equal (hr.mono (by omega)) (by rfl) T.g_law_all_equal T.F_law_all_equal.kp T.b_law_all_equal .nil pass0 (pa_cons (pv 0) (pa_cons (pv 1) pa_nil))))))
      pss_nil)
      (pss_cons (ps_if (pt_val (pe_callB (id := "isinstance") (r := rIsi K) call_isi (by rfl) T.m_isinstance (by decide +kernel) (pa_cons (pv 1) (pa_cons (pe_bltn (v := .ty "bool") (by rfl) T.m_bool (by decide +kernel) rfl) pa_nil))))
      (pss_one (ps_ret (pe_and (pe_callB (id := "isinstance") (r := rIsi K) call_isi (by rfl) T.m_isinstance (by decide +kernel) (pa_cons (pv 0) (pa_cons (pe_bltn (v := .ty "bool") (by rfl) T.m_bool (by decide +kernel) rfl) pa_nil))) (pe_one (pe_cmpR op_eq (pv 0) (pv 1) (nomark _))))))
      pss_nil)
      (pss_cons (ps_if (pt_val (pe_callB (id := "isinstance") (r := rIsi K) call_isi (by rfl) T.m_isinstance (by decide +kernel) (pa_cons (pv 1) (pa_cons (pe_bltn (v := .ty "int") (by rfl) T.m_int (by decide +kernel) rfl) pa_nil))))
      (pss_one (ps_ret (pe_and (pe_callB (id := "isinstance") (r := rIsi K) call_isi (by rfl) T.m_isinstance (by decide +kernel) (pa_cons (pv 0) (pa_cons (pe_bltn (v := .ty "int") (by rfl) T.m_int (by decide +kernel) rfl) pa_nil))) (pe_and (pe_not (pe_callB (id := "isinstance") (r := rIsi K) call_isi (by rfl) T.m_isinstance (by decide +kernel) (pa_cons (pv 0) (pa_cons (pe_bltn (v := .ty "bool") (by rfl) T.m_bool (by decide +kernel) rfl) pa_nil)))) (pe_one (pe_cmpR op_eq (pv 0) (pv 1) (nomark _)))))))
      pss_nil)
      (pss_cons (ps_if (pt_val (pe_callB (id := "isinstance") (r := rIsi K) call_isi (by rfl) T.m_isinstance (by decide +kernel) (pa_cons (pv 1) (pa_cons (pe_bltn (v := .ty "str") (by rfl) T.m_str (by decide +kernel) rfl) pa_nil))))
      (pss_one (ps_ret (pe_and (pe_callB (id := "isinstance") (r := rIsi K) call_isi (by rfl) T.m_isinstance (by decide +kernel) (pa_cons (pv 0) (pa_cons (pe_bltn (v := .ty "str") (by rfl) T.m_str (by decide +kernel) rfl) pa_nil))) (pe_one (pe_cmpR op_eq (pv 0) (pv 1) (nomark _))))))
      pss_nil)
      (pss_one (ps_ret (pe_cmpR op_isN1 (pv 0) pe_non (nomark _))))))))), ?_⟩
      walk_at "start"
      rcases h with ⟨i, rfl, rfl⟩ | ⟨z, rfl, rfl⟩ | ⟨z, rfl, rfl⟩ | ⟨rfl, rfl⟩ | ⟨a, b, xs, ys, rfl, rfl, hab, hl, hz, he⟩
      · walk_at "x"
        walk_at "is"
        walk_at "f"
        walk_at "is"
        walk_at "f"
        walk_at "is"
        walk_at "f"
        walk_at "is"
        walk_at "t"
        walk_at "is"
        walk_at "t"
        walk_at "is"
        walk_at "t"
        rw [decide_eq_true rfl]
        exact q
      · walk_at "x"
        walk_at "is"
        walk_at "f"
        walk_at "is"
        walk_at "f"
        walk_at "is"
        walk_at "f"
        walk_at "is"
        walk_at "f"
        walk_at "is"
        walk_at "t"
        walk_at "is"
        walk_at "t"
        refine x_Eq rfl ?_
        rw [decide_eq_true rfl]
        exact q
      · walk_at "x"
        walk_at "is"
        walk_at "f"
        walk_at "is"
        walk_at "f"
        walk_at "is"
        walk_at "t"
        walk_at "is"
        walk_at "t"
        rw [decide_eq_true rfl]
        exact q
      · walk_at "x"
        walk_at "is"
        walk_at "f"
        walk_at "is"
        walk_at "f"
        walk_at "is"
        walk_at "f"
        walk_at "is"
        walk_at "f"
        walk_at "is"
        walk_at "f"
        rw [decide_eq_true rfl]
        exact q
      · rcases id hab with ⟨h1, h2⟩ | ⟨h1, h2⟩
        · walk_at "x"
          walk_at "is"
          walk_at "t"
          walk_at "is"
          walk_at "f"
          refine x_len (sq_of h1) ?_
          walk_at "x"
          refine x_len (sq_of h2) ?_
          walk_at "x"
          rw [hl, decide_eq_true rfl]
          walk_at "f"
          exact ⟨a, b, xs, ys, rfl, hab, hl, hz, he, q⟩
        · walk_at "x"
          walk_at "is"
          walk_at "f"
          walk_at "is"
          walk_at "t"
          walk_at "is"
          walk_at "f"
          refine x_lenT (st_of h1) ?_
          walk_at "x"
          refine x_lenT (st_of h2) ?_
          walk_at "x"
          rw [hl, decide_eq_true rfl]
          walk_at "f"
          exact ⟨a, b, xs, ys, rfl, hab, hl, hz, he, q⟩


end
end Br
namespace Br
open PySem PySem.Spec PyProof.Rows L2
local macro_rules | `(tactic| walk_at "x1") => `(tactic| (with_reducible first
  | refine Br.x_seq ?_ | refine Br.x_set ?_ | refine Br.x_asg ?_ | refine Br.x_next ?_ | refine Br.x_ret ?_ | refine Br.x_retN ?_ | refine Br.x_drop ?_ | refine Br.x_if ?_ | refine Br.x_brk ?_ | refine Br.x_cont ?_
  | refine Br.x_c ?_ | refine Br.x_op ?_ | refine Br.x_un ?_ | refine Br.x_I0 ?_ | refine Br.x_U ?_ | refine Br.x_EqI ?_ | refine Br.x_NeI ?_ | refine Br.x_EqB ?_ | refine Br.x_iN ?_ | refine Br.x_int1 ?_ | refine Br.x_min2 ?_ | refine Br.x_max2 ?_ | refine Br.x_nN ?_ | refine Br.x_ifE ?_
  | refine Br.x_test (b := ()) ?_ | refine Br.x_tB ?_ | refine Br.x_bl ?_ | refine Br.x_and ?_ | refine Br.x_or ?_ | refine Br.x_not ?_ | refine Br.x_andV ?_ | refine Br.x_orV ?_ | refine Br.x_notV ?_ | refine Br.x_blP ?_
  | refine Br.x_nil ?_ | refine Br.x_cons ?_ | refine Br.x_call ?_ | refine Br.x_CB ?_ | refine Br.x_BM ?_ | refine Br.x_tup ?_ | refine Br.x_lst ?_ | refine Br.x_chain ?_ | refine Br.x_par ?_ | refine Br.x_gSub ?_ | refine Br.x_gName ?_ | refine Br.x_fld ?_ | refine Br.x_fldS ?_ | refine Br.x_match ?_ | refine Br.x_else ?_ | refine Br.x_noCase ?_))
local macro_rules | `(tactic| walk_at "xv") => `(tactic| ((with_reducible refine' Br.x_var ?hvar ?_); (case hvar => rfl)))
local macro_rules | `(tactic| walk_at "xd") => `(tactic| (dsimp only [List.set_cons_zero, List.set_cons_succ, List.cons_append, List.nil_append, List.append_nil]))
local macro_rules | `(tactic| walk_at "xi") => `(tactic| ((with_reducible refine Br.x_I ?hside ?_); (case hside => first | exact Br.mul_r (by decide) (by decide) | exact Br.mul_l (by decide) (by decide) | exact Br.mul_l (by omega) (by omega) | exact Br.mul_r (by omega) (by omega) | (show (0 : Int) < _; first | decide | omega) | exact ⟨by decide, by decide⟩ | exact ⟨by omega, by omega⟩ | exact ⟨by decide, by decide, by decide⟩)))
local macro_rules | `(tactic| walk_at "x") => `(tactic| (repeat (first | walk_at "x1" | walk_at "xv" | walk_at "xi" | walk_at "xd")))
local macro_rules | `(tactic| walk_at "start") => `(tactic| (simp only [L2.start, List.map_cons, List.map_nil, List.length_cons, List.length_nil, Nat.reduceAdd, Nat.reduceSub, List.replicate, List.cons_append, List.nil_append, List.append_nil]))
local macro_rules | `(tactic| walk_at "isi") => `(tactic| first
  | refine Br.x_isi (b := true) (.base (.int _)) (by decide +kernel) ?_ | refine Br.x_isi (b := false) (.base (.int _)) (by decide +kernel) ?_
  | refine Br.x_isi (b := true) (.base (.bl _)) (by decide +kernel) ?_ | refine Br.x_isi (b := false) (.base (.bl _)) (by decide +kernel) ?_
  | refine Br.x_isi (b := false) (.base .non) (by decide +kernel) ?_
  | refine Br.x_isi (b := true) (.base (.str _)) (by decide +kernel) ?_ | refine Br.x_isi (b := false) (.base (.str _)) (by decide +kernel) ?_
  | refine Br.x_isi (b := true) (.base (.tup (by assumption))) (by decide +kernel) ?_ | refine Br.x_isi (b := false) (.base (.tup (by assumption))) (by decide +kernel) ?_
  | refine Br.x_isi (b := true) (.base (.lst (by assumption))) (by decide +kernel) ?_ | refine Br.x_isi (b := false) (.base (.lst (by assumption))) (by decide +kernel) ?_)
local macro_rules | `(tactic| walk_at "f") => `(tactic| (refine L2.iteF ?_; walk_at "x"))
local macro_rules | `(tactic| walk_at "t") => `(tactic| (refine L2.iteT ?_; walk_at "x"))
local macro_rules | `(tactic| walk_at "is") => `(tactic| (walk_at "isi"; walk_at "x"))
local macro_rules | `(tactic| walk_at "xb") => `(tactic| (simp only [Br.bindS, List.set_cons_zero, List.set_cons_succ]; walk_at "x"))

section
variable {P : Program} {w : World} {K : PySem.W.Frag} {mg : Str → Option Value} {base : Heap}

open Br

def sp_law_meaning (K : PySem.W.Frag) : Sp := fun vs H Q _ => ∃ (d t g : Addr) (ns : List SN) (m : Nat) (gs : List Int), vs = [.ref t, .int (m : Int), .ref g] ∧ DAt d H (.ref t) (.tuple (ns.map snD)) ∧ SsOk ns ∧ H g = some (.lst (gs.map V.int)) ∧ Rg 0 m gs ∧ (∀ (i c : Nat), ns[i]? = some (SN.inp c) → c < gs.length) ∧ 2 ≤ m ∧ m ≤ 1000000000 ∧
  ∀ H', Same H H' → Q (.int (valF m gs ns)) H'
theorem ok_law_meaning (T : Txt K mg) : FnOk P w K mg base CX0 1 T.a_law_meaning T.fd_law_meaning ["source", "modulus", "given"] (sp_law_meaning K) := by
  refine T.F_law_meaning.ok sc_law_meaning (fun vs H Q E h => ?_) (fun cdv A outer s H vs Q E hr h => ?_)
  · obtain ⟨d, t, g, ns, m, gs, rfl, _⟩ := h
    rfl
  · obtain ⟨d, t, g, ns, m, gs, rfl, ht, ok, hg, hgr, hin, m2, m9, q⟩ := h
    obtain ⟨o1, o2, o3⟩ := ok
    cases ht with
    | tup ha hs =>
      rename_i xs
      obtain ⟨as, rfl, hal, hat⟩ := sns_at hs
      refine ⟨_, (pss_cons (ps_set (i := 3) sc_law_meaning.nd rfl (.inl rfl) (pe_lst pa_nil))
      (pss_cons (ps_for PassesOwn.never rfl (pi_tup (pv 0)) (pg_name (i := 4) sc_law_meaning.nd rfl (Or.inl rfl))
      (pss_one (ps_if (pt_cmpR op_eq (pe_ix (r := rIxT K) ix_tup (pv 4) pe_int (fun _ _ => rfl)) pe_str (nomark _))
      (pss_one (ps_expr (pe_bm PySem.F.plainAttrs_list PySem.F.slot_list_append PySem.F.type_list_append mt_append (pv 3) (pa_cons (pe_op op_mod (pe_ix (r := rIxT K) ix_tup (pv 4) pe_int (fun _ _ => rfl)) (pv 1)) pa_nil))))
      (pss_one (ps_if (pt_cmpR op_eq (pe_ix (r := rIxT K) ix_tup (pv 4) pe_int (fun _ _ => rfl)) pe_str (nomark _))
      (pss_one (ps_expr (pe_bm PySem.F.plainAttrs_list PySem.F.slot_list_append PySem.F.type_list_append mt_append (pv 3) (pa_cons (pe_ix (r := rIxL K) ix_list (pv 2) (pe_ix (r := rIxT K) ix_tup (pv 4) pe_int (fun _ _ => rfl)) (fun _ _ => rfl)) pa_nil))))
      (pss_one (ps_if (pt_cmpR op_eq (pe_ix (r := rIxT K) ix_tup (pv 4) pe_int (fun _ _ => rfl)) pe_str (nomark _))
      (pss_one (ps_expr (pe_bm PySem.F.plainAttrs_list PySem.F.slot_list_append PySem.F.type_list_append mt_append (pv 3) (pa_cons (pe_op op_mod (pe_op op_add (pe_ix (r := rIxL K) ix_list (pv 3) (pe_ix (r := rIxT K) ix_tup (pv 4) pe_int (fun _ _ => rfl)) (fun _ _ => rfl)) (pe_ix (r := rIxL K) ix_list (pv 3) (pe_ix (r := rIxT K) ix_tup (pv 4) pe_int (fun _ _ => rfl)) (fun _ _ => rfl))) (pv 1)) pa_nil))))
      (pss_one (ps_if (pt_cmpR op_eq (pe_ix (r := rIxT K) ix_tup (pv 4) pe_int (fun _ _ => rfl)) pe_str (nomark _))
      (pss_one (ps_expr (pe_bm PySem.F.plainAttrs_list PySem.F.slot_list_append PySem.F.type_list_append mt_append (pv 3) (pa_cons (pe_op op_mod (pe_op op_mul (pe_ix (r := rIxL K) ix_list (pv 3) (pe_ix (r := rIxT K) ix_tup (pv 4) pe_int (fun _ _ => rfl)) (fun _ _ => rfl)) (pe_ix (r := rIxL K) ix_list (pv 3) (pe_ix (r := rIxT K) ix_tup (pv 4) pe_int (fun _ _ => rfl)) (fun _ _ => rfl))) (pv 1)) pa_nil))))
      (pss_one (ps_if (pt_cmpR op_eq (pe_ix (r := rIxT K) ix_tup (pv 4) pe_int (fun _ _ => rfl)) pe_str (nomark _))
      (pss_one (ps_expr (pe_bm PySem.F.plainAttrs_list PySem.F.slot_list_append PySem.F.type_list_append mt_append (pv 3) (pa_cons (pe_op op_mod (pe_op op_mul (pe_ix (r := rIxT K) ix_tup (pv 4) pe_int (fun _ _ => rfl)) (pe_ix (r := rIxL K) ix_list (pv 3) (pe_ix (r := rIxT K) ix_tup (pv 4) pe_int (fun _ _ => rfl)) (fun _ _ => rfl))) (pv 1)) pa_nil))))
      (pss_cons (ps_set (i := 5) sc_law_meaning.nd rfl (.inl rfl) (pe_ix (r := rIxL K) ix_list (pv 3) (pe_ix (r := rIxT K) ix_tup (pv 4) pe_int (fun _ _ => rfl)) (fun _ _ => rfl)))
      (pss_one (ps_expr (pe_bm PySem.F.plainAttrs_list PySem.F.slot_list_append PySem.F.type_list_append mt_append (pv 3) (pa_cons (pe_op op_mod (pe_op op_sub (pe_op op_add (pe_ix (r := rIxL K) ix_list (pv 3) (pe_ix (r := rIxT K) ix_tup (pv 4) pe_int (fun _ _ => rfl)) (fun _ _ => rfl)) (pe_op op_mul (pv 5) (pe_ix (r := rIxL K) ix_list (pv 3) (pe_ix (r := rIxT K) ix_tup (pv 4) pe_int (fun _ _ => rfl)) (fun _ _ => rfl)))) (pe_op op_mul (pv 5) (pe_ix (r := rIxL K) ix_list (pv 3) (pe_ix (r := rIxT K) ix_tup (pv 4) pe_int (fun _ _ => rfl)) (fun _ _ => rfl)))) (pv 1)) pa_nil))))))))))))))))
      (pss_one (ps_ret (pe_ix (r := rIxL K) ix_list (pv 3) (pe_op op_sub (pe_callB (id := "len") (r := rLen K) cr_len (by rfl) T.m_len PySem.boot_len (pa_cons (pv 3) pa_nil)) pe_int) (fun _ _ => rfl)))))), ?_⟩
      walk_at "start"
      walk_at "x"
      refine ⟨by show 0 ≤ sizeLine; decide, fun w hw => ?_⟩
      have s4 := same_upd (o := .lst []) hw
      have e4 : (upd H w (.lst [])) w = some (.lst (([] : List Int).map V.int)) := upd_same
      generalize upd H w (.lst []) = H4 at s4 e4
      walk_at "x"
      refine x_forI (J := Itt K t) (n := (as.map V.ref).length) (G := fun H => SqT K H t (as.map V.ref)) (fun R r => ⟨_, rfl, t, rfl, ⟨_, st_of (s4 _ _ ha)⟩, r⟩) walk_tup (fun k σ' H' => ∃ v4 v5, σ' = [some (.ref t), some (.int (m : Int)), some (.ref g), some (.ref w), v4, v5] ∧ Same H H' ∧ H' w = some (.lst ((valsF m gs (ns.take k)).map V.int))) ⟨_, _, rfl, s4, e4⟩ (fun k σ' H' _ z => by obtain ⟨_, _, _, z, _⟩ := z; exact st_of (z _ _ ha)) ?_ ?_
      · rintro k y σ' H5 H6 hk ⟨v4, v5, rfl, s5, e5⟩ ⟨rfl, hx⟩
        obtain ⟨b, hb2, rfl⟩ := map_getR hx
        obtain ⟨n, hn⟩ : ∃ n, ns[k]? = some n := ⟨_, List.getElem?_eq_getElem (by rw [List.length_map] at hk; omega)⟩
        have hb := s5 _ _ (hat k n b hn hb2)
        have okn := o3 k n hn
        have hkn : k < ns.length := (List.getElem?_eq_some_iff.mp hn).1
        have hll : (valsF m gs (ns.take k)).length = k := by
          unfold valsF
          rw [scanF_len, List.length_take]
          omega
        have hst : valsF m gs (ns.take (k + 1)) = valsF m gs (ns.take k) ++ [val1 gs (valsF m gs (ns.take k)) n % (m : Int)] := by
          rw [take_snocG hn]
          exact scanF_snoc
        have hrg := vals_rg (m := (m : Int)) (by omega) (gs := gs) (ns.take k)
        generalize valsF m gs (ns.take k) = C at e5 hll hst hrg
        have done : ∀ z : Int, z = val1 gs C n % (m : Int) → (upd H6 w (.lst (C.map V.int ++ [.int z]))) w = some (.lst ((valsF m gs (ns.take (k + 1))).map V.int)) := fun z hz => by
          rw [upd_same, hst, List.map_append, hz]; rfl
        have rgi : ∀ i, i < k → 0 ≤ C.getD i 0 ∧ C.getD i 0 < m := fun i hi => rg_get hrg (by omega)
        walk_at "x"
        cases n with
        | con c =>
          have hb : H6 b = some (.tup [.str "const", .int (c : Int)]) := hb
          refine x_ixT (v := .str "const") (st_of hb) (atI_nat (j := 0) rfl) ?_
          walk_at "x"
          refine x_Eq rfl ?_
          walk_at "x"
          rw [decide_eq_true rfl]
          walk_at "t"
          refine x_tyL e5 ?_
          walk_at "x"
          refine x_ixT (v := .int (c : Int)) (st_of hb) (atI_nat (j := 1) rfl) ?_
          walk_at "x"
          refine x_app e5 (by rw [List.length_map]; omega) ?_
          walk_at "x"
          exact ⟨_, _, rfl, sput s5 hw, done _ (by rfl)⟩
        | inp c =>
          have hb : H6 b = some (.tup [.str "input", .int (c : Int)]) := hb
          have hc := hin k c hn
          have hz := rg_get hgr hc
          refine x_ixT (v := .str "input") (st_of hb) (atI_nat (j := 0) rfl) ?_
          walk_at "x"
          refine x_Eq rfl ?_
          walk_at "x"
          rw [decide_eq_false (by decide)]
          walk_at "f"
          refine x_ixT (v := .str "input") (st_of hb) (atI_nat (j := 0) rfl) ?_
          walk_at "x"
          refine x_Eq rfl ?_
          walk_at "x"
          rw [decide_eq_true rfl]
          walk_at "t"
          refine x_tyL e5 ?_
          walk_at "x"
          refine x_ixT (v := .int (c : Int)) (st_of hb) (atI_nat (j := 1) rfl) ?_
          refine x_ixL (v := .int (gs.getD c 0)) (sq_of (s5 _ _ hg)) (atI_nat (int_get hc)) ?_
          walk_at "x"
          refine x_app e5 (by rw [List.length_map]; omega) ?_
          walk_at "x"
          exact ⟨_, _, rfl, sput s5 hw, done _ (by show gs.getD c 0 = gs.getD c 0 % (m : Int); rw [Int.emod_eq_of_lt hz.1 hz.2])⟩
        | sum i j =>
          have hb : H6 b = some (.tup [.str "sum", .int (i : Int), .int (j : Int)]) := hb
          obtain ⟨hi, hj⟩ := (show i < k ∧ j < k from okn)
          have ri := rgi i hi
          have rj := rgi j hj
          refine x_ixT (v := .str "sum") (st_of hb) (atI_nat (j := 0) rfl) ?_
          walk_at "x"
          refine x_Eq rfl ?_
          walk_at "x"
          rw [decide_eq_false (by decide)]
          walk_at "f"
          refine x_ixT (v := .str "sum") (st_of hb) (atI_nat (j := 0) rfl) ?_
          walk_at "x"
          refine x_Eq rfl ?_
          walk_at "x"
          rw [decide_eq_false (by decide)]
          walk_at "f"
          refine x_ixT (v := .str "sum") (st_of hb) (atI_nat (j := 0) rfl) ?_
          walk_at "x"
          refine x_Eq rfl ?_
          walk_at "x"
          rw [decide_eq_true rfl]
          walk_at "t"
          refine x_tyL e5 ?_
          walk_at "x"
          refine x_ixT (v := .int (i : Int)) (st_of hb) (atI_nat (j := 1) rfl) ?_
          refine x_ixL (v := .int (C.getD i 0)) (sq_of e5) (atI_nat (int_get (by omega))) ?_
          walk_at "x"
          refine x_ixT (v := .int (j : Int)) (st_of hb) (atI_nat (j := 2) rfl) ?_
          refine x_ixL (v := .int (C.getD j 0)) (sq_of e5) (atI_nat (int_get (by omega))) ?_
          walk_at "x"
          refine x_app e5 (by rw [List.length_map]; omega) ?_
          walk_at "x"
          exact ⟨_, _, rfl, sput s5 hw, done _ (by rfl)⟩
        | prod i j =>
          have hb : H6 b = some (.tup [.str "product", .int (i : Int), .int (j : Int)]) := hb
          obtain ⟨hi, hj⟩ := (show i < k ∧ j < k from okn)
          have ri := rgi i hi
          have rj := rgi j hj
          refine x_ixT (v := .str "product") (st_of hb) (atI_nat (j := 0) rfl) ?_
          walk_at "x"
          refine x_Eq rfl ?_
          walk_at "x"
          rw [decide_eq_false (by decide)]
          walk_at "f"
          refine x_ixT (v := .str "product") (st_of hb) (atI_nat (j := 0) rfl) ?_
          walk_at "x"
          refine x_Eq rfl ?_
          walk_at "x"
          rw [decide_eq_false (by decide)]
          walk_at "f"
          refine x_ixT (v := .str "product") (st_of hb) (atI_nat (j := 0) rfl) ?_
          walk_at "x"
          refine x_Eq rfl ?_
          walk_at "x"
          rw [decide_eq_false (by decide)]
          walk_at "f"
          refine x_ixT (v := .str "product") (st_of hb) (atI_nat (j := 0) rfl) ?_
          walk_at "x"
          refine x_Eq rfl ?_
          walk_at "x"
          rw [decide_eq_true rfl]
          walk_at "t"
          refine x_tyL e5 ?_
          walk_at "x"
          refine x_ixT (v := .int (i : Int)) (st_of hb) (atI_nat (j := 1) rfl) ?_
          refine x_ixL (v := .int (C.getD i 0)) (sq_of e5) (atI_nat (int_get (by omega))) ?_
          walk_at "x"
          refine x_ixT (v := .int (j : Int)) (st_of hb) (atI_nat (j := 2) rfl) ?_
          refine x_ixL (v := .int (C.getD j 0)) (sq_of e5) (atI_nat (int_get (by omega))) ?_
          walk_at "x"
          refine x_app e5 (by rw [List.length_map]; omega) ?_
          walk_at "x"
          exact ⟨_, _, rfl, sput s5 hw, done _ (by rfl)⟩
        | scl c i =>
          have hb : H6 b = some (.tup [.str "scaled", .int (c : Int), .int (i : Int)]) := hb
          obtain ⟨hc, hi⟩ := (show c < 1000000000 ∧ i < k from okn)
          have ri := rgi i hi
          refine x_ixT (v := .str "scaled") (st_of hb) (atI_nat (j := 0) rfl) ?_
          walk_at "x"
          refine x_Eq rfl ?_
          walk_at "x"
          rw [decide_eq_false (by decide)]
          walk_at "f"
          refine x_ixT (v := .str "scaled") (st_of hb) (atI_nat (j := 0) rfl) ?_
          walk_at "x"
          refine x_Eq rfl ?_
          walk_at "x"
          rw [decide_eq_false (by decide)]
          walk_at "f"
          refine x_ixT (v := .str "scaled") (st_of hb) (atI_nat (j := 0) rfl) ?_
          walk_at "x"
          refine x_Eq rfl ?_
          walk_at "x"
          rw [decide_eq_false (by decide)]
          walk_at "f"
          refine x_ixT (v := .str "scaled") (st_of hb) (atI_nat (j := 0) rfl) ?_
          walk_at "x"
          refine x_Eq rfl ?_
          walk_at "x"
          rw [decide_eq_false (by decide)]
          walk_at "f"
          refine x_ixT (v := .str "scaled") (st_of hb) (atI_nat (j := 0) rfl) ?_
          walk_at "x"
          refine x_Eq rfl ?_
          walk_at "x"
          rw [decide_eq_true rfl]
          walk_at "t"
          refine x_tyL e5 ?_
          walk_at "x"
          refine x_ixT (v := .int (c : Int)) (st_of hb) (atI_nat (j := 1) rfl) ?_
          walk_at "x"
          refine x_ixT (v := .int (i : Int)) (st_of hb) (atI_nat (j := 2) rfl) ?_
          refine x_ixL (v := .int (C.getD i 0)) (sq_of e5) (atI_nat (int_get (by omega))) ?_
          walk_at "x"
          refine x_app e5 (by rw [List.length_map]; omega) ?_
          walk_at "x"
          exact ⟨_, _, rfl, sput s5 hw, done _ (by rfl)⟩
        | cho i j l =>
          have hb : H6 b = some (.tup [.str "choose", .int (i : Int), .int (j : Int), .int (l : Int)]) := hb
          obtain ⟨hi, hj, hl⟩ := (show i < k ∧ j < k ∧ l < k from okn)
          have ri := rgi i hi
          have rj := rgi j hj
          have rl := rgi l hl
          refine x_ixT (v := .str "choose") (st_of hb) (atI_nat (j := 0) rfl) ?_
          walk_at "x"
          refine x_Eq rfl ?_
          walk_at "x"
          rw [decide_eq_false (by decide)]
          walk_at "f"
          refine x_ixT (v := .str "choose") (st_of hb) (atI_nat (j := 0) rfl) ?_
          walk_at "x"
          refine x_Eq rfl ?_
          walk_at "x"
          rw [decide_eq_false (by decide)]
          walk_at "f"
          refine x_ixT (v := .str "choose") (st_of hb) (atI_nat (j := 0) rfl) ?_
          walk_at "x"
          refine x_Eq rfl ?_
          walk_at "x"
          rw [decide_eq_false (by decide)]
          walk_at "f"
          refine x_ixT (v := .str "choose") (st_of hb) (atI_nat (j := 0) rfl) ?_
          walk_at "x"
          refine x_Eq rfl ?_
          walk_at "x"
          rw [decide_eq_false (by decide)]
          walk_at "f"
          refine x_ixT (v := .str "choose") (st_of hb) (atI_nat (j := 0) rfl) ?_
          walk_at "x"
          refine x_Eq rfl ?_
          walk_at "x"
          rw [decide_eq_false (by decide)]
          walk_at "f"
          refine x_ixT (v := .int (i : Int)) (st_of hb) (atI_nat (j := 1) rfl) ?_
          refine x_ixL (v := .int (C.getD i 0)) (sq_of e5) (atI_nat (int_get (by omega))) ?_
          walk_at "x"
          refine x_tyL e5 ?_
          walk_at "x"
          refine x_ixT (v := .int (l : Int)) (st_of hb) (atI_nat (j := 3) rfl) ?_
          refine x_ixL (v := .int (C.getD l 0)) (sq_of e5) (atI_nat (int_get (by omega))) ?_
          walk_at "x"
          refine x_ixT (v := .int (j : Int)) (st_of hb) (atI_nat (j := 2) rfl) ?_
          refine x_ixL (v := .int (C.getD j 0)) (sq_of e5) (atI_nat (int_get (by omega))) ?_
          walk_at "x"
          refine x_ixT (v := .int (l : Int)) (st_of hb) (atI_nat (j := 3) rfl) ?_
          refine x_ixL (v := .int (C.getD l 0)) (sq_of e5) (atI_nat (int_get (by omega))) ?_
          walk_at "x"
          refine x_app e5 (by rw [List.length_map]; omega) ?_
          walk_at "x"
          exact ⟨_, _, rfl, sput s5 hw, done _ (by show _ = (C.getD l 0 + C.getD i 0 * (C.getD j 0 - C.getD l 0)) % (m : Int); congr 1; rw [Int.mul_sub]; omega)⟩
      · rintro σ' H5 ⟨v4, v5, rfl, s5, e5⟩
        rw [List.length_map, hal, List.take_length] at e5
        have hll : (valsF m gs ns).length = ns.length := by unfold valsF; rw [scanF_len]
        walk_at "x"
        refine x_len (sq_of e5) ?_
        walk_at "x"
        rw [List.length_map, hll, show ((ns.length : Nat) : Int) - 1 = ((ns.length - 1 : Nat) : Int) by omega]
        refine x_ixL (v := .int ((valsF m gs ns).getD (ns.length - 1) 0)) (sq_of e5) (atI_nat (int_get (by omega))) ?_
        exact q H5 s5


theorem need_iff {ns : List SN} {x : Nat} : x ∈ needL ns ↔ ∃ i c : Nat, ns[i]? = some (SN.inp c) ∧ x = c + 1 := by
  unfold needL
  rw [List.mem_filterMap]
  constructor
  · rintro ⟨n, hn, he⟩
    obtain ⟨i, hi⟩ := List.mem_iff_getElem?.mp hn
    cases n with
    | inp c => exact ⟨i, c, hi, (Option.some.inj he).symm⟩
    | _ => cases he
  · rintro ⟨i, c, h, rfl⟩
    exact ⟨_, List.mem_of_getElem? h, rfl⟩
def sp_law_needs (K : PySem.W.Frag) : Sp := fun vs H Q _ => ∃ (d t : Addr) (ns : List SN), vs = [.ref t] ∧ DAt d H (.ref t) (.tuple (ns.map snD)) ∧ ns.length ≤ 1000 ∧ ∀ H', Same H H' → Q (.int ((needF ns : Nat) : Int)) H'
theorem ok_law_needs (T : Txt K mg) : FnOk P w K mg base CX0 1 T.a_law_needs T.fd_law_needs ["source"] (sp_law_needs K) := by
  refine T.F_law_needs.ok sc_law_needs (fun vs H Q E h => ?_) (fun cdv A outer s H vs Q E hr h => ?_)
  · obtain ⟨d, t, ns, rfl, _⟩ := h
    rfl
  · obtain ⟨d, t, ns, rfl, ht, hn9, q⟩ := h
    cases ht with
    | tup ha hs =>
      rename_i xs
      obtain ⟨as, rfl, hal, hat⟩ := sns_at hs
      refine ⟨_, (pss_one (ps_ret (pe_callB (id := "max") (r := rMax K) (cr_max rfl) (by rfl) T.m_max (by decide +kernel) (pa_cons (pe_op op_cat (pe_lst (pa_cons pe_int pa_nil)) (pe_lc (own := [("node", 1)]) (g := gName 1) (tt := _) rfl sc_law_needs.nd (pi_tup (pv 0)) (blkOk_by (N := N_law_needs) (sc := defScope s_law_needs) (by decide +kernel)) (fun _ _ _ _ _ => (pg_name (i := 1) sc_law_needs.nd rfl (Or.inl rfl))) (fun _ _ _ _ _ => (pts_one (pt_cmpR op_eq (pe_ix (r := rIxT K) ix_tup (pv 1) pe_int (fun _ _ => rfl)) pe_str (nomark _)))) (fun _ _ _ _ _ => (pe_op op_add (pe_ix (r := rIxT K) ix_tup (pv 1) pe_int (fun _ _ => rfl)) pe_int)))) pa_nil)))), ?_⟩
      walk_at "start"
      walk_at "x"
      refine ⟨by show 1 ≤ sizeLine; decide, fun z hz => ?_⟩
      have s1 := same_upd (o := .lst [V.int 0]) hz
      have e1 : (upd H z (.lst [V.int 0])) z = some (.lst (([0] : List Int).map V.int)) := upd_same
      generalize upd H z (.lst [V.int 0]) = H1 at s1 e1
      refine x_lcTT (K := K) (a := t) (as.map V.ref) (fun p k H' => Same H1 H' ∧ H' p = some (.lst ((needL (ns.take k)).map fun (c : Nat) => V.int (c : Int))) ∧ (needL (ns.take k)).length ≤ k) (fun R r => by walk_at "x"; exact r) (st_of (s1 _ _ ha)) (fun p hp => ⟨same_upd hp, upd_same, Nat.le_refl 0⟩) (fun p i H' _ _ z => st_of (z.1 _ _ (s1 _ _ ha))) (fun x => rfl) ?_ ?_
      · rintro p k x H2 hp hx ⟨s2, e2, hl2⟩
        obtain ⟨b, hb2, rfl⟩ := map_getR hx
        obtain ⟨n, hn⟩ : ∃ n, ns[k]? = some n := ⟨_, List.getElem?_eq_getElem (by have := (List.getElem?_eq_some_iff.mp hb2).1; omega)⟩
        have hkn : k < ns.length := (List.getElem?_eq_some_iff.mp hn).1
        have hb := s2 _ _ (s1 _ _ (hat k n b hn hb2))
        have hst := needL_snoc (ns := ns.take k) (n := n)
        rw [← take_snocG hn] at hst
        have no : ∀ (w : Str) (ys : List V), H2 b = some (.tup (.str w :: ys)) → w ≠ "input" → need1 n = none → True := fun _ _ _ _ _ => trivial
        clear no
        cases n with
        | inp c =>
          have hb : H2 b = some (.tup [.str "input", .int (c : Int)]) := hb
          have hst : needL (ns.take (k + 1)) = needL (ns.take k) ++ [c + 1] := hst
          walk_at "x"
          refine x_ixT (v := .str "input") (st_of hb) (atI_nat (j := 0) rfl) ?_
          walk_at "x"
          refine x_Eq rfl ?_
          walk_at "x"
          rw [decide_eq_true rfl]
          walk_at "t"
          refine x_ixT (v := .int (c : Int)) (st_of hb) (atI_nat (j := 1) rfl) ?_
          walk_at "x"
          exact ⟨_, e2, lt_line (by rw [List.length_map]; omega), sput s2 hp, by rw [upd_same, hst, List.map_append]; rfl, by rw [hst, List.length_append]; show _ + 1 ≤ _; omega⟩
        | con c =>
          have hb : H2 b = some (.tup [.str "const", .int (c : Int)]) := hb
          have hst : needL (ns.take (k + 1)) = needL (ns.take k) ++ [] := hst
          rw [List.append_nil] at hst
          walk_at "x"
          refine x_ixT (v := .str "const") (st_of hb) (atI_nat (j := 0) rfl) ?_
          walk_at "x"
          refine x_Eq rfl ?_
          walk_at "x"
          rw [decide_eq_false (by decide)]
          walk_at "f"
          exact ⟨s2, by rw [hst]; exact e2, by rw [hst]; omega⟩
        | sum i j =>
          have hb : H2 b = some (.tup [.str "sum", .int (i : Int), .int (j : Int)]) := hb
          have hst : needL (ns.take (k + 1)) = needL (ns.take k) ++ [] := hst
          rw [List.append_nil] at hst
          walk_at "x"
          refine x_ixT (v := .str "sum") (st_of hb) (atI_nat (j := 0) rfl) ?_
          walk_at "x"
          refine x_Eq rfl ?_
          walk_at "x"
          rw [decide_eq_false (by decide)]
          walk_at "f"
          exact ⟨s2, by rw [hst]; exact e2, by rw [hst]; omega⟩
        | prod i j =>
          have hb : H2 b = some (.tup [.str "product", .int (i : Int), .int (j : Int)]) := hb
          have hst : needL (ns.take (k + 1)) = needL (ns.take k) ++ [] := hst
          rw [List.append_nil] at hst
          walk_at "x"
          refine x_ixT (v := .str "product") (st_of hb) (atI_nat (j := 0) rfl) ?_
          walk_at "x"
          refine x_Eq rfl ?_
          walk_at "x"
          rw [decide_eq_false (by decide)]
          walk_at "f"
          exact ⟨s2, by rw [hst]; exact e2, by rw [hst]; omega⟩
        | scl c i =>
          have hb : H2 b = some (.tup [.str "scaled", .int (c : Int), .int (i : Int)]) := hb
          have hst : needL (ns.take (k + 1)) = needL (ns.take k) ++ [] := hst
          rw [List.append_nil] at hst
          walk_at "x"
          refine x_ixT (v := .str "scaled") (st_of hb) (atI_nat (j := 0) rfl) ?_
          walk_at "x"
          refine x_Eq rfl ?_
          walk_at "x"
          rw [decide_eq_false (by decide)]
          walk_at "f"
          exact ⟨s2, by rw [hst]; exact e2, by rw [hst]; omega⟩
        | cho i j l =>
          have hb : H2 b = some (.tup [.str "choose", .int (i : Int), .int (j : Int), .int (l : Int)]) := hb
          have hst : needL (ns.take (k + 1)) = needL (ns.take k) ++ [] := hst
          rw [List.append_nil] at hst
          walk_at "x"
          refine x_ixT (v := .str "choose") (st_of hb) (atI_nat (j := 0) rfl) ?_
          walk_at "x"
          refine x_Eq rfl ?_
          walk_at "x"
          rw [decide_eq_false (by decide)]
          walk_at "f"
          exact ⟨s2, by rw [hst]; exact e2, by rw [hst]; omega⟩
      · rintro p H2 hp ⟨s2, e2, hl2⟩
        rw [List.length_map, hal, List.take_length] at e2 hl2
        have e2 : H2 p = some (.lst ((((needL ns).map fun (c : Nat) => (c : Int))).map V.int)) := by rw [e2, List.map_map]; rfl
        walk_at "x"
        refine x_cat (s2 _ _ e1) e2 (by rw [List.length_map, List.length_map, List.length_map]; show 1 + _ ≤ _; omega) fun r hr0 => ?_
        have s3 := same_upd (o := .lst (([0] : List Int).map V.int ++ ((needL ns).map fun (c : Nat) => (c : Int)).map V.int)) hr0
        have e3 : (upd H2 r (.lst (([0] : List Int).map V.int ++ ((needL ns).map fun (c : Nat) => (c : Int)).map V.int))) r = some (.lst (((0 : Int) :: (needL ns).map fun (c : Nat) => (c : Int)).map V.int)) := by rw [upd_same]; rfl
        generalize upd H2 r (.lst (([0] : List Int).map V.int ++ ((needL ns).map fun (c : Nat) => (c : Int)).map V.int)) = H3 at s3 e3
        walk_at "x"
        refine x_max (σ := []) (sq_of e3) (by show 0 < _ + 1; omega) fun M hM hle => ?_
        have hval : M = ((needF ns : Nat) : Int) := by
          obtain ⟨f1, f2, f3⟩ := foldr_max (cs := needL ns) (t := 0)
          have g1 : ((needF ns : Nat) : Int) ≤ M := by
            rcases f3 with f3 | f3
            · have := hle 0 List.mem_cons_self
              unfold needF
              rw [f3]; exact this
            · exact hle _ (List.mem_cons_of_mem _ (List.mem_map.mpr ⟨_, f3, rfl⟩))
          have g2 : M ≤ ((needF ns : Nat) : Int) := by
            rcases List.mem_cons.mp hM with rfl | hM
            · omega
            · obtain ⟨x, hx, rfl⟩ := List.mem_map.mp hM
              have := f2 x hx
              unfold needF
              omega
          omega
        rw [hval]
        exact q H3 ((s1.trans s2).trans s3)


end
end Br
namespace Br
open PySem PySem.Spec PyProof.Rows L2
local macro_rules | `(tactic| walk_at "x1") => `(tactic| (with_reducible first
  | refine Br.x_seq ?_ | refine Br.x_set ?_ | refine Br.x_asg ?_ | refine Br.x_next ?_ | refine Br.x_ret ?_ | refine Br.x_retN ?_ | refine Br.x_drop ?_ | refine Br.x_if ?_ | refine Br.x_brk ?_ | refine Br.x_cont ?_
  | refine Br.x_c ?_ | refine Br.x_op ?_ | refine Br.x_un ?_ | refine Br.x_I0 ?_ | refine Br.x_U ?_ | refine Br.x_EqI ?_ | refine Br.x_NeI ?_ | refine Br.x_EqB ?_ | refine Br.x_iN ?_ | refine Br.x_int1 ?_ | refine Br.x_min2 ?_ | refine Br.x_max2 ?_ | refine Br.x_nN ?_ | refine Br.x_ifE ?_
  | refine Br.x_test (b := ()) ?_ | refine Br.x_tB ?_ | refine Br.x_bl ?_ | refine Br.x_and ?_ | refine Br.x_or ?_ | refine Br.x_not ?_ | refine Br.x_andV ?_ | refine Br.x_orV ?_ | refine Br.x_notV ?_ | refine Br.x_blP ?_
  | refine Br.x_nil ?_ | refine Br.x_cons ?_ | refine Br.x_call ?_ | refine Br.x_CB ?_ | refine Br.x_BM ?_ | refine Br.x_tup ?_ | refine Br.x_lst ?_ | refine Br.x_chain ?_ | refine Br.x_par ?_ | refine Br.x_gSub ?_ | refine Br.x_gName ?_ | refine Br.x_fld ?_ | refine Br.x_fldS ?_ | refine Br.x_match ?_ | refine Br.x_else ?_ | refine Br.x_noCase ?_))
local macro_rules | `(tactic| walk_at "xv") => `(tactic| ((with_reducible refine' Br.x_var ?hvar ?_); (case hvar => rfl)))
local macro_rules | `(tactic| walk_at "xd") => `(tactic| (dsimp only [List.set_cons_zero, List.set_cons_succ, List.cons_append, List.nil_append, List.append_nil]))
local macro_rules | `(tactic| walk_at "xi") => `(tactic| ((with_reducible refine Br.x_I ?hside ?_); (case hside => first | exact Br.mul_r (by decide) (by decide) | exact Br.mul_l (by decide) (by decide) | exact Br.mul_l (by omega) (by omega) | exact Br.mul_r (by omega) (by omega) | (show (0 : Int) < _; first | decide | omega) | exact ⟨by decide, by decide⟩ | exact ⟨by omega, by omega⟩ | exact ⟨by decide, by decide, by decide⟩)))
local macro_rules | `(tactic| walk_at "x") => `(tactic| (repeat (first | walk_at "x1" | walk_at "xv" | walk_at "xi" | walk_at "xd")))
local macro_rules | `(tactic| walk_at "start") => `(tactic| (simp only [L2.start, List.map_cons, List.map_nil, List.length_cons, List.length_nil, Nat.reduceAdd, Nat.reduceSub, List.replicate, List.cons_append, List.nil_append, List.append_nil]))
local macro_rules | `(tactic| walk_at "isi") => `(tactic| first
  | refine Br.x_isi (b := true) (.base (.int _)) (by decide +kernel) ?_ | refine Br.x_isi (b := false) (.base (.int _)) (by decide +kernel) ?_
  | refine Br.x_isi (b := true) (.base (.bl _)) (by decide +kernel) ?_ | refine Br.x_isi (b := false) (.base (.bl _)) (by decide +kernel) ?_
  | refine Br.x_isi (b := false) (.base .non) (by decide +kernel) ?_
  | refine Br.x_isi (b := true) (.base (.str _)) (by decide +kernel) ?_ | refine Br.x_isi (b := false) (.base (.str _)) (by decide +kernel) ?_
  | refine Br.x_isi (b := true) (.base (.tup (by assumption))) (by decide +kernel) ?_ | refine Br.x_isi (b := false) (.base (.tup (by assumption))) (by decide +kernel) ?_
  | refine Br.x_isi (b := true) (.base (.lst (by assumption))) (by decide +kernel) ?_ | refine Br.x_isi (b := false) (.base (.lst (by assumption))) (by decide +kernel) ?_)
local macro_rules | `(tactic| walk_at "f") => `(tactic| (refine L2.iteF ?_; walk_at "x"))
local macro_rules | `(tactic| walk_at "t") => `(tactic| (refine L2.iteT ?_; walk_at "x"))
local macro_rules | `(tactic| walk_at "is") => `(tactic| (walk_at "isi"; walk_at "x"))
local macro_rules | `(tactic| walk_at "xb") => `(tactic| (simp only [Br.bindS, List.set_cons_zero, List.set_cons_succ]; walk_at "x"))

section
variable {P : Program} {w : World} {K : PySem.W.Frag} {mg : Str → Option Value} {base : Heap}

open Br
theorem keep_tupsA {d n : Addr} {H H' : Hp} (k : Keep d H H') (h : Dr H d n) : Tups H H' := fun b xs e => by
  obtain ⟨_, _, h, _⟩ := h
  exact k _ _ e (ne_of e h (by intro z; cases z))
theorem PrAt.keepA {K : PySem.W.Frag} {C : Addr} {H H' : Hp} {d n p L : Addr} {as : List Addr} {ss : List Stp} {m c i : Nat} (h : PrAt K C H p L as ss m c i) (hL : L ≠ d) (hD : Dr H d n) (k : Keep d H H') : PrAt K C H' p L as ss m c i := by
  obtain ⟨dx, h1, h2⟩ := h.ob
  refine ⟨⟨dx, ?_, h2⟩, k _ _ h.lst hL, h.st.tups (keep_tupsA k hD)⟩
  obtain ⟨_, _, h3, _⟩ := hD
  exact k _ _ h1 (ne_of h1 h3 (by intro z; cases z))
theorem new_progA {C : Addr} {H1 : Hp} {L0 : Addr} {as : List Addr} {ss : List Stp} {m c i : Nat} {R : Addr → Hp → Prop} {E : XK} (hC : PC K C) (hl : H1 L0 = some (.lst (as.map V.ref))) (hst : StpsAt H1 as ss) (ok : PrOk ss m c i)
    (q : ∀ p L' H', H1 L' = none → Same H1 H' → PrAt K C H' p L' as ss m c i → R p H') : ∀ x dx, H1 x = none → H1 dx = none → dx ≠ x → sp_Program___init K [.ref x, .int (m : Int), .int (c : Int), .int (i : Int), .ref L0] (upd (upd H1 dx (.own x)) x (.ins C dx [])) (fun v H2 => v = .non ∧ R x H2) E :=
  new_prog (Q := fun v H => match v with | .ref a => R a H | _ => False) hC hl hst ok q

/-- inputs below the bound alone -/
def InQ (q : Nat) : SN → Prop
  | .inp c => c < q
  | _ => True

structure SrcJ (H0 : Hp) (q : Nat) (d nn na la : Addr) (k : Nat) (H : Hp) (as : List Addr) (ns : List SN) : Prop where
  dr : Dr H d nn
  kp : Keep d H0 H
  na : H na = some (.lst (as.map V.ref))
  la : H la = some (.lst (cInts (costsF ns)))
  al : as.length = k
  nl : ns.length = k
  at_ : ∀ (i : Nat) n a, ns[i]? = some n → as[i]? = some a → H a = some (.tup (snV n))
  ok : ∀ (i : Nat) n, ns[i]? = some n → SnOk i n ∧ InQ q n
  most : ∀ i, (costsF ns).getD i 0 ≤ 300
theorem maxK {k : Nat} {z : Int} : ∃ i : Nat, z % (if (k : Int) > 1 then (k : Int) else 1) = (i : Int) ∧ (0 < k → i < k) := by
  have hp : 0 < (if (k : Int) > 1 then (k : Int) else 1) := by split <;> omega
  have h0 := Int.emod_nonneg z (show (if (k : Int) > 1 then (k : Int) else 1) ≠ 0 by omega)
  have h1 := Int.emod_lt_of_pos z hp
  refine ⟨(z % (if (k : Int) > 1 then (k : Int) else 1)).toNat, by omega, fun hk => ?_⟩
  split at h0 <;> omega
theorem nat_ix {cs : List Nat} {i : Nat} (h : i < cs.length) : (cInts cs)[i]? = some (.int ((cs.getD i 0 : Nat) : Int)) := by
  unfold cInts
  rw [List.getElem?_map, List.getElem?_eq_getElem h, List.getD_eq_getElem?_getD, List.getElem?_eq_getElem h]
  rfl
def sp_law_source (K : PySem.W.Frag) : Sp := fun vs H Q _ => ∃ (d n : Addr) (m q : Nat), vs = [.ref d, .int (m : Int), .int (q : Int)] ∧ 1 ≤ m ∧ m ≤ 10 ∧ 1 ≤ q ∧ q ≤ 4 ∧ Dr H d n ∧
  RetG d n (fun v H' => ∃ (t : Addr) (ns : List SN), v = .ref t ∧ DAt d H' (.ref t) (.tuple (ns.map snD)) ∧ SsOk ns ∧ ns.length ≤ 10 ∧ costF ns ≤ 300 ∧ ∀ (i : Nat) n, ns[i]? = some n → InQ q n) H Q
theorem ok_law_source (T : Txt K mg) : FnOk P w K mg base CX0 3 T.a_law_source T.fd_law_source ["draws", "many", "inputs"] (sp_law_source K) := by
  refine T.F_law_source.ok sc_law_source (fun vs H Q E h => ?_) (fun cdv A outer s H vs Q E hr h => ?_)
  · obtain ⟨d, n, m, q, rfl, _⟩ := h
    rfl
  · obtain ⟨d, n, m, q0, rfl, m1, m9, q1, q4, hD, q⟩ := h
    refine ⟨_, (pss_cons (ps_set (i := 3) sc_law_source.nd rfl (.inl rfl) (pe_lst pa_nil))
      (pss_cons (ps_set (i := 4) sc_law_source.nd rfl (.inl rfl) (pe_lst pa_nil))
      (pss_cons (ps_for PassesOwn.never rfl (pi_range1 (by rfl) T.m_range (pa_cons (pv 1) pa_nil)) (pg_name (i := 5) sc_law_source.nd rfl (Or.inl rfl))
      (pss_cons (ps_set (i := 6) sc_law_source.nd rfl (.inl rfl) (pe_op op_mod (pe_call (ok_law_draw T) hr (by rfl) T.g_law_draw T.F_law_draw.kp T.b_law_draw .nil pass0 (pa_cons (pv 0) pa_nil)) pe_int))
      (pss_cons (ps_set (i := 7) sc_law_source.nd rfl (.inl rfl) (pe_op op_mod (pe_call (ok_law_draw T) hr (by rfl) T.g_law_draw T.F_law_draw.kp T.b_law_draw .nil pass0 (pa_cons (pv 0) pa_nil)) (pe_callB (id := "max") (r := rMax2) (cr_max2 rfl) (by rfl) T.m_max (by decide +kernel) (pa_cons pe_int (pa_cons (pv 5) pa_nil)))))
      (pss_cons (ps_set (i := 8) sc_law_source.nd rfl (.inl rfl) (pe_op op_mod (pe_call (ok_law_draw T) hr (by rfl) T.g_law_draw T.F_law_draw.kp T.b_law_draw .nil pass0 (pa_cons (pv 0) pa_nil)) (pe_callB (id := "max") (r := rMax2) (cr_max2 rfl) (by rfl) T.m_max (by decide +kernel) (pa_cons pe_int (pa_cons (pv 5) pa_nil)))))
      (pss_cons (ps_set (i := 9) sc_law_source.nd rfl (.inl rfl) (pe_op op_mod (pe_call (ok_law_draw T) hr (by rfl) T.g_law_draw T.F_law_draw.kp T.b_law_draw .nil pass0 (pa_cons (pv 0) pa_nil)) (pe_callB (id := "max") (r := rMax2) (cr_max2 rfl) (by rfl) T.m_max (by decide +kernel) (pa_cons pe_int (pa_cons (pv 5) pa_nil)))))
      (pss_cons (ps_set (i := 10) sc_law_source.nd rfl (.inl rfl) (pe_tup (pa_cons pe_str (pa_cons (pe_op op_mod (pe_call (ok_law_draw T) hr (by rfl) T.g_law_draw T.F_law_draw.kp T.b_law_draw .nil pass0 (pa_cons (pv 0) pa_nil)) (pv 2)) pa_nil))))
      (pss_cons (ps_set (i := 11) sc_law_source.nd rfl (.inl rfl) pe_int)
      (Evl.pss_cut (ps_if (PW.pt (pw_and (pt_cmpR op_gt (pv 5) pe_int (nomark _)) (pw_and1 (pt_cmpR op_lt (pv 6) pe_int (nomark _)))))
      (pss_cons (ps_set (i := 10) sc_law_source.nd rfl (.inl rfl) (pe_tup (pa_cons pe_str (pa_cons (pv 7) (pa_cons (pv 8) pa_nil)))))
      (pss_one (ps_set (i := 11) sc_law_source.nd rfl (.inl rfl) (pe_op op_add (pe_ix (r := rIxL K) ix_list (pv 4) (pv 7) (fun _ _ => rfl)) (pe_ix (r := rIxL K) ix_list (pv 4) (pv 8) (fun _ _ => rfl))))))
      (pss_one (ps_if (PW.pt (pw_and (pt_cmpR op_gt (pv 5) pe_int (nomark _)) (pw_and1 (pt_cmpR op_lt (pv 6) pe_int (nomark _)))))
      (pss_cons (ps_set (i := 10) sc_law_source.nd rfl (.inl rfl) (pe_tup (pa_cons pe_str (pa_cons (pv 7) (pa_cons (pv 8) pa_nil)))))
      (pss_one (ps_set (i := 11) sc_law_source.nd rfl (.inl rfl) (pe_op op_mul pe_int (pe_op op_add (pe_ix (r := rIxL K) ix_list (pv 4) (pv 7) (fun _ _ => rfl)) (pe_ix (r := rIxL K) ix_list (pv 4) (pv 8) (fun _ _ => rfl)))))))
      (pss_one (ps_if (PW.pt (pw_and (pt_cmpR op_gt (pv 5) pe_int (nomark _)) (pw_and1 (pt_cmpR op_eq (pv 6) pe_int (nomark _)))))
      (pss_cons (ps_set (i := 10) sc_law_source.nd rfl (.inl rfl) (pe_tup (pa_cons pe_str (pa_cons (pv 7) (pa_cons (pv 8) (pa_cons (pv 9) pa_nil))))))
      (pss_one (ps_set (i := 11) sc_law_source.nd rfl (.inl rfl) (pe_op op_add (pe_ix (r := rIxL K) ix_list (pv 4) (pv 9) (fun _ _ => rfl)) (pe_op op_mul pe_int (pe_op op_add (pe_op op_add (pe_ix (r := rIxL K) ix_list (pv 4) (pv 7) (fun _ _ => rfl)) (pe_ix (r := rIxL K) ix_list (pv 4) (pv 8) (fun _ _ => rfl))) (pe_ix (r := rIxL K) ix_list (pv 4) (pv 9) (fun _ _ => rfl))))))))
      (pss_one (ps_if (PW.pt (pw_and (pt_cmpR op_gt (pv 5) pe_int (nomark _)) (pw_and1 (pt_cmpR op_eq (pv 6) pe_int (nomark _)))))
      (pss_cons (ps_set (i := 10) sc_law_source.nd rfl (.inl rfl) (pe_tup (pa_cons pe_str (pa_cons (pe_call (ok_law_draw T) hr (by rfl) T.g_law_draw T.F_law_draw.kp T.b_law_draw .nil pass0 (pa_cons (pv 0) pa_nil)) (pa_cons (pv 7) pa_nil)))))
      (pss_one (ps_set (i := 11) sc_law_source.nd rfl (.inl rfl) (pe_ix (r := rIxL K) ix_list (pv 4) (pv 7) (fun _ _ => rfl)))))
      (pss_one (ps_if (pt_cmpR op_eq (pv 6) pe_int (nomark _))
      (pss_one (ps_set (i := 10) sc_law_source.nd rfl (.inl rfl) (pe_tup (pa_cons pe_str (pa_cons (pe_call (ok_law_draw T) hr (by rfl) T.g_law_draw T.F_law_draw.kp T.b_law_draw .nil pass0 (pa_cons (pv 0) pa_nil)) pa_nil)))))
      pss_nil)))))))))
      (Evl.pss_cut (ps_if (pt_cmpR op_gt (pv 11) pe_int (nomark _))
      (pss_cons (ps_set (i := 10) sc_law_source.nd rfl (.inl rfl) (pe_tup (pa_cons pe_str (pa_cons (pe_call (ok_law_draw T) hr (by rfl) T.g_law_draw T.F_law_draw.kp T.b_law_draw .nil pass0 (pa_cons (pv 0) pa_nil)) pa_nil))))
      (pss_one (ps_set (i := 11) sc_law_source.nd rfl (.inl rfl) pe_int)))
      pss_nil)
      (pss_cons (ps_expr (pe_bm PySem.F.plainAttrs_list PySem.F.slot_list_append PySem.F.type_list_append mt_append (pv 3) (pa_cons (pv 10) pa_nil)))
      (pss_one (ps_expr (pe_bm PySem.F.plainAttrs_list PySem.F.slot_list_append PySem.F.type_list_append mt_append (pv 4) (pa_cons (pv 11) pa_nil))))))))))))))
      (pss_one (ps_ret (pe_callTy (T := "tuple") (r := rTupOf K) cr_tup_of (by rfl) T.m_tuple (by decide +kernel) (pa_cons (pv 3) pa_nil))))))), ?_⟩
    walk_at "start"
    walk_at "x"
    refine ⟨by show 0 ≤ sizeLine; decide, fun na hna => ?_⟩
    have hnd := hD.new hna
    have hnn := hD.newN hna
    have s1 := same_upd (o := .lst []) hna
    have e1 : (upd H na (.lst [])) na = some (.lst (([] : List Addr).map V.ref)) := upd_same
    have hD1 := hD.same s1
    generalize upd H na (.lst []) = H1 at s1 e1 hD1
    walk_at "x"
    refine ⟨by show 0 ≤ sizeLine; decide, fun la hla => ?_⟩
    have hld := hD1.new hla
    have hln := hD1.newN hla
    have hnl : na ≠ la := ne_of_none e1 hla
    have hla0 : H la = none := s1.free hla
    have s2 := same_upd (o := .lst []) hla
    have e2 := s2 _ _ e1
    have e3 : (upd H1 la (.lst [])) la = some (.lst (cInts (costsF []))) := upd_same
    have hD2 := hD1.same s2
    generalize upd H1 la (.lst []) = H2 at s2 e2 e3 hD2
    walk_at "x"
    refine x_forR1 (m : Int) (fun k σ' H' => ∃ as ns v5 v6 v7 v8 v9 v10 v11, σ' = [some (.ref d), some (.int (m : Int)), some (.int (q0 : Int)), some (.ref na), some (.ref la), v5, v6, v7, v8, v9, v10, v11] ∧ SrcJ H q0 d n na la k H' as ns) (fun R r => ⟨_, rfl, r⟩) (by omega) (by omega) ⟨[], [], _, _, _, _, _, _, _, rfl, ⟨hD2, Same.keep (s1.trans s2), e2, e3, rfl, rfl, fun i x a h _ => by simp at h, fun i x h => by simp at h, fun i => by simp [costsF, scanF]⟩⟩ ?_ ?_
    · clear s1 e1 hD1 s2 e2 e3 hD2
      rintro k σ' H3 hk ⟨as, ns, v5, v6, v7, v8, v9, v10, v11, rfl, J⟩
      have hcl : (costsF ns).length = k := by rw [costs_len, J.nl]
      walk_at "x"
      have hD3 := J.dr
      refine ⟨d, n, rfl, hD3, ?_⟩
      rintro _ H4 ⟨z, rfl, z0, z1⟩ hD4 k4
      walk_at "x"
      refine ⟨d, n, rfl, hD4, ?_⟩
      rintro _ H5 ⟨y, rfl, y0, y1⟩ hD5 k5
      walk_at "x"
      obtain ⟨i, ei, hi⟩ := maxK (k := k) (z := y)
      rw [ei]
      walk_at "x"
      refine ⟨d, n, rfl, hD5, ?_⟩
      rintro _ H6 ⟨w, rfl, w0, w1⟩ hD6 k6
      walk_at "x"
      obtain ⟨j, ej, hj⟩ := maxK (k := k) (z := w)
      rw [ej]
      walk_at "x"
      refine ⟨d, n, rfl, hD6, ?_⟩
      rintro _ H7 ⟨x, rfl, x0, x1⟩ hD7 k7
      walk_at "x"
      obtain ⟨l, el, hl⟩ := maxK (k := k) (z := x)
      rw [el]
      walk_at "x"
      refine ⟨d, n, rfl, hD7, ?_⟩
      rintro _ H8 ⟨u, rfl, u0, u1⟩ hD8 k8
      walk_at "x"
      obtain ⟨c, ec, hc⟩ : ∃ c : Nat, u % (q0 : Int) = (c : Int) ∧ c < q0 := by
        have h0 := Int.emod_nonneg u (show (q0 : Int) ≠ 0 by omega)
        have h1 := Int.emod_lt_of_pos u (show (0 : Int) < q0 by omega)
        exact ⟨(u % (q0 : Int)).toNat, by omega, by omega⟩
      rw [ec]
      refine ⟨by show 2 ≤ sizeLine; decide, fun t0 ht0 => ?_⟩
      have s9 := same_upd (o := .tup [V.str "input", .int (c : Int)]) ht0
      have e9 : (upd H8 t0 (.tup [V.str "input", .int (c : Int)])) t0 = some (.tup (snV (.inp c))) := upd_same
      have hD9 := hD8.same s9
      generalize upd H8 t0 (.tup [V.str "input", .int (c : Int)]) = H9 at s9 e9 hD9
      have k39 : Keep d H3 H9 := ((((k4.trans k5).trans k6).trans k7).trans k8).trans (Same.keep s9)
      clear k4 k5 k6 k7 k8 s9 hD4 hD5 hD6 hD7 hD8
      walk_at "x"
      have hla9 := k39 _ _ J.la hld
      have hmost := J.most
      have gat : ∀ {H' : Hp}, Keep d H9 H' → ∀ i, i < k → (∀ R : V → Hp → Prop, R (.int (((costsF ns).getD i 0 : Nat) : Int)) H' → rIxL K (.ref la) (.int (i : Int)) H' R) := fun {H'} kk i hi R r => x_ixL (v := .int (((costsF ns).getD i 0 : Nat) : Int)) (sq_of (kk _ _ hla9 hld)) (atI_nat (nat_ix (by omega))) r
      refine x_cut (fun σ' H' => ∃ (b : SN) (t : Addr), σ' = [some (.ref d), some (.int (m : Int)), some (.int (q0 : Int)), some (.ref na), some (.ref la), some (.int (k : Int)), some (.int (z % 8)), some (.int (i : Int)), some (.int (j : Int)), some (.int (l : Int)), some (.ref t), some (.int ((cost1 (costsF ns) b : Nat) : Int))] ∧ H' t = some (.tup (snV b)) ∧ SnOk k b ∧ InQ q0 b ∧ Dr H' d n ∧ Keep d H9 H') ?_ ?_
      · walk_at "x"
        by_cases hk0 : 0 < k
        · have hk0' : (0 : Int) < (k : Int) := by omega
          refine x_ite (fun _ => ?_) (fun h => absurd hk0' h)
          walk_at "x"
          refine x_ite (fun h0 => ?_) (fun h0 => ?_)
          · skip
            walk_at "x"
            refine ⟨by show 3 ≤ sizeLine; decide, fun t ht => ?_⟩
            have up := same_upd (o := .tup [V.str "sum", .int (i : Int), .int (j : Int)]) ht
            have e10 : (upd H9 t (.tup [V.str "sum", .int (i : Int), .int (j : Int)])) t = some (.tup (snV (.sum i j))) := upd_same
            have hDA := hD9.same up
            have kA : Keep d H9 _ := Same.keep (d := d) up
            generalize upd H9 t (.tup [V.str "sum", .int (i : Int), .int (j : Int)]) = HA at up e10 hDA kA
            walk_at "x"
            refine gat kA i (hi hk0) _ ?_
            walk_at "x"
            refine gat kA j (hj hk0) _ ?_
            walk_at "x"
            exact ⟨.sum i j, t, by congr 12 <;> first | rfl | (show _ = _; unfold cost1; omega), e10, ⟨hi hk0, hj hk0⟩, trivial, hDA, kA⟩
          · walk_at "x"
            refine x_ite (fun _ => ?_) (fun h => absurd hk0' h)
            walk_at "x"
            refine x_ite (fun h1 => ?_) (fun h1 => ?_)
            · skip
              walk_at "x"
              refine ⟨by show 3 ≤ sizeLine; decide, fun t ht => ?_⟩
              have up := same_upd (o := .tup [V.str "product", .int (i : Int), .int (j : Int)]) ht
              have e10 : (upd H9 t (.tup [V.str "product", .int (i : Int), .int (j : Int)])) t = some (.tup (snV (.prod i j))) := upd_same
              have hDA := hD9.same up
              have kA : Keep d H9 _ := Same.keep (d := d) up
              generalize upd H9 t (.tup [V.str "product", .int (i : Int), .int (j : Int)]) = HA at up e10 hDA kA
              walk_at "x"
              refine gat kA i (hi hk0) _ ?_
              walk_at "x"
              refine gat kA j (hj hk0) _ ?_
              walk_at "x"
              exact ⟨.prod i j, t, by congr 12 <;> first | rfl | (show _ = _; unfold cost1; omega), e10, ⟨hi hk0, hj hk0⟩, trivial, hDA, kA⟩
            · walk_at "x"
              refine x_ite (fun _ => ?_) (fun h => absurd hk0' h)
              walk_at "x"
              refine x_ite (fun h2 => ?_) (fun h2 => ?_)
              · skip
                walk_at "x"
                refine ⟨by show 4 ≤ sizeLine; decide, fun t ht => ?_⟩
                have up := same_upd (o := .tup [V.str "choose", .int (i : Int), .int (j : Int), .int (l : Int)]) ht
                have e10 : (upd H9 t (.tup [V.str "choose", .int (i : Int), .int (j : Int), .int (l : Int)])) t = some (.tup (snV (.cho i j l))) := upd_same
                have hDA := hD9.same up
                have kA : Keep d H9 _ := Same.keep (d := d) up
                generalize upd H9 t (.tup [V.str "choose", .int (i : Int), .int (j : Int), .int (l : Int)]) = HA at up e10 hDA kA
                walk_at "x"
                refine gat kA l (hl hk0) _ ?_
                walk_at "x"
                refine gat kA i (hi hk0) _ ?_
                walk_at "x"
                refine gat kA j (hj hk0) _ ?_
                walk_at "x"
                refine gat kA l (hl hk0) _ ?_
                walk_at "x"
                exact ⟨.cho i j l, t, by congr 12 <;> first | rfl | (show _ = _; unfold cost1; omega), e10, ⟨hi hk0, hj hk0, hl hk0⟩, trivial, hDA, kA⟩
              · walk_at "x"
                refine x_ite (fun _ => ?_) (fun h => absurd hk0' h)
                walk_at "x"
                refine x_ite (fun h5 => ?_) (fun h5 => ?_)
                · walk_at "x"
                  refine ⟨d, n, rfl, hD9, ?_⟩
                  rintro _ HB ⟨g, rfl, g0, g1⟩ hDB kB
                  walk_at "x"
                  refine ⟨by show 3 ≤ sizeLine; decide, fun t ht => ?_⟩
                  have up := same_upd (o := .tup [V.str "scaled", .int g, .int (i : Int)]) ht
                  have e10 : (upd HB t (.tup [V.str "scaled", .int g, .int (i : Int)])) t = some (.tup (snV (.scl g.toNat i))) := by rw [upd_same]; show some (HO.tup [V.str "scaled", .int g, .int (i : Int)]) = some (.tup [V.str "scaled", .int ((g.toNat : Nat) : Int), .int (i : Int)]); rw [Int.toNat_of_nonneg g0]
                  have hDA := hDB.same up
                  have kA : Keep d H9 _ := kB.trans (Same.keep (d := d) up)
                  generalize upd HB t (.tup [V.str "scaled", .int g, .int (i : Int)]) = HA at up e10 hDA kA
                  walk_at "x"
                  refine gat kA i (hi hk0) _ ?_
                  walk_at "x"
                  exact ⟨.scl g.toNat i, t, rfl, e10, ⟨by omega, hi hk0⟩, trivial, hDA, kA⟩
                · walk_at "x"
                  refine x_ite (fun h6 => ?_) (fun h6 => ?_)
                  · walk_at "x"
                    refine ⟨d, n, rfl, hD9, ?_⟩
                    rintro _ HA ⟨g, rfl, g0, g1⟩ hDA kA
                    walk_at "x"
                    refine ⟨by show 2 ≤ sizeLine; decide, fun t ht => ?_⟩
                    walk_at "x"
                    have up := same_upd (o := .tup [V.str "const", .int g]) ht
                    exact ⟨.con g.toNat, t, rfl, by rw [upd_same]; show some (HO.tup [V.str "const", .int g]) = some (.tup [V.str "const", .int ((g.toNat : Nat) : Int)]); rw [Int.toNat_of_nonneg g0], by show g.toNat < 1000000000; omega, trivial, hDA.same up, kA.trans (Same.keep up)⟩
                  · walk_at "x"
                    exact ⟨.inp c, t0, rfl, e9, by show c < 60; omega, hc, hD9, Keep.refl _ _⟩
        · have hk0' : ¬ (0 : Int) < (k : Int) := by omega
          refine x_ite (fun h => absurd h hk0') (fun _ => ?_)
          walk_at "f"
          refine x_ite (fun h => absurd h hk0') (fun _ => ?_)
          walk_at "f"
          refine x_ite (fun h => absurd h hk0') (fun _ => ?_)
          walk_at "f"
          refine x_ite (fun h => absurd h hk0') (fun _ => ?_)
          walk_at "f"
          refine x_ite (fun h6 => ?_) (fun h6 => ?_)
          · walk_at "x"
            refine ⟨d, n, rfl, hD9, ?_⟩
            rintro _ HA ⟨g, rfl, g0, g1⟩ hDA kA
            walk_at "x"
            refine ⟨by show 2 ≤ sizeLine; decide, fun t ht => ?_⟩
            walk_at "x"
            have up := same_upd (o := .tup [V.str "const", .int g]) ht
            exact ⟨.con g.toNat, t, rfl, by rw [upd_same]; show some (HO.tup [V.str "const", .int g]) = some (.tup [V.str "const", .int ((g.toNat : Nat) : Int)]); rw [Int.toNat_of_nonneg g0], by show g.toNat < 1000000000; omega, trivial, hDA.same up, kA.trans (Same.keep up)⟩
          · walk_at "x"
            exact ⟨.inp c, t0, rfl, e9, by show c < 60; omega, hc, hD9, Keep.refl _ _⟩
      clear hD9 e9
      rintro σ' HA ⟨b0, tb0, rfl, hb0, okb0, inb0, hDA, kA⟩
      walk_at "x"
      refine x_cut (fun σ' H' => ∃ (b : SN) (t : Addr), σ' = [some (.ref d), some (.int (m : Int)), some (.int (q0 : Int)), some (.ref na), some (.ref la), some (.int (k : Int)), some (.int (z % 8)), some (.int (i : Int)), some (.int (j : Int)), some (.int (l : Int)), some (.ref t), some (.int ((cost1 (costsF ns) b : Nat) : Int))] ∧ H' t = some (.tup (snV b)) ∧ SnOk k b ∧ InQ q0 b ∧ Dr H' d n ∧ Keep d H9 H' ∧ cost1 (costsF ns) b ≤ 300) ?_ ?_
      · walk_at "x"
        refine x_ite (fun h6 => ?_) (fun h6 => ?_)
        · walk_at "x"
          refine ⟨d, n, rfl, hDA, ?_⟩
          rintro _ HB ⟨g, rfl, g0, g1⟩ hDB kB
          walk_at "x"
          refine ⟨by show 2 ≤ sizeLine; decide, fun t ht => ?_⟩
          walk_at "x"
          have up := same_upd (o := .tup [V.str "const", .int g]) ht
          exact ⟨.con g.toNat, t, rfl, by rw [upd_same]; show some (HO.tup [V.str "const", .int g]) = some (.tup [V.str "const", .int ((g.toNat : Nat) : Int)]); rw [Int.toNat_of_nonneg g0], by show g.toNat < 1000000000; omega, trivial, hDB.same up, (kA.trans kB).trans (Same.keep up), by show 1 ≤ 300; decide⟩
        · walk_at "x"
          exact ⟨b0, tb0, rfl, hb0, okb0, inb0, hDA, kA, by omega⟩
      clear hDA kA hb0 okb0 inb0
      rintro σ' HA ⟨b, t, rfl, hb, okb, inb, hDA, kA, hle⟩
      have k3A := k39.trans kA
      have tpA := keep_tupsA k3A hD3
      have e26 := k3A _ _ J.na hnd
      have e36 := k3A _ _ J.la hld
      walk_at "x"
      refine x_tyL e26 ?_
      walk_at "x"
      refine x_app e26 (by rw [List.length_map, J.al]; omega) ?_
      have e36' : (upd HA na (.lst (as.map V.ref ++ [.ref t]))) la = some (.lst (cInts (costsF ns))) := by rw [upd_ne hnl.symm]; exact e36
      have eA : (upd HA na (.lst (as.map V.ref ++ [.ref t]))) na = some (.lst ((as ++ [t]).map V.ref)) := by rw [upd_same, List.map_append]; rfl
      have tpB : Tups HA (upd HA na (.lst (as.map V.ref ++ [.ref t]))) := (Tups.refl HA).put (no_tupL e26)
      have hDB := hDA.upd (o := .lst (as.map V.ref ++ [.ref t])) hnd hnn
      have kB : Keep d H _ := kput (o := .lst (as.map V.ref ++ [.ref t])) (J.kp.trans k3A) hna
      generalize upd HA na (.lst (as.map V.ref ++ [.ref t])) = HB at e36' eA tpB hDB kB
      walk_at "x"
      refine x_tyL e36' ?_
      walk_at "x"
      refine x_app e36' (by rw [cInts_len, hcl]; omega) ?_
      have tpC : Tups HB (upd HB la (.lst (cInts (costsF ns) ++ [.int ((cost1 (costsF ns) b : Nat) : Int)]))) := (Tups.refl HB).put (no_tupL e36')
      walk_at "x"
      refine ⟨as ++ [t], ns ++ [b], _, _, _, _, _, _, _, rfl, hDB.upd hld hln, kput kB hla0, by rw [upd_ne hnl]; exact eA, by rw [upd_same, costs_snoc, cInts_snoc], by rw [List.length_append, J.al]; rfl, by rw [List.length_append, J.nl]; rfl, fun i x a h1 h2 => ?_, fun i x h1 => ?_, fun i => ?_⟩
      · rcases snoc_at J.nl h1 with ⟨g1, h1⟩ | ⟨rfl, rfl⟩
        · rcases snoc_at J.al h2 with ⟨g2, h2⟩ | ⟨rfl, rfl⟩
          · exact tpC _ _ (tpB _ _ (tpA _ _ (J.at_ i x a h1 h2)))
          · omega
        · rcases snoc_at J.al h2 with ⟨g2, h2⟩ | ⟨_, rfl⟩
          · omega
          · exact tpC _ _ (tpB _ _ hb)
      · rcases snoc_at J.nl h1 with ⟨g1, h1⟩ | ⟨rfl, rfl⟩
        · exact J.ok i x h1
        · exact ⟨okb, inb⟩
      · rw [costs_snoc, List.getD_eq_getElem?_getD]
        by_cases hik : i < (costsF ns).length
        · rw [List.getElem?_append_left hik, ← List.getD_eq_getElem?_getD]
          exact hmost i
        · by_cases hie : i = (costsF ns).length
          · rw [List.getElem?_append_right (by omega), hie, Nat.sub_self]
            exact hle
          · rw [List.getElem?_eq_none (by rw [List.length_append]; show _ + 1 ≤ _; omega)]
            exact Nat.zero_le _
    · rintro σ' H3 ⟨as, ns, v5, v6, v7, v8, v9, v10, v11, rfl, J⟩
      obtain ⟨hD3, k3, e3, e4, hal, hnl2, hat, hok, hmost⟩ := J
      have hal : as.length = m := by omega
      have hnl2 : ns.length = m := by omega
      walk_at "x"
      refine x_tupL (sq_of e3) fun t ht => ?_
      have s6 := same_upd (o := .tup (as.map V.ref)) ht
      refine q _ _ ⟨t, ns, rfl, .tup upd_same ?_, ⟨by omega, by omega, fun i x h => (hok i x h).1⟩, by omega, hmost _, fun i x h => (hok i x h).2⟩ (hD3.same s6) (k3.trans (Same.keep s6))
      refine DAts.of (by rw [List.length_map, List.length_map, hnl2, hal]) fun i x e h1 h2 => ?_
      obtain ⟨b, hb, rfl⟩ := map_getR h1
      rw [List.getElem?_map] at h2
      cases hn : ns[i]? with
      | none => rw [hn] at h2; cases h2
      | some c =>
        rw [hn] at h2
        cases h2
        exact sn_dat (s6 _ _ (hat i c b hn hb))


end
end Br
namespace Br
open PySem PySem.Spec PyProof.Rows L2
local macro_rules | `(tactic| walk_at "x1") => `(tactic| (with_reducible first
  | refine Br.x_seq ?_ | refine Br.x_set ?_ | refine Br.x_asg ?_ | refine Br.x_next ?_ | refine Br.x_ret ?_ | refine Br.x_retN ?_ | refine Br.x_drop ?_ | refine Br.x_if ?_ | refine Br.x_brk ?_ | refine Br.x_cont ?_
  | refine Br.x_c ?_ | refine Br.x_op ?_ | refine Br.x_un ?_ | refine Br.x_I0 ?_ | refine Br.x_U ?_ | refine Br.x_EqI ?_ | refine Br.x_NeI ?_ | refine Br.x_EqB ?_ | refine Br.x_iN ?_ | refine Br.x_int1 ?_ | refine Br.x_min2 ?_ | refine Br.x_max2 ?_ | refine Br.x_nN ?_ | refine Br.x_ifE ?_
  | refine Br.x_test (b := ()) ?_ | refine Br.x_tB ?_ | refine Br.x_bl ?_ | refine Br.x_and ?_ | refine Br.x_or ?_ | refine Br.x_not ?_ | refine Br.x_andV ?_ | refine Br.x_orV ?_ | refine Br.x_notV ?_ | refine Br.x_blP ?_
  | refine Br.x_nil ?_ | refine Br.x_cons ?_ | refine Br.x_call ?_ | refine Br.x_CB ?_ | refine Br.x_BM ?_ | refine Br.x_tup ?_ | refine Br.x_lst ?_ | refine Br.x_chain ?_ | refine Br.x_par ?_ | refine Br.x_gSub ?_ | refine Br.x_gName ?_ | refine Br.x_fld ?_ | refine Br.x_fldS ?_ | refine Br.x_match ?_ | refine Br.x_else ?_ | refine Br.x_noCase ?_))
local macro_rules | `(tactic| walk_at "xv") => `(tactic| ((with_reducible refine' Br.x_var ?hvar ?_); (case hvar => rfl)))
local macro_rules | `(tactic| walk_at "xd") => `(tactic| (dsimp only [List.set_cons_zero, List.set_cons_succ, List.cons_append, List.nil_append, List.append_nil]))
local macro_rules | `(tactic| walk_at "xi") => `(tactic| ((with_reducible refine Br.x_I ?hside ?_); (case hside => first | exact Br.mul_r (by decide) (by decide) | exact Br.mul_l (by decide) (by decide) | exact Br.mul_l (by omega) (by omega) | exact Br.mul_r (by omega) (by omega) | (show (0 : Int) < _; first | decide | omega) | exact ⟨by decide, by decide⟩ | exact ⟨by omega, by omega⟩ | exact ⟨by decide, by decide, by decide⟩)))
local macro_rules | `(tactic| walk_at "x") => `(tactic| (repeat (first | walk_at "x1" | walk_at "xv" | walk_at "xi" | walk_at "xd")))
local macro_rules | `(tactic| walk_at "start") => `(tactic| (simp only [L2.start, List.map_cons, List.map_nil, List.length_cons, List.length_nil, Nat.reduceAdd, Nat.reduceSub, List.replicate, List.cons_append, List.nil_append, List.append_nil]))
local macro_rules | `(tactic| walk_at "isi") => `(tactic| first
  | refine Br.x_isi (b := true) (.base (.int _)) (by decide +kernel) ?_ | refine Br.x_isi (b := false) (.base (.int _)) (by decide +kernel) ?_
  | refine Br.x_isi (b := true) (.base (.bl _)) (by decide +kernel) ?_ | refine Br.x_isi (b := false) (.base (.bl _)) (by decide +kernel) ?_
  | refine Br.x_isi (b := false) (.base .non) (by decide +kernel) ?_
  | refine Br.x_isi (b := true) (.base (.str _)) (by decide +kernel) ?_ | refine Br.x_isi (b := false) (.base (.str _)) (by decide +kernel) ?_
  | refine Br.x_isi (b := true) (.base (.tup (by assumption))) (by decide +kernel) ?_ | refine Br.x_isi (b := false) (.base (.tup (by assumption))) (by decide +kernel) ?_
  | refine Br.x_isi (b := true) (.base (.lst (by assumption))) (by decide +kernel) ?_ | refine Br.x_isi (b := false) (.base (.lst (by assumption))) (by decide +kernel) ?_)
local macro_rules | `(tactic| walk_at "f") => `(tactic| (refine L2.iteF ?_; walk_at "x"))
local macro_rules | `(tactic| walk_at "t") => `(tactic| (refine L2.iteT ?_; walk_at "x"))
local macro_rules | `(tactic| walk_at "is") => `(tactic| (walk_at "isi"; walk_at "x"))
local macro_rules | `(tactic| walk_at "xb") => `(tactic| (simp only [Br.bindS, List.set_cons_zero, List.set_cons_succ]; walk_at "x"))

section
variable {P : Program} {w : World} {K : PySem.W.Frag} {mg : Str → Option Value} {base : Heap}

open Br

theorem cInts_dropS {cs : List Nat} {k : Nat} : (cInts cs).drop k = cInts (cs.drop k) := by unfold cInts; rw [List.map_drop]
theorem inV_natS {z : Nat} : ∀ {ms : List Nat}, inV (.int (z : Int)) (cInts ms) = decide (z ∈ ms)
  | [] => rfl
  | m :: ms => by
    show (eqV (.int (m : Int)) (.int (z : Int)) || inV (.int (z : Int)) (cInts ms)) = decide (z ∈ m :: ms)
    rw [inV_natS (ms := ms)]
    show (decide ((m : Int) = (z : Int)) || decide (z ∈ ms)) = _
    by_cases e : m = z
    · subst e; simp
    · have e2 : ¬ (m : Int) = (z : Int) := by omega
      simp [e2, Ne.symm e, eq_comm]
def sp_law_spread (K : PySem.W.Frag) : Sp := fun vs H Q _ => ∃ (d n ga : Addr) (as : List Addr) (gs : List Gt) (N : Nat), vs = [.ref d, .ref ga, .int (N : Int)] ∧ H ga = some (.lst (as.map V.ref)) ∧ ga ≠ d ∧ GtsAt H as gs ∧ (∀ g, g ∈ gs → GtOk N g) ∧ N ≤ 10 ∧ gs.length ≤ 1000 ∧ Dr H d n ∧
  RetG d n (fun v H' => ∃ (w : Addr) (bs : List Addr) (ws : List Gt), v = .ref w ∧ w ≠ d ∧ H' w = some (.lst (bs.map V.ref)) ∧ GtsAt H' bs ws ∧ (∀ g, g ∈ ws → GtOk N g) ∧ ws.length ≤ 40000 ∧ ∀ bits : List Bool, bits.length = N → perfF ws bits = perfF gs bits) H Q
theorem ok_law_spread (T : Txt K mg) : FnOk P w K mg base CX0 6 T.a_law_spread T.fd_law_spread ["draws", "gates", "many"] (sp_law_spread K) := by
  refine T.F_law_spread.ok sc_law_spread (fun vs H Q E h => ?_) (fun cdv A outer s H vs Q E hr h => ?_)
  · obtain ⟨d, n, ga, as, gs, N, rfl, _⟩ := h
    rfl
  · obtain ⟨d, n, ga, as, gs, N, rfl, hga, hgad, hG, ok, N10, g9, hD, q⟩ := h
    have hal := hG.1
    refine ⟨_, (pss_cons (ps_set (i := 3) sc_law_spread.nd rfl (.inl rfl) (pe_lst pa_nil))
      (pss_cons (ps_for PassesOwn.never rfl (pi_list (pv 1)) (pg_tup rfl (pgs_cons (pg_name (i := 4) sc_law_spread.nd rfl (Or.inr rfl)) (pgs_cons (pg_name (i := 5) sc_law_spread.nd rfl (Or.inr rfl)) pgs_nil)))
      (pss_cons (ps_setLc (i := 6) (own := [("bit", 8)]) (g := gName 8) (tt := _) rfl sc_law_spread.nd rfl rfl (sw_true rfl rfl rfl (by decide +kernel)) (pi_range1 (by rfl) T.m_range (pa_cons (pv 2) pa_nil)) (blkOk_by (N := N_law_spread) (sc := defScope s_law_spread) (by decide +kernel)) (fun _ _ _ _ _ => (pg_name (i := 8) sc_law_spread.nd rfl (Or.inl rfl))) (fun _ _ _ _ _ => (pts_one (PW.pt (pw_and (pt_cmpR op_ne (pv 8) (pv 4) (nomark _)) (pw_and1 (pt_cmpR (r := rIn K true) op_notIn_seq (pv 8) (pv 5) (by with_unfolding_all rfl))))))) (fun _ _ _ _ _ => (pv 8)))
      (pss_cons (ps_set (i := 7) sc_law_spread.nd rfl (.inl rfl) (pe_callB (id := "max") (r := rMax2) (cr_max2 rfl) (by rfl) T.m_max (by decide +kernel) (pa_cons pe_int (pa_cons (pe_op op_sub (pe_callB (id := "len") (r := rLen K) cr_len (by rfl) T.m_len PySem.boot_len (pa_cons (pv 5) pa_nil)) pe_int) pa_nil))))
      (pss_one (ps_if (PW.pt (pw_and (pt_cmpR op_ge (pe_callB (id := "len") (r := rLen K) cr_len (by rfl) T.m_len PySem.boot_len (pa_cons (pv 6) pa_nil)) (pv 7) (nomark _)) (pw_and1 (pt_cmpR op_eq (pe_op op_mod (pe_call (ok_law_draw T) (hr.mono (by decide)) (by rfl) T.g_law_draw T.F_law_draw.kp T.b_law_draw .nil pass0 (pa_cons (pv 0) pa_nil)) pe_int) pe_int (nomark _)))))
      (pss_one (ps_expr (pe_bm PySem.F.plainAttrs_list PySem.F.slot_list_extend PySem.F.type_list_extend mt_extend (pv 3) (pa_cons (pe_call (ok_spread T) hr (by rfl) T.g_spread T.F_spread.kp T.b_spread .nil passL (pa_cons (pv 4) (pa_cons (pv 5) (pa_cons (pe_slice (r := rSlL K) sl_list (pv 6) (po_some (pe_op op_sub (pe_callB (id := "len") (r := rLen K) cr_len (by rfl) T.m_len PySem.boot_len (pa_cons (pv 6) pa_nil)) (pv 7))) po_none) pa_nil)))) pa_nil))))
      (pss_one (ps_expr (pe_bm PySem.F.plainAttrs_list PySem.F.slot_list_append PySem.F.type_list_append mt_append (pv 3) (pa_cons (pe_tup (pa_cons (pv 4) (pa_cons (pv 5) pa_nil))) pa_nil)))))))))
      (pss_one (ps_ret (pv 3))))), ?_⟩
    walk_at "start"
    walk_at "x"
    refine ⟨by show 0 ≤ sizeLine; decide, fun w hw => ?_⟩
    have hwd := hD.new hw
    have hwn := hD.newN hw
    have s1 := same_upd (o := .lst []) hw
    have e1 : (upd H w (.lst [])) w = some (.lst (([] : List Addr).map V.ref)) := upd_same
    have hD1 := hD.same s1
    generalize upd H w (.lst []) = H1 at s1 e1 hD1
    walk_at "x"
    refine x_forL (p := ga) (as.map V.ref) (fun k σ' H' => ∃ v4 v5 v6 v7 v8, (∃ bs ws, σ' = [some (.ref d), some (.ref ga), some (.int (N : Int)), some (.ref w), v4, v5, v6, v7, v8] ∧ Dr H' d n ∧ Keep d H H' ∧ H' w = some (.lst (bs.map V.ref)) ∧ GtsAt H' bs ws ∧ (∀ g, g ∈ ws → GtOk N g) ∧ ws.length ≤ k * 32 ∧ ∀ bits : List Bool, bits.length = N → perfF ws bits = perfF (gs.take k) bits)) (fun R r => ⟨_, rfl, r⟩) (sq_of (s1 _ _ hga)) ⟨_, _, _, _, _, [], [], rfl, hD1, Same.keep s1, e1, ⟨rfl, fun j x b h _ => by simp at h⟩, fun g h => by simp at h, Nat.zero_le _, fun _ _ => rfl⟩ (fun k σ' H' _ z => by obtain ⟨_, _, _, _, _, _, _, _, _, z, _⟩ := z; exact sq_of (z _ _ hga hgad)) ?_ ?_
    · rintro k x σ' H2 hx ⟨v4, v5, v6, v7, v8, bs, ws, rfl, hD2, k2, e2, hW, okW, hwl, hrun⟩
      obtain ⟨b, hb, rfl⟩ := map_getR hx
      obtain ⟨⟨t, cs⟩, hg, hat⟩ := hG.get hb
      have hkg : k < gs.length := (List.getElem?_eq_some_iff.mp hg).1
      have okg := ok _ (List.mem_of_getElem? hg)
      have htk : gs.take (k + 1) = gs.take k ++ [(t, cs)] := take_snocG hg
      obtain ⟨c, h1, h2⟩ := hat.tups (keep_tupsA k2 hD)
      have hcl : cs.length ≤ N := okg.len
      have t9 : t < N := okg.t
      refine x_gTup2 (st_of h1) ?_
      walk_at "x"
      refine x_lcRT (N : Int) (fun o j H' => Same H2 H' ∧ ∃ fr : List Nat, H' o = some (.lst (cInts fr)) ∧ fr.Pairwise (· < ·) ∧ (∀ x, x ∈ fr → x < j ∧ x ≠ t ∧ x ∉ cs) ∧ fr.length ≤ j) (fun R r => ⟨_, rfl, r⟩) (by omega) (by omega) (fun o ho => ⟨same_upd ho, [], upd_same, .nil, fun x h => by simp at h, Nat.le_refl _⟩) (fun x => rfl) ?_ ?_
      · rintro o j H3 ho hj ⟨s3, fr, e3, hup, hfr, hfl⟩
        have skip : Same H2 H3 ∧ ∃ fr : List Nat, H3 o = some (.lst (cInts fr)) ∧ fr.Pairwise (· < ·) ∧ (∀ x, x ∈ fr → x < j + 1 ∧ x ≠ t ∧ x ∉ cs) ∧ fr.length ≤ j + 1 := ⟨s3, fr, e3, hup, fun x hx => ⟨by have := (hfr x hx).1; omega, (hfr x hx).2⟩, by omega⟩
        walk_at "x"
        refine x_iteN (fun hne => ?_) (fun heq => ?_)
        · walk_at "x"
          refine ⟨c, cInts cs, rfl, .inr (st_of (s3 _ _ h2)), rfl, by rw [List.all_eq_true]; intro y hy; obtain ⟨z, _, rfl⟩ := List.mem_map.mp hy; rfl, ?_⟩
          rw [if_pos rfl, inV_natS]
          walk_at "x"
          refine x_iteN (fun hin => ?_) (fun hin => ?_)
          · walk_at "x"
            refine ⟨_, e3, lt_line (by rw [cInts_len]; omega), sput s3 ho, fr ++ [j], by rw [upd_same, cInts_snoc], up_snoc hup fun x hx => (hfr x hx).1, fun x hx => ?_, by rw [List.length_append]; show _ + 1 ≤ _; omega⟩
            rcases List.mem_append.mp hx with hx | hx
            · exact ⟨by have := (hfr x hx).1; omega, (hfr x hx).2⟩
            · rw [List.mem_singleton.mp hx]
              exact ⟨by omega, by omega, hin⟩
          · exact skip
        · exact skip
      rintro o H3 ho ⟨s3, fr, e3, hup, hfr, hfl⟩
      have hod : o ≠ d := hD2.new ho
      have hD3 := hD2.same s3
      have e23 := s3 _ _ e2
      walk_at "x"
      refine x_lenT (st_of (s3 _ _ h2)) ?_
      rw [cInts_len]
      walk_at "x"
      obtain ⟨nd, end_, hnd⟩ : ∃ nd : Nat, (if (cs.length : Int) - 2 > 0 then (cs.length : Int) - 2 else 0) = (nd : Int) ∧ nd = cs.length - 2 := by
        split
        · exact ⟨cs.length - 2, by omega, rfl⟩
        · exact ⟨cs.length - 2, by omega, rfl⟩
      rw [end_]
      have nodup_t : (t :: cs).Nodup := by
        rw [List.nodup_cons]
        exact ⟨okg.ne, okg.up.imp fun h => by omega⟩
      have append_one : ∀ {H4 : Hp} {p : Addr} {R : VK}, Dr H4 d n → Keep d H2 H4 → H4 p = none → H4 c = some (.tup (cInts cs)) → (∀ H5, (∃ bs ws, Dr H5 d n ∧ Keep d H H5 ∧ H5 w = some (.lst (bs.map V.ref)) ∧ GtsAt H5 bs ws ∧ (∀ g, g ∈ ws → GtOk N g) ∧ ws.length ≤ (k + 1) * 32 ∧ ∀ bits : List Bool, bits.length = N → perfF ws bits = perfF (gs.take (k + 1)) bits) → R .non H5) → rAppend (.ref w) [.ref p] (upd H4 p (.tup [.int (t : Int), .ref c])) R := fun {H4 p R} hD4 k4 hp hc4 r => by
        have e4 := k4 _ _ e2 hwd
        have hwp : w ≠ p := ne_of_none e4 hp
        have up := same_upd (o := .tup [V.int (t : Int), .ref c]) hp
        have hg4 : GtAt (upd H4 p (.tup [.int (t : Int), .ref c])) p (t, cs) := ⟨c, upd_same, up _ _ hc4⟩
        have hT : Tups (upd H4 p (.tup [.int (t : Int), .ref c])) (upd (upd H4 p (.tup [.int (t : Int), .ref c])) w (.lst (bs.map V.ref ++ [V.ref p]))) := (Tups.refl _).put (fun ys e => by rw [upd_ne hwp, e4] at e; cases e)
        refine x_app (by rw [upd_ne hwp]; exact e4) (by rw [List.length_map, hW.1]; omega) (r _ ⟨bs ++ [p], ws ++ [(t, cs)], (hD4.upd0 hp).upd hwd hwn, kput (kput (k2.trans k4) (k2.free hD2 (k4.free hD4 hp))) hw, by rw [upd_same, List.map_append]; rfl, (((hW.tups (keep_tupsA k4 hD2)).tups (Tups.same up)).tups hT).snoc (hg4.tups hT), fun g hg => ?_, by rw [List.length_append]; show _ + 1 ≤ _; omega, fun bits hl => ?_⟩)
        · rcases List.mem_append.mp hg with h | h
          · exact okW g h
          · rw [List.mem_singleton.mp h]; exact okg
        · rw [perfF_snoc, hrun bits hl, htk, perfF_snoc]
      walk_at "x"
      refine x_len (sq_of e3) ?_
      rw [cInts_len]
      walk_at "x"
      refine x_ite (fun hc => ?_) (fun hc => ?_)
      · walk_at "x"
        refine ⟨d, n, rfl, hD3, ?_⟩
        rintro _ H4 ⟨z, rfl, _, _⟩ hD4 k4
        have k24 := (Same.keep (d := d) s3).trans k4
        have e34 := k4 _ _ e3 hod
        have hc4 := k24 _ _ h2 (by obtain ⟨_, _, h, _⟩ := hD2; exact ne_of h2 h (by intro z; cases z))
        walk_at "x"
        refine x_ite (fun hc2 => ?_) (fun hc2 => ?_)
        · walk_at "x"
          have e24 := k24 _ _ e2 hwd
          refine x_tyL e24 ?_
          walk_at "x"
          refine x_sl2 ?_
          walk_at "x"
          refine x_part1 ?_
          walk_at "x"
          refine x_len (sq_of e34) ?_
          walk_at "x"
          rw [cInts_len]
          refine ⟨_, rfl, x_part0 (x_cutL (sq_of e34) fun bo hbo => ?_)⟩
          rw [show (fr.length : Int) - (nd : Int) = ((fr.length - nd : Nat) : Int) by omega, cut_dropS, cInts_dropS]
          have sS := same_upd (o := .lst (cInts (fr.drop (fr.length - nd)))) hbo
          have eS : (upd H4 bo (.lst (cInts (fr.drop (fr.length - nd))))) bo = some (.lst (cInts (fr.drop (fr.length - nd)))) := upd_same
          have hDS := hD4.same sS
          have hbod : bo ≠ d := hD4.new hbo
          generalize upd H4 bo (.lst (cInts (fr.drop (fr.length - nd)))) = HS at sS eS hDS
          obtain ⟨bb, hbb⟩ : ∃ bb, fr.drop (fr.length - nd) = bb := ⟨_, rfl⟩
          rw [hbb] at eS
          have hbl : bb.length = cs.length - 2 := by rw [← hbb, List.length_drop]; omega
          have hbm : ∀ x, x ∈ bb → x < N ∧ x ≠ t ∧ x ∉ cs := fun x hx => by
            obtain ⟨h1, h2, h3⟩ := hfr x (List.mem_of_mem_drop (hbb ▸ hx))
            exact ⟨by omega, h2, h3⟩
          have hbn : bb.Nodup := by
            rw [← hbb]
            exact ((hup.imp fun h => by omega : fr.Nodup)).sublist (List.drop_sublist _ _)
          have hnd3 : (t :: cs ++ bb).Nodup := by
            rw [List.nodup_append]
            refine ⟨nodup_t, hbn, fun x hx y hy e => ?_⟩
            subst e
            obtain ⟨_, h2, h3⟩ := hbm x hy
            rcases List.mem_cons.mp hx with hx | hx
            · exact h2 hx
            · exact h3 hx
          have ok120 : GtOk 120 (t, cs) := okg.mono (by omega)
          have k2S := k24.trans (Same.keep (d := d) sS)
          refine ⟨d, .int (t : Int), .ref c, .ref bo, .int (t : Int), .tuple (natsD cs), .list (natsD bb), rfl, .int _, .tup (sS _ _ hc4) cInts_at, .lst hbod eS cInts_at, fun hno => absurd ⟨t, cs, bb, rfl, rfl, rfl, ok120, hbl, fun b hb => by have := (hbm b hb).1; omega, hnd3⟩ hno, fun t' cs' bs' e1' e2' e3' _ _ _ _ l bs3 H6 hl6 s6 el6 hG6 => ?_⟩
          obtain rfl : t = t' := Int.ofNat.inj (PyData.int.inj e1')
          obtain rfl : cs = cs' := (List.map_inj_right (fun _ _ z => Int.ofNat.inj (PyData.int.inj z))).mp (PyData.tuple.inj e2')
          obtain rfl : bb = bs' := (List.map_inj_right (fun _ _ z => Int.ofNat.inj (PyData.int.inj z))).mp (PyData.list.inj e3')
          have k26 := k2S.trans (Same.keep (d := d) s6)
          have e26 := k26 _ _ e2 hwd
          have hD6 := hDS.same s6
          have hsp : (spreadF t cs bb).length ≤ 32 ∧ ∀ g, g ∈ spreadF t cs bb → GtOk N g := by
            by_cases hb0 : bb = []
            · unfold spreadF
              rw [if_pos hb0]
              exact ⟨by show 1 ≤ 32; decide, fun g hg => by rw [List.mem_singleton.mp hg]; exact okg⟩
            · have hb1 : 0 < bb.length := List.length_pos_iff.mpr hb0
              obtain ⟨h1, h2⟩ := spread_two hbl (by omega) okg.up hnd3
              refine ⟨by omega, fun g hg => (h2 g hg).gt fun x hx => ?_⟩
              rcases List.mem_append.mp hx with hx | hx
              · rcases List.mem_cons.mp hx with rfl | hx
                · exact t9
                · exact okg.c x hx
              · exact (hbm x hx).1
          have hT : Tups H6 (upd H6 w (.lst (bs.map V.ref ++ bs3.map V.ref))) := (Tups.refl _).put (no_tupL e26)
          walk_at "x"
          refine ⟨w, l, _, _, rfl, rfl, e26, el6, Nat.le_of_lt (lt_line (by rw [List.length_map, List.length_map, hW.1, hG6.1]; omega)), ?_⟩
          walk_at "x"
          refine ⟨_, _, _, _, _, bs ++ bs3, ws ++ spreadF t cs bb, rfl, hD6.upd hwd hwn, kput (k2.trans k26) hw, by rw [upd_same, List.map_append], ((hW.tups (keep_tupsA k26 hD2)).tups hT).app (hG6.tups hT), fun g hg => ?_, by rw [List.length_append]; omega, fun bits hl => ?_⟩
          · rcases List.mem_append.mp hg with h | h
            · exact okW g h
            · exact hsp.2 g h
          · rw [perfF_app, hrun bits hl, htk, perfF_snoc, spread_ok hbl hnd3 fun x hx => ?_]
            rw [perfF_len, hl]
            rcases List.mem_append.mp hx with hx | hx
            · rcases List.mem_cons.mp hx with rfl | hx
              · exact t9
              · exact okg.c x hx
            · exact (hbm x hx).1
        · walk_at "x"
          refine x_tyL (k24 _ _ e2 hwd) ?_
          walk_at "x"
          refine ⟨by show 2 ≤ sizeLine; decide, fun p hp => ?_⟩
          walk_at "x"
          refine append_one hD4 k24 hp hc4 fun H5 h5 => ?_
          obtain ⟨bs2, ws2, g1, g2, g3⟩ := h5
          walk_at "x"
          exact ⟨_, _, _, _, _, bs2, ws2, rfl, g1, g2, g3⟩
      · walk_at "f"
        refine x_tyL e23 ?_
        walk_at "x"
        refine ⟨by show 2 ≤ sizeLine; decide, fun p hp => ?_⟩
        walk_at "x"
        refine append_one hD3 (Same.keep s3) hp (s3 _ _ h2) fun H5 h5 => ?_
        obtain ⟨bs2, ws2, g1, g2, g3⟩ := h5
        walk_at "x"
        exact ⟨_, _, _, _, _, bs2, ws2, rfl, g1, g2, g3⟩
    · rintro σ' H2 ⟨v4, v5, v6, v7, v8, bs, ws, rfl, hD2, k2, e2, hW, okW, hwl, hrun⟩
      rw [List.length_map, hal, List.take_length] at hrun
      rw [List.length_map, hal] at hwl
      walk_at "x"
      exact q _ _ ⟨w, bs, ws, rfl, hwd, e2, hW, okW, by omega, hrun⟩ hD2 k2


theorem need4 {ns : List SN} {q : Nat} (h : ∀ (i : Nat) n, ns[i]? = some n → InQ q n) : needF ns ≤ q := by
  obtain ⟨_, _, f3⟩ := foldr_max (cs := needL ns) (t := 0)
  rcases f3 with f3 | f3
  · unfold needF; omega
  · obtain ⟨i, c, h1, h2⟩ := need_iff.mp f3
    have h3 : c < q := h i _ h1
    unfold needF; omega
theorem need_lt {ns : List SN} {i c : Nat} (h : ns[i]? = some (SN.inp c)) : c < needF ns := by
  obtain ⟨_, f2, _⟩ := foldr_max (cs := needL ns) (t := 0)
  have := f2 _ (need_iff.mpr ⟨i, c, h, rfl⟩)
  unfold needF; omega
theorem b2i_if {b : Bool} : V.int (if b = true then 1 else 0) = .int (b2i b) := by cases b <;> rfl
def sp_law (K : PySem.W.Frag) : Sp := fun vs H Q _ => ∃ (a : Addr) (ns : List Int), vs = [.ref a] ∧ SqL K H a (ns.map V.int) ∧ ns.length ≤ 63 ∧ ∀ H', Q (.bl true) H'
theorem ok_law (T : Txt K mg) : FnOk P w K mg base CX0 10 T.a_law T.fd_law ["script"] (sp_law K) := by
  refine T.F_law.ok sc_law (fun vs H Q E h => ?_) (fun cdv A outer s H vs Q E hr h => ?_)
  · obtain ⟨a, ns, rfl, _⟩ := h
    rfl
  · obtain ⟨a, ns, rfl, hS, hl, q⟩ := h
    refine ⟨_, (pss_cons (ps_set (i := 1) sc_law.nd rfl (.inr rfl) (pe_lst (pa_cons (pe_call (ok_law_numbers T) (hr.mono (by decide)) (by rfl) T.g_law_numbers T.F_law_numbers.kp T.b_law_numbers .nil pass0 (pa_cons (pv 0) pa_nil)) (pa_cons pe_int pa_nil))))
      (pss_cons (ps_set (i := 2) sc_law.nd rfl (.inl rfl) (pe_call (ok_law_source T) (hr.mono (by decide)) (by rfl) T.g_law_source T.F_law_source.kp T.b_law_source .nil pass0 (pa_cons (pv 1) (pa_cons (pe_op op_add pe_int (pe_op op_mod (pe_call (ok_law_draw T) (hr.mono (by decide)) (by rfl) T.g_law_draw T.F_law_draw.kp T.b_law_draw .nil pass0 (pa_cons (pv 1) pa_nil)) pe_int)) (pa_cons (pe_op op_add pe_int (pe_op op_mod (pe_call (ok_law_draw T) (hr.mono (by decide)) (by rfl) T.g_law_draw T.F_law_draw.kp T.b_law_draw .nil pass0 (pa_cons (pv 1) pa_nil)) pe_int)) pa_nil)))))
      (pss_cons (ps_set (i := 3) sc_law.nd rfl (.inl rfl) (pe_call (ok_law_needs T) (hr.mono (by decide)) (by rfl) T.g_law_needs T.F_law_needs.kp T.b_law_needs .nil pass0 (pa_cons (pv 2) pa_nil)))
      (pss_cons (ps_set (i := 4) sc_law.nd rfl (.inl rfl) (pe_call (ok_gates_of T) (hr.mono (by decide)) (by rfl) T.g_gates_of T.F_gates_of.kp T.b_gates_of .nil passL (pa_cons (pe_call (ok_compile_source T) (hr.mono (by decide)) (by rfl) T.g_compile_source T.F_compile_source.kp T.b_compile_source .nil passL (pa_cons (pv 2) (pa_cons pe_int pa_nil))) pa_nil)))
      (pss_cons (ps_set (i := 5) sc_law.nd rfl (.inl rfl) (pe_op op_add (pe_op op_add (pv 3) pe_int) (pe_op op_mod (pe_call (ok_law_draw T) (hr.mono (by decide)) (by rfl) T.g_law_draw T.F_law_draw.kp T.b_law_draw .nil pass0 (pa_cons (pv 1) pa_nil)) pe_int)))
      (pss_cons (ps_set (i := 6) sc_law.nd rfl (.inl rfl) (pe_call (ok_law_spread T) (hr.mono (by decide)) (by rfl) T.g_law_spread T.F_law_spread.kp T.b_law_spread .nil pass0 (pa_cons (pv 1) (pa_cons (pv 4) (pa_cons (pv 5) pa_nil)))))
      (pss_cons (ps_for PassesOwn.never rfl (pi_range1 (by rfl) T.m_range (pa_cons pe_int pa_nil)) (pg_name (i := 7) sc_law.nd rfl (Or.inl rfl))
      (pss_cons (ps_set (i := 8) sc_law.nd rfl (.inr rfl) (pe_lc (own := [("k", 12)]) (g := gName 12) (tt := tYes) rfl sc_law.nd (pi_range1 (by rfl) T.m_range (pa_cons (pv 5) pa_nil)) (blkOk_by (N := N_law) (sc := defScope s_law) (by decide +kernel)) (fun _ _ _ _ _ => (pg_name (i := 12) sc_law.nd rfl (Or.inl rfl))) (fun _ _ _ _ _ => pts_nil) (fun _ _ _ _ _ => (pe_cmpR op_eq (pe_op op_mod (pe_call (ok_law_draw T) (hr.mono (by decide)) (by rfl) T.g_law_draw T.F_law_draw.kp T.b_law_draw .nil pass0 (pa_cons (pv 1) pa_nil)) pe_int) pe_int (nomark _)))))
      (pss_cons (ps_setLc (i := 9) (own := [("k", 12)]) (g := gName 12) (tt := tYes) rfl sc_law.nd rfl rfl (sw_true rfl rfl rfl (by decide +kernel)) (pi_range1 (by rfl) T.m_range (pa_cons (pv 3) pa_nil)) (blkOk_by (N := N_law) (sc := defScope s_law) (by decide +kernel)) (fun _ _ _ _ _ => (pg_name (i := 12) sc_law.nd rfl (Or.inl rfl))) (fun _ _ _ _ _ => pts_nil) (fun _ _ _ _ _ => (pe_callTy (T := "int") (r := rInt1) cr_int1 (by rfl) T.m_int (by decide +kernel) (pa_cons (pe_ix (r := rIxL K) ix_list (pv 8) (pv 12) (fun _ _ => rfl)) pa_nil))))
      (pss_cons (ps_set (i := 10) sc_law.nd rfl (.inl rfl) (pe_callTy (T := "list") (r := rListOf K) cr_list_of (by rfl) T.m_list (by decide +kernel) (pa_cons (pv 8) pa_nil)))
      (Evl.pss_cut (ps_if (pt_cmpR op_eq (pe_call (ok_law_meaning T) (hr.mono (by decide)) (by rfl) T.g_law_meaning T.F_law_meaning.kp T.b_law_meaning .nil pass0 (pa_cons (pv 2) (pa_cons pe_int (pa_cons (pv 9) pa_nil)))) pe_int (nomark _))
      (pss_one (ps_asg (pe_not (pe_ix (r := rIxL K) ix_list (pv 10) (pv 3) (fun _ _ => rfl))) (pg_sub (pv 10) (pv 3) set_list)))
      pss_nil)
      (pss_cons (ps_set (i := 11) sc_law.nd rfl (.inl rfl) (pe_callTy (T := "list") (r := rListOf K) cr_list_of (by rfl) T.m_list (by decide +kernel) (pa_cons (pv 8) pa_nil)))
      (pss_cons (ps_if (PW.pt (pw_or (pt_not (pt_val (pe_call (ok_law_equal T 4) hr (by rfl) T.g_law_equal T.F_law_equal.kp T.b_law_equal .nil pass0 (pa_cons (pe_call (ok_perform T) (hr.mono (by decide)) (by rfl) T.g_perform T.F_perform.kp T.b_perform .nil pass0 (pa_cons (pv 4) (pa_cons (pv 8) pa_nil))) (pa_cons (pv 10) pa_nil))))) (pw_or1 (pt_not (pt_val (pe_call (ok_law_equal T 4) hr (by rfl) T.g_law_equal T.F_law_equal.kp T.b_law_equal .nil pass0 (pa_cons (pe_call (ok_perform T) (hr.mono (by decide)) (by rfl) T.g_perform T.F_perform.kp T.b_perform .nil pass0 (pa_cons (pv 6) (pa_cons (pv 8) pa_nil))) (pa_cons (pv 10) pa_nil))))))))
      (pss_one (ps_ret pe_bl))
      pss_nil)
      (pss_one (ps_if (pt_not (pt_val (pe_call (ok_law_equal T 4) hr (by rfl) T.g_law_equal T.F_law_equal.kp T.b_law_equal .nil pass0 (pa_cons (pv 8) (pa_cons (pv 11) pa_nil)))))
      (pss_one (ps_ret pe_bl))
      pss_nil)))))))))
      (pss_one (ps_ret pe_bl))))))))), ?_⟩
    walk_at "start"
    walk_at "x"
    refine ⟨a, ns, rfl, hS, hl, fun n ms H1 hn s1 e1 r1 l1 => ?_⟩
    walk_at "x"
    refine ⟨by show 2 ≤ sizeLine; decide, fun d hd => ?_⟩
    have hD := Dr.mk e1 r1 l1 hd
    generalize upd H1 d (.lst [.ref n, .int 0]) = H2 at hD
    clear hn s1 e1 r1 l1 hd hS hl
    walk_at "x"
    refine ⟨d, n, rfl, hD, ?_⟩
    rintro _ H3 ⟨x, rfl, x0, x1⟩ hD3 _
    walk_at "x"
    obtain ⟨m1, em, h1m, m9⟩ : ∃ c : Nat, 1 + x % 10 = (c : Int) ∧ 1 ≤ c ∧ c ≤ 10 := ⟨(1 + x % 10).toNat, by omega, by omega, by omega⟩
    rw [em]
    refine ⟨d, n, rfl, hD3, ?_⟩
    rintro _ H4 ⟨y, rfl, y0, y1⟩ hD4 _
    walk_at "x"
    obtain ⟨q0, eq0, h1q, q4⟩ : ∃ c : Nat, 1 + y % 4 = (c : Int) ∧ 1 ≤ c ∧ c ≤ 4 := ⟨(1 + y % 4).toNat, by omega, by omega, by omega⟩
    rw [eq0]
    refine ⟨d, n, m1, q0, rfl, h1m, m9, h1q, q4, hD4, ?_⟩
    rintro _ H5 ⟨t, sn, rfl, ht, ok, hn10, hc300, hin⟩ hD5 _
    clear hD hD3 hD4
    walk_at "x"
    refine ⟨d, t, sn, rfl, ht, by omega, fun H6 s6 => ?_⟩
    have hD6 := hD5.same s6
    have ht6 := DAt.same s6 _ ht
    have hnq := need4 hin
    walk_at "x"
    refine ⟨d, .ref t, .int (2 : Int), .tuple (sn.map snD), rfl, ht6, src_sh2, .int _, (fun h => by rw [sourceD_iff.mpr ⟨sn, rfl, ok⟩] at h; cases h), (fun _ hb => absurd hb (by decide)), fun ns' m' e ok' em _ _ => ⟨fun hc => ?_, fun _ p L as S H7 hL0 s7 hP hco okp => ?_⟩⟩
    · obtain rfl : sn = ns' := sns_inj (PyData.tuple.inj e)
      omega
    obtain rfl : sn = ns' := sns_inj (PyData.tuple.inj e)
    obtain rfl : m' = 2 := by injection em with em; omega
    have hD7 := hD6.same s7
    have ht7 := DAt.same s7 _ ht6
    have hSl : S.length = costF sn := hco.len
    clear hD5 hD6 ht ht6 s6 s7
    walk_at "x"
    refine ⟨p, L, as, S, 2, 3, needF sn, rfl, hP, okp, fun h => absurd rfl h, fun _ h => ?_, fun _ _ ga bs gs H8 s8 hga8 eg hG hA => ?_⟩
    · obtain ⟨s, hs, hT⟩ := h
      have hadd := hco.add s hs
      cases s with
      | add => cases hT
      | _ => cases hadd
    have hgd : ga ≠ d := fun e => hD7.ne (e ▸ hga8)
    have hD8 := hD7.same s8
    have ht8 := DAt.same s8 _ ht7
    have okG := hA.oks okp.ok
    have hgl := hA.len
    clear hD7 ht7 hP s8 hga8
    walk_at "x"
    refine ⟨d, n, rfl, hD8, ?_⟩
    rintro _ H9 ⟨z, rfl, z0, z1⟩ hD9 k9
    walk_at "x"
    obtain ⟨N, eN, N1, N2⟩ : ∃ N : Nat, ((needF sn : Nat) : Int) + 3 + z % 4 = (N : Int) ∧ needF sn + 3 ≤ N ∧ N ≤ needF sn + 6 := ⟨(((needF sn : Nat) : Int) + 3 + z % 4).toNat, by omega, by omega, by omega⟩
    rw [eN]
    have ndr : ∀ {H' : Hp}, Dr H' d n → ∃ xs, H' d = some (.lst xs) := fun h => by obtain ⟨_, _, h, _⟩ := h; exact ⟨_, h⟩
    refine ⟨d, n, ga, bs, gs, N, rfl, k9 _ _ eg hgd, hgd, hG.tups (keep_tupsA k9 hD8), fun g hg => (okG g hg).mono N1, by omega, by omega, hD9, ?_⟩
    rintro _ HA ⟨w, wbs, ws, rfl, hwd, ew, hW, okW, hwl, hper⟩ hDA kA
    have k8A := k9.trans kA
    have htA := DAt.keep (ndr hD8) k8A _ ht8
    have egA := k8A _ _ eg hgd
    have hGA := hG.tups (keep_tupsA k8A hD8)
    clear hD8 ht8 eg hG hD9 k9 kA k8A
    walk_at "x"
    refine x_forR1 4 (fun turn σ' H' => Dr H' d n ∧ DAt d H' (.ref t) (.tuple (sn.map snD)) ∧ H' ga = some (.lst (bs.map V.ref)) ∧ GtsAt H' bs gs ∧ H' w = some (.lst (wbs.map V.ref)) ∧ GtsAt H' wbs ws ∧ ∃ v7 v8 v9 v10 v11 v12, σ' = [some (.ref a), some (.ref d), some (.ref t), some (.int ((needF sn : Nat) : Int)), some (.ref ga), some (.int (N : Int)), some (.ref w), v7, v8, v9, v10, v11, v12]) (fun R r => r) (by decide) (by decide) ⟨hDA, htA, egA, hGA, ew, hW, _, _, _, _, _, _, rfl⟩ ?_ ?_
    · clear hDA htA egA hGA ew hW
      rintro turn σ' HB _ ⟨hDB, htB, egB, hGB, ewB, hWB, v7, v8, v9, v10, v11, v12, rfl⟩
      walk_at "x"
      refine x_lcR1 (N : Int) (fun p' k H' => Dr H' d n ∧ Keep d HB H' ∧ p' ≠ d ∧ p' ≠ n ∧ ∃ gs : List Bool, H' p' = some (.lst (bls gs)) ∧ gs.length = k) (fun R r => ⟨_, rfl, r⟩) (by omega) (by omega) (fun p' hp => ⟨hDB.upd0 hp, Same.keep (same_upd hp), hDB.new hp, hDB.newN hp, [], upd_same, rfl⟩) (fun x => rfl) ?_ ?_
      · rintro o k H11 ho hk ⟨hD11, k11, hod, hon, xs, hX, hxl⟩
        walk_at "x"
        refine ⟨d, n, rfl, hD11, ?_⟩
        rintro _ H12 ⟨u, rfl, u0, u1⟩ hD12 k12
        walk_at "x"
        exact ⟨_, k12 _ _ hX hod, lt_line (by rw [bls_len]; omega), hD12.upd hod hon, kput (k11.trans k12) ho, hod, hon, xs ++ [decide (u % 2 = 0)], by rw [upd_same, bls_snoc], by rw [List.length_append, hxl]; rfl⟩
      rintro bo HC hbo ⟨hDC, kC, hbd, hbn, bv, hB, hbl⟩
      have hbl : bv.length = N := by omega
      have htC := DAt.keep (ndr hDB) kC _ htB
      have egC := kC _ _ egB hgd
      have hGC := hGB.tups (keep_tupsA kC hDB)
      have ewC := kC _ _ ewB hwd
      have hWC := hWB.tups (keep_tupsA kC hDB)
      clear hDB htB egB hGB ewB hWB kC hbo hbn
      walk_at "x"
      refine x_lcR1 ((needF sn : Nat) : Int) (fun p' k H' => Same HC H' ∧ H' p' = some (.lst (((bv.take k).map b2i).map V.int))) (fun R r => ⟨_, rfl, r⟩) (by omega) (by omega) (fun p' hp => ⟨same_upd hp, by rw [upd_same]; rfl⟩) (fun x => rfl) ?_ ?_
      · rintro o k H11 ho hk ⟨s11, hX⟩
        have hkN : k < bv.length := by omega
        walk_at "x"
        refine x_ixL (sq_of (s11 _ _ hB)) (atI_nat (bls_get hkN)) ?_
        refine .inr ⟨_, rfl, ?_⟩
        rw [b2i_if]
        refine ⟨_, hX, lt_line (by rw [List.length_map, List.length_map, List.length_take]; omega), sput s11 ho, ?_⟩
        rw [upd_same]
        have e1 : bv.take (k + 1) = bv.take k ++ [bv.getD k false] := by
          rw [List.take_succ, List.getD_eq_getElem?_getD, List.getElem?_eq_getElem hkN]; rfl
        rw [e1, List.map_append, List.map_append]
        rfl
      rintro go HD hgo ⟨sD, hGo⟩
      rw [show (((needF sn : Nat) : Int)).toNat = needF sn by omega] at hGo
      have hDD := hDC.same sD
      have hBD := sD _ _ hB
      walk_at "x"
      refine x_listL (sq_of hBD) fun du hdu => ?_
      have sE := same_upd (o := .lst (bls bv)) hdu
      have eE : (upd HD du (.lst (bls bv))) du = some (.lst (bls bv)) := upd_same
      generalize upd HD du (.lst (bls bv)) = HE at sE eE
      have sCE := sD.trans sE
      have hBE := sE _ _ hBD
      have hGoE := sE _ _ hGo
      have hdud : du ≠ d := hDD.new hdu
      have hDE := hDD.same sE
      have htE := DAt.same sCE _ htC
      have egE := sCE _ _ egC
      have hGE := hGC.tups (Tups.same sCE)
      have ewE := sCE _ _ ewC
      have hWE := hWC.tups (Tups.same sCE)
      have hbdu : bo ≠ du := ne_of_none hBD hdu
      have hgdu : ga ≠ du := ne_of_none (sD _ _ egC) hdu
      have hwdu : w ≠ du := ne_of_none (sD _ _ ewC) hdu
      have hdun : du ≠ n := hDD.newN hdu
      have htdu := DAt.same sD _ htC
      clear hDC htC egC hGC ewC hWC hDD hGo sD
      walk_at "x"
      have hsg := source_gates (bs := bv) hco (by have := ok.1; omega) hA (by omega)
      refine x_cut (fun σ' H' => σ' = [some (.ref a), some (.ref d), some (.ref t), some (.int ((needF sn : Nat) : Int)), some (.ref ga), some (.int (N : Int)), some (.ref w), some (.int (turn : Int)), some (.ref bo), some (.ref go), some (.ref du), v11, v12] ∧ Dr H' d n ∧ DAt d H' (.ref t) (.tuple (sn.map snD)) ∧ H' ga = some (.lst (bs.map V.ref)) ∧ GtsAt H' bs gs ∧ H' w = some (.lst (wbs.map V.ref)) ∧ GtsAt H' wbs ws ∧ H' bo = some (.lst (bls bv)) ∧ H' du = some (.lst (bls (perfF gs bv)))) ?_ ?_
      · walk_at "x"
        refine ⟨d, t, go, sn, 2, (bv.take (needF sn)).map b2i, rfl, htE, ok, hGoE, b2i_rg _, fun i c h => by rw [List.length_map, List.length_take]; have := need_lt h; omega, by decide, by decide, fun HF sF => ?_⟩
        walk_at "x"
        refine x_ite (fun hv => ?_) (fun hv => ?_)
        · walk_at "x"
          refine x_ixL (sq_of (sF _ _ eE)) (atI_nat (bls_get (show needF sn < bv.length by omega))) ?_
          walk_at "x"
          refine x_subL (k := needF sn) (sF _ _ eE) (by rw [bls_len]; exact ixN_nat (by omega)) ?_
          walk_at "x"
          have hT : Tups HF (upd HF du (.lst ((bls bv).set (needF sn) (.bl (!bv.getD (needF sn) false))))) := (Tups.refl _).put (no_tupL (sF _ _ eE))
          refine ⟨rfl, (hDE.same sF).upd hdud hdun, ?_, by rw [upd_ne hgdu]; exact sF _ _ egE, (hGE.tups (Tups.same sF)).tups hT, by rw [upd_ne hwdu]; exact sF _ _ ewE, (hWE.tups (Tups.same sF)).tups hT, by rw [upd_ne hbdu]; exact sF _ _ hBE, ?_⟩
          · exact DAt.same (same_keep hdu (sE.trans sF) keep_upd) _ htdu
          · rw [upd_same, bls_set, hsg]
            unfold dueB
            rw [if_pos hv]
        · walk_at "x"
          refine ⟨rfl, hDE.same sF, DAt.same sF _ htE, sF _ _ egE, hGE.tups (Tups.same sF), sF _ _ ewE, hWE.tups (Tups.same sF), sF _ _ hBE, ?_⟩
          rw [hsg]
          unfold dueB
          rw [if_neg hv]
          exact sF _ _ eE
      clear hDE htE egE hGE ewE hWE hBE eE hGoE sCE sE hsg htdu hBD hdun
      rintro σ' HG ⟨rfl, hDG, htG, egG, hGG, ewG, hWG, hBG, hdG⟩
      walk_at "x"
      refine x_listL (sq_of hBG) fun ke hke => ?_
      have s1 := same_upd (o := .lst (bls bv)) hke
      have e1 : (upd HG ke (.lst (bls bv))) ke = some (.lst (bls bv)) := upd_same
      generalize upd HG ke (.lst (bls bv)) = HH at s1 e1
      have hpl : (perfF gs bv).length = N := by rw [perfF_len]; exact hbl
      walk_at "x"
      refine ⟨d, ga, bo, bs, gs, bv, rfl, hgd, hbd, s1 _ _ egG, hGG.tups (Tups.same s1), fun g hg => ⟨by rw [hbl]; exact (okG g hg).mono N1, (okG g hg).mono (by omega)⟩, by omega, by omega, s1 _ _ hBG, fun la HI hla sI eI => ?_⟩
      have s2 := s1.trans sI
      walk_at "x"
      refine ⟨_, _, rfl, Eqv.bls (n := 2) eI (s2 _ _ hdG) (by omega), ?_⟩
      walk_at "x"
      walk_at "f"
      refine ⟨d, w, bo, wbs, ws, bv, rfl, hwd, hbd, s2 _ _ ewG, hWG.tups (Tups.same s2), fun g hg => ⟨by rw [hbl]; exact okW g hg, (okW g hg).mono (by omega)⟩, by omega, by omega, s2 _ _ hBG, fun lb HJ hlb sJ eJ => ?_⟩
      rw [hper bv hbl] at eJ
      have s3 := s2.trans sJ
      walk_at "x"
      refine ⟨_, _, rfl, Eqv.bls (n := 2) eJ (s3 _ _ hdG) (by omega), ?_⟩
      walk_at "x"
      walk_at "f"
      refine ⟨_, _, rfl, Eqv.bls (n := 2) (s3 _ _ hBG) (sJ _ _ (sI _ _ e1)) (by omega), ?_⟩
      walk_at "x"
      walk_at "f"
      exact ⟨hDG.same s3, DAt.same s3 _ htG, s3 _ _ egG, hGG.tups (Tups.same s3), s3 _ _ ewG, hWG.tups (Tups.same s3), _, _, _, _, _, _, rfl⟩
    · rintro σ' H9 ⟨_, _, _, _, _, _, v7, v8, v9, v10, v11, v12, rfl⟩
      walk_at "x"
      exact q _


theorem all_mk {l : PySem.W.OpenLaw} {w : World} {K : PySem.W.Frag} {h : Heap} {mg : Str → Option Value} {fa : Addr} (X : K.In h) (G : h.Ns mainGlobals mg) (hfa : mg "law" = some (.ref fa))
    {f0 : Addr} {od0 an0 : Option Addr} {sl0 : Array (Option Value)} {oc0 kV0 dc0 pm0 cd0 ct0 : Value}
    {f1 : Addr} {od1 an1 : Option Addr} {sl1 : Array (Option Value)} {oc1 kV1 dc1 pm1 cd1 ct1 : Value}
    {f2 : Addr} {od2 an2 : Option Addr} {sl2 : Array (Option Value)} {oc2 kV2 dc2 pm2 cd2 ct2 : Value}
    {f3 : Addr} {od3 an3 : Option Addr} {sl3 : Array (Option Value)} {oc3 kV3 dc3 pm3 cd3 ct3 : Value}
    {f4 : Addr} {od4 an4 : Option Addr} {sl4 : Array (Option Value)} {oc4 kV4 dc4 pm4 cd4 ct4 : Value}
    {f5 : Addr} {od5 an5 : Option Addr} {sl5 : Array (Option Value)} {oc5 kV5 dc5 pm5 cd5 ct5 : Value}
    {f6 : Addr} {od6 an6 : Option Addr} {sl6 : Array (Option Value)} {oc6 kV6 dc6 pm6 cd6 ct6 : Value}
    {f7 : Addr} {od7 an7 : Option Addr} {sl7 : Array (Option Value)} {oc7 kV7 dc7 pm7 cd7 ct7 : Value}
    {f8 : Addr} {od8 an8 : Option Addr} {sl8 : Array (Option Value)} {oc8 kV8 dc8 pm8 cd8 ct8 : Value}
    {f9 : Addr} {od9 an9 : Option Addr} {sl9 : Array (Option Value)} {oc9 kV9 dc9 pm9 cd9 ct9 : Value}
    {f10 : Addr} {od10 an10 : Option Addr} {sl10 : Array (Option Value)} {oc10 kV10 dc10 pm10 cd10 ct10 : Value}
    {f11 : Addr} {od11 an11 : Option Addr} {sl11 : Array (Option Value)} {oc11 kV11 dc11 pm11 cd11 ct11 : Value}
    {f12 : Addr} {od12 an12 : Option Addr} {sl12 : Array (Option Value)} {oc12 kV12 dc12 pm12 cd12 ct12 : Value}
    {f13 : Addr} {od13 an13 : Option Addr} {sl13 : Array (Option Value)} {oc13 kV13 dc13 pm13 cd13 ct13 : Value}
    {f14 : Addr} {od14 an14 : Option Addr} {sl14 : Array (Option Value)} {oc14 kV14 dc14 pm14 cd14 ct14 : Value}
    {f15 : Addr} {od15 an15 : Option Addr} {sl15 : Array (Option Value)} {oc15 kV15 dc15 pm15 cd15 ct15 : Value}
    {f16 : Addr} {od16 an16 : Option Addr} {sl16 : Array (Option Value)} {oc16 kV16 dc16 pm16 cd16 ct16 : Value}
    {f17 : Addr} {od17 an17 : Option Addr} {sl17 : Array (Option Value)} {oc17 kV17 dc17 pm17 cd17 ct17 : Value}
    {f18 : Addr} {od18 an18 : Option Addr} {sl18 : Array (Option Value)} {oc18 kV18 dc18 pm18 cd18 ct18 : Value}
    {f19 : Addr} {od19 an19 : Option Addr} {sl19 : Array (Option Value)} {oc19 kV19 dc19 pm19 cd19 ct19 : Value}
    {f20 : Addr} {od20 an20 : Option Addr} {sl20 : Array (Option Value)} {oc20 kV20 dc20 pm20 cd20 ct20 : Value}
    {f21 : Addr} {od21 an21 : Option Addr} {sl21 : Array (Option Value)} {oc21 kV21 dc21 pm21 cd21 ct21 : Value}
    {f22 : Addr} {od22 an22 : Option Addr} {sl22 : Array (Option Value)} {oc22 kV22 dc22 pm22 cd22 ct22 : Value}
    {f23 : Addr} {od23 an23 : Option Addr} {sl23 : Array (Option Value)} {oc23 kV23 dc23 pm23 cd23 ct23 : Value}
    {f24 : Addr} {od24 an24 : Option Addr} {sl24 : Array (Option Value)} {oc24 kV24 dc24 pm24 cd24 ct24 : Value}
    {f25 : Addr} {od25 an25 : Option Addr} {sl25 : Array (Option Value)} {oc25 kV25 dc25 pm25 cd25 ct25 : Value}
    {f26 : Addr} {od26 an26 : Option Addr} {sl26 : Array (Option Value)} {oc26 kV26 dc26 pm26 cd26 ct26 : Value}
    {f27 : Addr} {od27 an27 : Option Addr} {sl27 : Array (Option Value)} {oc27 kV27 dc27 pm27 cd27 ct27 : Value}
    {f28 : Addr} {od28 an28 : Option Addr} {sl28 : Array (Option Value)} {oc28 kV28 dc28 pm28 cd28 ct28 : Value}
    {f29 : Addr} {od29 an29 : Option Addr} {sl29 : Array (Option Value)} {oc29 kV29 dc29 pm29 cd29 ct29 : Value}
    {f30 : Addr} {od30 an30 : Option Addr} {sl30 : Array (Option Value)} {oc30 kV30 dc30 pm30 cd30 ct30 : Value}
    {f31 : Addr} {od31 an31 : Option Addr} {sl31 : Array (Option Value)} {oc31 kV31 dc31 pm31 cd31 ct31 : Value}
    {f32 : Addr} {od32 an32 : Option Addr} {sl32 : Array (Option Value)} {oc32 kV32 dc32 pm32 cd32 ct32 : Value}
    {f33 : Addr} {od33 an33 : Option Addr} {sl33 : Array (Option Value)} {oc33 kV33 dc33 pm33 cd33 ct33 : Value}
    {f34 : Addr} {od34 an34 : Option Addr} {sl34 : Array (Option Value)} {oc34 kV34 dc34 pm34 cd34 ct34 : Value}
    {f35 : Addr} {od35 an35 : Option Addr} {sl35 : Array (Option Value)} {oc35 kV35 dc35 pm35 cd35 ct35 : Value}
    {f36 : Addr} {od36 an36 : Option Addr} {sl36 : Array (Option Value)} {oc36 kV36 dc36 pm36 cd36 ct36 : Value}
    {f37 : Addr} {od37 an37 : Option Addr} {sl37 : Array (Option Value)} {oc37 kV37 dc37 pm37 cd37 ct37 : Value}
    {f38 : Addr} {od38 an38 : Option Addr} {sl38 : Array (Option Value)} {oc38 kV38 dc38 pm38 cd38 ct38 : Value}
    {f39 : Addr} {od39 an39 : Option Addr} {sl39 : Array (Option Value)} {oc39 kV39 dc39 pm39 cd39 ct39 : Value}
    {f40 : Addr} {od40 an40 : Option Addr} {sl40 : Array (Option Value)} {oc40 kV40 dc40 pm40 cd40 ct40 : Value}
    {f41 : Addr} {od41 an41 : Option Addr} {sl41 : Array (Option Value)} {oc41 kV41 dc41 pm41 cd41 ct41 : Value}
    {f42 : Addr} {od42 an42 : Option Addr} {sl42 : Array (Option Value)} {oc42 kV42 dc42 pm42 cd42 ct42 : Value}
    {f43 : Addr} {od43 an43 : Option Addr} {sl43 : Array (Option Value)} {oc43 kV43 dc43 pm43 cd43 ct43 : Value}
    {f44 : Addr} {od44 an44 : Option Addr} {sl44 : Array (Option Value)} {oc44 kV44 dc44 pm44 cd44 ct44 : Value}
    {f45 : Addr} {od45 an45 : Option Addr} {sl45 : Array (Option Value)} {oc45 kV45 dc45 pm45 cd45 ct45 : Value}
    {f46 : Addr} {od46 an46 : Option Addr} {sl46 : Array (Option Value)} {oc46 kV46 dc46 pm46 cd46 ct46 : Value}
    {f47 : Addr} {od47 an47 : Option Addr} {sl47 : Array (Option Value)} {oc47 kV47 dc47 pm47 cd47 ct47 : Value}
    {f48 : Addr} {od48 an48 : Option Addr} {sl48 : Array (Option Value)} {oc48 kV48 dc48 pm48 cd48 ct48 : Value}
    {f49 : Addr} {od49 an49 : Option Addr} {sl49 : Array (Option Value)} {oc49 kV49 dc49 pm49 cd49 ct49 : Value}
    {C_Program : Addr}
    {E_BrimfulError : Addr}
    {E_BadSource : Addr}
    {E_BadStep : Addr}
    {E_TooLong : Addr}
    {E_BadGate : Addr}
    {t_CELLS : Tok}
    {t_CONSTANTS_END : Tok}
    {t_GREATEST_MODULUS : Tok}
    {t_MOST_BITS : Tok}
    {t_MOST_CELLS : Tok}
    {t_MOST_FACTORS : Tok}
    {t_MOST_GATES : Tok}
    {t_MOST_INPUTS_nodes : Tok}
    {t_MOST_INPUTS_programs : Tok}
    {t_MOST_NODES : Tok}
    {t_MOST_STEPS : Tok}
    (aC_Program : PySem.W.nsIn K mainGlobals "Program" = some (some (.ref C_Program)))
    (pg_Program : PySem.W.plainGet K C_Program Str.empty = true) (hd_Program : PySem.W.hasDictIn K C_Program = true) (po_Program : PySem.W.plainOver K C_Program = true)
    (sa_Program : PySem.W.findIn K (.ref C_Program) "__setattr__" = some (some (.builtin "object.__setattr__"))) (mk_Program : PySem.W.makesIn K C_Program = true) (kc_Program : PySem.W.keepIn K (.ref C_Program) = true)
    (hnE : PySem.W.specialIn K (.builtin "object.__class__") "__get__" = some (some (.builtin "getset_descriptor.__get__"))) (htE : PySem.W.takesIn K (.builtin "object.__class__") = some true)
    (aE_BrimfulError : PySem.W.nsIn K mainGlobals "BrimfulError" = some (some (.ref E_BrimfulError))) (xE_BrimfulError : PySem.W.excIn K E_BrimfulError [.type "ValueError", .type "Exception", .type "BaseException", .type "object"] "ValueError.__new__" = true) (kE_BrimfulError : PySem.W.keepIn K (.ref E_BrimfulError) = true)
    (bE_BrimfulError : PySem.W.subIn K (.ref E_BrimfulError) (.type "BaseException") = some true) (tE_BrimfulError : PySem.W.typeIn K (.ref E_BrimfulError) = some (.type "type")) (dE_BrimfulError : PySem.W.hasDictIn K E_BrimfulError = true)
    (h1E_BrimfulError : PySem.W.findIn K (.ref E_BrimfulError) "__getattribute__" = some (some (.builtin "BaseException.__getattribute__"))) (h2E_BrimfulError : PySem.W.findIn K (.ref E_BrimfulError) "__getattr__" = some none) (h3E_BrimfulError : PySem.W.findIn K (.ref E_BrimfulError) "__class__" = some (some (.builtin "object.__class__"))) (h4E_BrimfulError : PySem.W.mroIn K E_BrimfulError (.type "object") = some true)
    (aE_BadSource : PySem.W.nsIn K mainGlobals "BadSource" = some (some (.ref E_BadSource))) (xE_BadSource : PySem.W.excIn K E_BadSource [.type "ValueError", .type "Exception", .type "BaseException", .type "object"] "ValueError.__new__" = true) (kE_BadSource : PySem.W.keepIn K (.ref E_BadSource) = true)
    (bE_BadSource : PySem.W.subIn K (.ref E_BadSource) (.type "BaseException") = some true) (tE_BadSource : PySem.W.typeIn K (.ref E_BadSource) = some (.type "type")) (dE_BadSource : PySem.W.hasDictIn K E_BadSource = true)
    (h1E_BadSource : PySem.W.findIn K (.ref E_BadSource) "__getattribute__" = some (some (.builtin "BaseException.__getattribute__"))) (h2E_BadSource : PySem.W.findIn K (.ref E_BadSource) "__getattr__" = some none) (h3E_BadSource : PySem.W.findIn K (.ref E_BadSource) "__class__" = some (some (.builtin "object.__class__"))) (h4E_BadSource : PySem.W.mroIn K E_BadSource (.type "object") = some true)
    (aE_BadStep : PySem.W.nsIn K mainGlobals "BadStep" = some (some (.ref E_BadStep))) (xE_BadStep : PySem.W.excIn K E_BadStep [.type "ValueError", .type "Exception", .type "BaseException", .type "object"] "ValueError.__new__" = true) (kE_BadStep : PySem.W.keepIn K (.ref E_BadStep) = true)
    (bE_BadStep : PySem.W.subIn K (.ref E_BadStep) (.type "BaseException") = some true) (tE_BadStep : PySem.W.typeIn K (.ref E_BadStep) = some (.type "type")) (dE_BadStep : PySem.W.hasDictIn K E_BadStep = true)
    (h1E_BadStep : PySem.W.findIn K (.ref E_BadStep) "__getattribute__" = some (some (.builtin "BaseException.__getattribute__"))) (h2E_BadStep : PySem.W.findIn K (.ref E_BadStep) "__getattr__" = some none) (h3E_BadStep : PySem.W.findIn K (.ref E_BadStep) "__class__" = some (some (.builtin "object.__class__"))) (h4E_BadStep : PySem.W.mroIn K E_BadStep (.type "object") = some true)
    (aE_TooLong : PySem.W.nsIn K mainGlobals "TooLong" = some (some (.ref E_TooLong))) (xE_TooLong : PySem.W.excIn K E_TooLong [.type "ValueError", .type "Exception", .type "BaseException", .type "object"] "ValueError.__new__" = true) (kE_TooLong : PySem.W.keepIn K (.ref E_TooLong) = true)
    (bE_TooLong : PySem.W.subIn K (.ref E_TooLong) (.type "BaseException") = some true) (tE_TooLong : PySem.W.typeIn K (.ref E_TooLong) = some (.type "type")) (dE_TooLong : PySem.W.hasDictIn K E_TooLong = true)
    (h1E_TooLong : PySem.W.findIn K (.ref E_TooLong) "__getattribute__" = some (some (.builtin "BaseException.__getattribute__"))) (h2E_TooLong : PySem.W.findIn K (.ref E_TooLong) "__getattr__" = some none) (h3E_TooLong : PySem.W.findIn K (.ref E_TooLong) "__class__" = some (some (.builtin "object.__class__"))) (h4E_TooLong : PySem.W.mroIn K E_TooLong (.type "object") = some true)
    (aE_BadGate : PySem.W.nsIn K mainGlobals "BadGate" = some (some (.ref E_BadGate))) (xE_BadGate : PySem.W.excIn K E_BadGate [.type "ValueError", .type "Exception", .type "BaseException", .type "object"] "ValueError.__new__" = true) (kE_BadGate : PySem.W.keepIn K (.ref E_BadGate) = true)
    (bE_BadGate : PySem.W.subIn K (.ref E_BadGate) (.type "BaseException") = some true) (tE_BadGate : PySem.W.typeIn K (.ref E_BadGate) = some (.type "type")) (dE_BadGate : PySem.W.hasDictIn K E_BadGate = true)
    (h1E_BadGate : PySem.W.findIn K (.ref E_BadGate) "__getattribute__" = some (some (.builtin "BaseException.__getattribute__"))) (h2E_BadGate : PySem.W.findIn K (.ref E_BadGate) "__getattr__" = some none) (h3E_BadGate : PySem.W.findIn K (.ref E_BadGate) "__class__" = some (some (.builtin "object.__class__"))) (h4E_BadGate : PySem.W.mroIn K E_BadGate (.type "object") = some true)
    (sE_BrimfulError_BrimfulError : PySem.W.subIn K (.ref E_BrimfulError) (.ref E_BrimfulError) = some true)
    (sE_BrimfulError_BadSource : PySem.W.subIn K (.ref E_BrimfulError) (.ref E_BadSource) = some false)
    (sE_BrimfulError_BadStep : PySem.W.subIn K (.ref E_BrimfulError) (.ref E_BadStep) = some false)
    (sE_BrimfulError_TooLong : PySem.W.subIn K (.ref E_BrimfulError) (.ref E_TooLong) = some false)
    (sE_BrimfulError_BadGate : PySem.W.subIn K (.ref E_BrimfulError) (.ref E_BadGate) = some false)
    (sE_BadSource_BrimfulError : PySem.W.subIn K (.ref E_BadSource) (.ref E_BrimfulError) = some true)
    (sE_BadSource_BadSource : PySem.W.subIn K (.ref E_BadSource) (.ref E_BadSource) = some true)
    (sE_BadSource_BadStep : PySem.W.subIn K (.ref E_BadSource) (.ref E_BadStep) = some false)
    (sE_BadSource_TooLong : PySem.W.subIn K (.ref E_BadSource) (.ref E_TooLong) = some false)
    (sE_BadSource_BadGate : PySem.W.subIn K (.ref E_BadSource) (.ref E_BadGate) = some false)
    (sE_BadStep_BrimfulError : PySem.W.subIn K (.ref E_BadStep) (.ref E_BrimfulError) = some true)
    (sE_BadStep_BadSource : PySem.W.subIn K (.ref E_BadStep) (.ref E_BadSource) = some false)
    (sE_BadStep_BadStep : PySem.W.subIn K (.ref E_BadStep) (.ref E_BadStep) = some true)
    (sE_BadStep_TooLong : PySem.W.subIn K (.ref E_BadStep) (.ref E_TooLong) = some false)
    (sE_BadStep_BadGate : PySem.W.subIn K (.ref E_BadStep) (.ref E_BadGate) = some false)
    (sE_TooLong_BrimfulError : PySem.W.subIn K (.ref E_TooLong) (.ref E_BrimfulError) = some true)
    (sE_TooLong_BadSource : PySem.W.subIn K (.ref E_TooLong) (.ref E_BadSource) = some false)
    (sE_TooLong_BadStep : PySem.W.subIn K (.ref E_TooLong) (.ref E_BadStep) = some false)
    (sE_TooLong_TooLong : PySem.W.subIn K (.ref E_TooLong) (.ref E_TooLong) = some true)
    (sE_TooLong_BadGate : PySem.W.subIn K (.ref E_TooLong) (.ref E_BadGate) = some false)
    (sE_BadGate_BrimfulError : PySem.W.subIn K (.ref E_BadGate) (.ref E_BrimfulError) = some true)
    (sE_BadGate_BadSource : PySem.W.subIn K (.ref E_BadGate) (.ref E_BadSource) = some false)
    (sE_BadGate_BadStep : PySem.W.subIn K (.ref E_BadGate) (.ref E_BadStep) = some false)
    (sE_BadGate_TooLong : PySem.W.subIn K (.ref E_BadGate) (.ref E_TooLong) = some false)
    (sE_BadGate_BadGate : PySem.W.subIn K (.ref E_BadGate) (.ref E_BadGate) = some true)
    (a0 : PySem.W.nsIn K mainGlobals "are_bits" = some (some (.ref f0)))
    (l0 : K.lookup f0 = some ⟨oc0, od0, .func (PySem.W.fnOf "are_bits" "are_bits" (defArgs s_are_bits) (defBody s_are_bits) (defScope s_are_bits) .none kV0 dc0 pm0 an0 cd0 ct0), sl0⟩)
    (c0 : PySem.W.codeIn K cd0 "are_bits" = true) (k0 : PySem.W.keepIn K (.ref f0) = true)
    (a1 : PySem.W.nsIn K mainGlobals "is_below" = some (some (.ref f1)))
    (l1 : K.lookup f1 = some ⟨oc1, od1, .func (PySem.W.fnOf "is_below" "is_below" (defArgs s_is_below) (defBody s_is_below) (defScope s_is_below) .none kV1 dc1 pm1 an1 cd1 ct1), sl1⟩)
    (c1 : PySem.W.codeIn K cd1 "is_below" = true) (k1 : PySem.W.keepIn K (.ref f1) = true)
    (a2 : PySem.W.nsIn K mainGlobals "is_modulus" = some (some (.ref f2)))
    (l2 : K.lookup f2 = some ⟨oc2, od2, .func (PySem.W.fnOf "is_modulus" "is_modulus" (defArgs s_is_modulus) (defBody s_is_modulus) (defScope s_is_modulus) .none kV2 dc2 pm2 an2 cd2 ct2), sl2⟩)
    (c2 : PySem.W.codeIn K cd2 "is_modulus" = true) (k2 : PySem.W.keepIn K (.ref f2) = true)
    (a3 : PySem.W.nsIn K mainGlobals "is_prime" = some (some (.ref f3)))
    (l3 : K.lookup f3 = some ⟨oc3, od3, .func (PySem.W.fnOf "is_prime" "is_prime" (defArgs s_is_prime) (defBody s_is_prime) (defScope s_is_prime) .none kV3 dc3 pm3 an3 cd3 ct3), sl3⟩)
    (c3 : PySem.W.codeIn K cd3 "is_prime" = true) (k3 : PySem.W.keepIn K (.ref f3) = true)
    (a4 : PySem.W.nsIn K mainGlobals "perform" = some (some (.ref f4)))
    (l4 : K.lookup f4 = some ⟨oc4, od4, .func (PySem.W.fnOf "perform" "perform" (defArgs s_perform) (defBody s_perform) (defScope s_perform) .none kV4 dc4 pm4 an4 cd4 ct4), sl4⟩)
    (c4 : PySem.W.codeIn K cd4 "perform" = true) (k4 : PySem.W.keepIn K (.ref f4) = true)
    (a5 : PySem.W.nsIn K mainGlobals "_are_gates" = some (some (.ref f5)))
    (l5 : K.lookup f5 = some ⟨oc5, od5, .func (PySem.W.fnOf "_are_gates" "_are_gates" (defArgs s_are_gates) (defBody s_are_gates) (defScope s_are_gates) .none kV5 dc5 pm5 an5 cd5 ct5), sl5⟩)
    (c5 : PySem.W.codeIn K cd5 "_are_gates" = true) (k5 : PySem.W.keepIn K (.ref f5) = true)
    (a6 : PySem.W.nsIn K mainGlobals "_is_gate" = some (some (.ref f6)))
    (l6 : K.lookup f6 = some ⟨oc6, od6, .func (PySem.W.fnOf "_is_gate" "_is_gate" (defArgs s_is_gate) (defBody s_is_gate) (defScope s_is_gate) .none kV6 dc6 pm6 an6 cd6 ct6), sl6⟩)
    (c6 : PySem.W.codeIn K cd6 "_is_gate" = true) (k6 : PySem.W.keepIn K (.ref f6) = true)
    (a7 : PySem.W.nsIn K mainGlobals "_is_bit" = some (some (.ref f7)))
    (l7 : K.lookup f7 = some ⟨oc7, od7, .func (PySem.W.fnOf "_is_bit" "_is_bit" (defArgs s_is_bit) (defBody s_is_bit) (defScope s_is_bit) .none kV7 dc7 pm7 an7 cd7 ct7), sl7⟩)
    (c7 : PySem.W.codeIn K cd7 "_is_bit" = true) (k7 : PySem.W.keepIn K (.ref f7) = true)
    (a8 : PySem.W.nsIn K mainGlobals "_are_rising" = some (some (.ref f8)))
    (l8 : K.lookup f8 = some ⟨oc8, od8, .func (PySem.W.fnOf "_are_rising" "_are_rising" (defArgs s_are_rising) (defBody s_are_rising) (defScope s_are_rising) .none kV8 dc8 pm8 an8 cd8 ct8), sl8⟩)
    (c8 : PySem.W.codeIn K cd8 "_are_rising" = true) (k8 : PySem.W.keepIn K (.ref f8) = true)
    (a9 : PySem.W.nsIn K mainGlobals "_bits_touched" = some (some (.ref f9)))
    (l9 : K.lookup f9 = some ⟨oc9, od9, .func (PySem.W.fnOf "_bits_touched" "_bits_touched" (defArgs s_bits_touched) (defBody s_bits_touched) (defScope s_bits_touched) .none kV9 dc9 pm9 an9 cd9 ct9), sl9⟩)
    (c9 : PySem.W.codeIn K cd9 "_bits_touched" = true) (k9 : PySem.W.keepIn K (.ref f9) = true)
    (a10 : PySem.W.nsIn K mainGlobals "spread" = some (some (.ref f10)))
    (l10 : K.lookup f10 = some ⟨oc10, od10, .func (PySem.W.fnOf "spread" "spread" (defArgs s_spread) (defBody s_spread) (defScope s_spread) .none kV10 dc10 pm10 an10 cd10 ct10), sl10⟩)
    (c10 : PySem.W.codeIn K cd10 "spread" = true) (k10 : PySem.W.keepIn K (.ref f10) = true)
    (a11 : PySem.W.nsIn K mainGlobals "_are_borrowed" = some (some (.ref f11)))
    (l11 : K.lookup f11 = some ⟨oc11, od11, .func (PySem.W.fnOf "_are_borrowed" "_are_borrowed" (defArgs s_are_borrowed) (defBody s_are_borrowed) (defScope s_are_borrowed) .none kV11 dc11 pm11 an11 cd11 ct11), sl11⟩)
    (c11 : PySem.W.codeIn K cd11 "_are_borrowed" = true) (k11 : PySem.W.keepIn K (.ref f11) = true)
    (a12 : PySem.W.nsIn K mainGlobals "_gate_of_two" = some (some (.ref f12)))
    (l12 : K.lookup f12 = some ⟨oc12, od12, .func (PySem.W.fnOf "_gate_of_two" "_gate_of_two" (defArgs s_gate_of_two) (defBody s_gate_of_two) (defScope s_gate_of_two) .none kV12 dc12 pm12 an12 cd12 ct12), sl12⟩)
    (c12 : PySem.W.codeIn K cd12 "_gate_of_two" = true) (k12 : PySem.W.keepIn K (.ref f12) = true)
    (a13 : PySem.W.nsIn K mainGlobals "gates_of" = some (some (.ref f13)))
    (l13 : K.lookup f13 = some ⟨oc13, od13, .func (PySem.W.fnOf "gates_of" "gates_of" (defArgs s_gates_of) (defBody s_gates_of) (defScope s_gates_of) .none kV13 dc13 pm13 an13 cd13 ct13), sl13⟩)
    (c13 : PySem.W.codeIn K cd13 "gates_of" = true) (k13 : PySem.W.keepIn K (.ref f13) = true)
    (a14 : PySem.W.nsIn K mainGlobals "_gates_of_step" = some (some (.ref f14)))
    (l14 : K.lookup f14 = some ⟨oc14, od14, .func (PySem.W.fnOf "_gates_of_step" "_gates_of_step" (defArgs s_gates_of_step) (defBody s_gates_of_step) (defScope s_gates_of_step) .none kV14 dc14 pm14 an14 cd14 ct14), sl14⟩)
    (c14 : PySem.W.codeIn K cd14 "_gates_of_step" = true) (k14 : PySem.W.keepIn K (.ref f14) = true)
    (a15 : PySem.W.nsIn K mainGlobals "is_step" = some (some (.ref f15)))
    (l15 : K.lookup f15 = some ⟨oc15, od15, .func (PySem.W.fnOf "is_step" "is_step" (defArgs s_is_step) (defBody s_is_step) (defScope s_is_step) .none kV15 dc15 pm15 an15 cd15 ct15), sl15⟩)
    (c15 : PySem.W.codeIn K cd15 "is_step" = true) (k15 : PySem.W.keepIn K (.ref f15) = true)
    (a16 : PySem.W.nsIn K mainGlobals "_are_factors" = some (some (.ref f16)))
    (l16 : K.lookup f16 = some ⟨oc16, od16, .func (PySem.W.fnOf "_are_factors" "_are_factors" (defArgs s_are_factors) (defBody s_are_factors) (defScope s_are_factors) .none kV16 dc16 pm16 an16 cd16 ct16), sl16⟩)
    (c16 : PySem.W.codeIn K cd16 "_are_factors" = true) (k16 : PySem.W.keepIn K (.ref f16) = true)
    (a17 : PySem.W.nsIn K mainGlobals "_is_factor" = some (some (.ref f17)))
    (l17 : K.lookup f17 = some ⟨oc17, od17, .func (PySem.W.fnOf "_is_factor" "_is_factor" (defArgs s_is_factor) (defBody s_is_factor) (defScope s_is_factor) .none kV17 dc17 pm17 an17 cd17 ct17), sl17⟩)
    (c17 : PySem.W.codeIn K cd17 "_is_factor" = true) (k17 : PySem.W.keepIn K (.ref f17) = true)
    (a18 : PySem.W.nsIn K mainGlobals "_are_three_cells" = some (some (.ref f18)))
    (l18 : K.lookup f18 = some ⟨oc18, od18, .func (PySem.W.fnOf "_are_three_cells" "_are_three_cells" (defArgs s_are_three_cells) (defBody s_are_three_cells) (defScope s_are_three_cells) .none kV18 dc18 pm18 an18 cd18 ct18), sl18⟩)
    (c18 : PySem.W.codeIn K cd18 "_are_three_cells" = true) (k18 : PySem.W.keepIn K (.ref f18) = true)
    (a19 : PySem.W.nsIn K mainGlobals "_is_sign" = some (some (.ref f19)))
    (l19 : K.lookup f19 = some ⟨oc19, od19, .func (PySem.W.fnOf "_is_sign" "_is_sign" (defArgs s_is_sign) (defBody s_is_sign) (defScope s_is_sign) .none kV19 dc19 pm19 an19 cd19 ct19), sl19⟩)
    (c19 : PySem.W.codeIn K cd19 "_is_sign" = true) (k19 : PySem.W.keepIn K (.ref f19) = true)
    (a20 : PySem.W.nsIn K mainGlobals "is_table" = some (some (.ref f20)))
    (l20 : K.lookup f20 = some ⟨oc20, od20, .func (PySem.W.fnOf "is_table" "is_table" (defArgs s_is_table) (defBody s_is_table) (defScope s_is_table) .none kV20 dc20 pm20 an20 cd20 ct20), sl20⟩)
    (c20 : PySem.W.codeIn K cd20 "is_table" = true) (k20 : PySem.W.keepIn K (.ref f20) = true)
    (a21 : PySem.W.nsIn K mainGlobals "_is_row" = some (some (.ref f21)))
    (l21 : K.lookup f21 = some ⟨oc21, od21, .func (PySem.W.fnOf "_is_row" "_is_row" (defArgs s_is_row) (defBody s_is_row) (defScope s_is_row) .none kV21 dc21 pm21 an21 cd21 ct21), sl21⟩)
    (c21 : PySem.W.codeIn K cd21 "_is_row" = true) (k21 : PySem.W.keepIn K (.ref f21) = true)
    (a22 : PySem.W.nsIn K mainGlobals "_check_sizes" = some (some (.ref f22)))
    (l22 : K.lookup f22 = some ⟨oc22, od22, .func (PySem.W.fnOf "_check_sizes" "_check_sizes" (defArgs s_check_sizes) (defBody s_check_sizes) (defScope s_check_sizes) .none kV22 dc22 pm22 an22 cd22 ct22), sl22⟩)
    (c22 : PySem.W.codeIn K cd22 "_check_sizes" = true) (k22 : PySem.W.keepIn K (.ref f22) = true)
    (a23 : PySem.W.nsIn K mainGlobals "_check_steps" = some (some (.ref f23)))
    (l23 : K.lookup f23 = some ⟨oc23, od23, .func (PySem.W.fnOf "_check_steps" "_check_steps" (defArgs s_check_steps) (defBody s_check_steps) (defScope s_check_steps) .none kV23 dc23 pm23 an23 cd23 ct23), sl23⟩)
    (c23 : PySem.W.codeIn K cd23 "_check_steps" = true) (k23 : PySem.W.keepIn K (.ref f23) = true)
    (a24 : PySem.W.nsIn K mainGlobals "are_nodes" = some (some (.ref f24)))
    (l24 : K.lookup f24 = some ⟨oc24, od24, .func (PySem.W.fnOf "are_nodes" "are_nodes" (defArgs s_are_nodes) (defBody s_are_nodes) (defScope s_are_nodes) .none kV24 dc24 pm24 an24 cd24 ct24), sl24⟩)
    (c24 : PySem.W.codeIn K cd24 "are_nodes" = true) (k24 : PySem.W.keepIn K (.ref f24) = true)
    (a25 : PySem.W.nsIn K mainGlobals "is_input" = some (some (.ref f25)))
    (l25 : K.lookup f25 = some ⟨oc25, od25, .func (PySem.W.fnOf "is_input" "is_input" (defArgs s_is_input) (defBody s_is_input) (defScope s_is_input) .none kV25 dc25 pm25 an25 cd25 ct25), sl25⟩)
    (c25 : PySem.W.codeIn K cd25 "is_input" = true) (k25 : PySem.W.keepIn K (.ref f25) = true)
    (a26 : PySem.W.nsIn K mainGlobals "are_before" = some (some (.ref f26)))
    (l26 : K.lookup f26 = some ⟨oc26, od26, .func (PySem.W.fnOf "are_before" "are_before" (defArgs s_are_before) (defBody s_are_before) (defScope s_are_before) .none kV26 dc26 pm26 an26 cd26 ct26), sl26⟩)
    (c26 : PySem.W.codeIn K cd26 "are_before" = true) (k26 : PySem.W.keepIn K (.ref f26) = true)
    (a27 : PySem.W.nsIn K mainGlobals "inputs_needed" = some (some (.ref f27)))
    (l27 : K.lookup f27 = some ⟨oc27, od27, .func (PySem.W.fnOf "inputs_needed" "inputs_needed" (defArgs s_inputs_needed) (defBody s_inputs_needed) (defScope s_inputs_needed) .none kV27 dc27 pm27 an27 cd27 ct27), sl27⟩)
    (c27 : PySem.W.codeIn K cd27 "inputs_needed" = true) (k27 : PySem.W.keepIn K (.ref f27) = true)
    (a28 : PySem.W.nsIn K mainGlobals "check_source" = some (some (.ref f28)))
    (l28 : K.lookup f28 = some ⟨oc28, od28, .func (PySem.W.fnOf "check_source" "check_source" (defArgs s_check_source) (defBody s_check_source) (defScope s_check_source) .none kV28 dc28 pm28 an28 cd28 ct28), sl28⟩)
    (c28 : PySem.W.codeIn K cd28 "check_source" = true) (k28 : PySem.W.keepIn K (.ref f28) = true)
    (a29 : PySem.W.nsIn K mainGlobals "_is_source" = some (some (.ref f29)))
    (l29 : K.lookup f29 = some ⟨oc29, od29, .func (PySem.W.fnOf "_is_source" "_is_source" (defArgs s_is_source) (defBody s_is_source) (defScope s_is_source) .none kV29 dc29 pm29 an29 cd29 ct29), sl29⟩)
    (c29 : PySem.W.codeIn K cd29 "_is_source" = true) (k29 : PySem.W.keepIn K (.ref f29) = true)
    (a30 : PySem.W.nsIn K mainGlobals "_is_node" = some (some (.ref f30)))
    (l30 : K.lookup f30 = some ⟨oc30, od30, .func (PySem.W.fnOf "_is_node" "_is_node" (defArgs s_is_node) (defBody s_is_node) (defScope s_is_node) .none kV30 dc30 pm30 an30 cd30 ct30), sl30⟩)
    (c30 : PySem.W.codeIn K cd30 "_is_node" = true) (k30 : PySem.W.keepIn K (.ref f30) = true)
    (a31 : PySem.W.nsIn K mainGlobals "needs" = some (some (.ref f31)))
    (l31 : K.lookup f31 = some ⟨oc31, od31, .func (PySem.W.fnOf "needs" "needs" (defArgs s_needs) (defBody s_needs) (defScope s_needs) .none kV31 dc31 pm31 an31 cd31 ct31), sl31⟩)
    (c31 : PySem.W.codeIn K cd31 "needs" = true) (k31 : PySem.W.keepIn K (.ref f31) = true)
    (a32 : PySem.W.nsIn K mainGlobals "cost" = some (some (.ref f32)))
    (l32 : K.lookup f32 = some ⟨oc32, od32, .func (PySem.W.fnOf "cost" "cost" (defArgs s_cost) (defBody s_cost) (defScope s_cost) .none kV32 dc32 pm32 an32 cd32 ct32), sl32⟩)
    (c32 : PySem.W.codeIn K cd32 "cost" = true) (k32 : PySem.W.keepIn K (.ref f32) = true)
    (a33 : PySem.W.nsIn K mainGlobals "_cost_of" = some (some (.ref f33)))
    (l33 : K.lookup f33 = some ⟨oc33, od33, .func (PySem.W.fnOf "_cost_of" "_cost_of" (defArgs s_cost_of) (defBody s_cost_of) (defScope s_cost_of) .none kV33 dc33 pm33 an33 cd33 ct33), sl33⟩)
    (c33 : PySem.W.codeIn K cd33 "_cost_of" = true) (k33 : PySem.W.keepIn K (.ref f33) = true)
    (a34 : PySem.W.nsIn K mainGlobals "compile_source" = some (some (.ref f34)))
    (l34 : K.lookup f34 = some ⟨oc34, od34, .func (PySem.W.fnOf "compile_source" "compile_source" (defArgs s_compile_source) (defBody s_compile_source) (defScope s_compile_source) .none kV34 dc34 pm34 an34 cd34 ct34), sl34⟩)
    (c34 : PySem.W.codeIn K cd34 "compile_source" = true) (k34 : PySem.W.keepIn K (.ref f34) = true)
    (a35 : PySem.W.nsIn K mainGlobals "_steps_of" = some (some (.ref f35)))
    (l35 : K.lookup f35 = some ⟨oc35, od35, .func (PySem.W.fnOf "_steps_of" "_steps_of" (defArgs s_steps_of) (defBody s_steps_of) (defScope s_steps_of) .none kV35 dc35 pm35 an35 cd35 ct35), sl35⟩)
    (c35 : PySem.W.codeIn K cd35 "_steps_of" = true) (k35 : PySem.W.keepIn K (.ref f35) = true)
    (a36 : PySem.W.nsIn K mainGlobals "_without_scaling" = some (some (.ref f36)))
    (l36 : K.lookup f36 = some ⟨oc36, od36, .func (PySem.W.fnOf "_without_scaling" "_without_scaling" (defArgs s_without_scaling) (defBody s_without_scaling) (defScope s_without_scaling) .none kV36 dc36 pm36 an36 cd36 ct36), sl36⟩)
    (c36 : PySem.W.codeIn K cd36 "_without_scaling" = true) (k36 : PySem.W.keepIn K (.ref f36) = true)
    (a37 : PySem.W.nsIn K mainGlobals "_parts_of" = some (some (.ref f37)))
    (l37 : K.lookup f37 = some ⟨oc37, od37, .func (PySem.W.fnOf "_parts_of" "_parts_of" (defArgs s_parts_of) (defBody s_parts_of) (defScope s_parts_of) .none kV37 dc37 pm37 an37 cd37 ct37), sl37⟩)
    (c37 : PySem.W.codeIn K cd37 "_parts_of" = true) (k37 : PySem.W.keepIn K (.ref f37) = true)
    (a38 : PySem.W.nsIn K mainGlobals "_borrowed_cell" = some (some (.ref f38)))
    (l38 : K.lookup f38 = some ⟨oc38, od38, .func (PySem.W.fnOf "_borrowed_cell" "_borrowed_cell" (defArgs s_borrowed_cell) (defBody s_borrowed_cell) (defScope s_borrowed_cell) .none kV38 dc38 pm38 an38 cd38 ct38), sl38⟩)
    (c38 : PySem.W.codeIn K cd38 "_borrowed_cell" = true) (k38 : PySem.W.keepIn K (.ref f38) = true)
    (a39 : PySem.W.nsIn K mainGlobals "_law_mixed" = some (some (.ref f39)))
    (l39 : K.lookup f39 = some ⟨oc39, od39, .func (PySem.W.fnOf "_law_mixed" "_law_mixed" (defArgs s_law_mixed) (defBody s_law_mixed) (defScope s_law_mixed) .none kV39 dc39 pm39 an39 cd39 ct39), sl39⟩)
    (c39 : PySem.W.codeIn K cd39 "_law_mixed" = true) (k39 : PySem.W.keepIn K (.ref f39) = true)
    (a40 : PySem.W.nsIn K mainGlobals "_law_numbers" = some (some (.ref f40)))
    (l40 : K.lookup f40 = some ⟨oc40, od40, .func (PySem.W.fnOf "_law_numbers" "_law_numbers" (defArgs s_law_numbers) (defBody s_law_numbers) (defScope s_law_numbers) .none kV40 dc40 pm40 an40 cd40 ct40), sl40⟩)
    (c40 : PySem.W.codeIn K cd40 "_law_numbers" = true) (k40 : PySem.W.keepIn K (.ref f40) = true)
    (a41 : PySem.W.nsIn K mainGlobals "_law_draw" = some (some (.ref f41)))
    (l41 : K.lookup f41 = some ⟨oc41, od41, .func (PySem.W.fnOf "_law_draw" "_law_draw" (defArgs s_law_draw) (defBody s_law_draw) (defScope s_law_draw) .none kV41 dc41 pm41 an41 cd41 ct41), sl41⟩)
    (c41 : PySem.W.codeIn K cd41 "_law_draw" = true) (k41 : PySem.W.keepIn K (.ref f41) = true)
    (a42 : PySem.W.nsIn K mainGlobals "_law_equal" = some (some (.ref f42)))
    (l42 : K.lookup f42 = some ⟨oc42, od42, .func (PySem.W.fnOf "_law_equal" "_law_equal" (defArgs s_law_equal) (defBody s_law_equal) (defScope s_law_equal) .none kV42 dc42 pm42 an42 cd42 ct42), sl42⟩)
    (c42 : PySem.W.codeIn K cd42 "_law_equal" = true) (k42 : PySem.W.keepIn K (.ref f42) = true)
    (a43 : PySem.W.nsIn K mainGlobals "_law_all_equal" = some (some (.ref f43)))
    (l43 : K.lookup f43 = some ⟨oc43, od43, .func (PySem.W.fnOf "_law_all_equal" "_law_all_equal" (defArgs s_law_all_equal) (defBody s_law_all_equal) (defScope s_law_all_equal) .none kV43 dc43 pm43 an43 cd43 ct43), sl43⟩)
    (c43 : PySem.W.codeIn K cd43 "_law_all_equal" = true) (k43 : PySem.W.keepIn K (.ref f43) = true)
    (a44 : PySem.W.nsIn K mainGlobals "_law_source" = some (some (.ref f44)))
    (l44 : K.lookup f44 = some ⟨oc44, od44, .func (PySem.W.fnOf "_law_source" "_law_source" (defArgs s_law_source) (defBody s_law_source) (defScope s_law_source) .none kV44 dc44 pm44 an44 cd44 ct44), sl44⟩)
    (c44 : PySem.W.codeIn K cd44 "_law_source" = true) (k44 : PySem.W.keepIn K (.ref f44) = true)
    (a45 : PySem.W.nsIn K mainGlobals "_law_meaning" = some (some (.ref f45)))
    (l45 : K.lookup f45 = some ⟨oc45, od45, .func (PySem.W.fnOf "_law_meaning" "_law_meaning" (defArgs s_law_meaning) (defBody s_law_meaning) (defScope s_law_meaning) .none kV45 dc45 pm45 an45 cd45 ct45), sl45⟩)
    (c45 : PySem.W.codeIn K cd45 "_law_meaning" = true) (k45 : PySem.W.keepIn K (.ref f45) = true)
    (a46 : PySem.W.nsIn K mainGlobals "_law_needs" = some (some (.ref f46)))
    (l46 : K.lookup f46 = some ⟨oc46, od46, .func (PySem.W.fnOf "_law_needs" "_law_needs" (defArgs s_law_needs) (defBody s_law_needs) (defScope s_law_needs) .none kV46 dc46 pm46 an46 cd46 ct46), sl46⟩)
    (c46 : PySem.W.codeIn K cd46 "_law_needs" = true) (k46 : PySem.W.keepIn K (.ref f46) = true)
    (a47 : PySem.W.nsIn K mainGlobals "_law_spread" = some (some (.ref f47)))
    (l47 : K.lookup f47 = some ⟨oc47, od47, .func (PySem.W.fnOf "_law_spread" "_law_spread" (defArgs s_law_spread) (defBody s_law_spread) (defScope s_law_spread) .none kV47 dc47 pm47 an47 cd47 ct47), sl47⟩)
    (c47 : PySem.W.codeIn K cd47 "_law_spread" = true) (k47 : PySem.W.keepIn K (.ref f47) = true)
    (a48 : PySem.W.nsIn K mainGlobals "law" = some (some (.ref f48)))
    (l48 : K.lookup f48 = some ⟨oc48, od48, .func (PySem.W.fnOf "law" "law" (defArgs s_law) (defBody s_law) (defScope s_law) .none kV48 dc48 pm48 an48 cd48 ct48), sl48⟩)
    (c48 : PySem.W.codeIn K cd48 "law" = true) (k48 : PySem.W.keepIn K (.ref f48) = true)
    (a49 : PySem.W.findIn K (.ref C_Program) "__init__" = some (some (.ref f49))) (i49 : PySem.W.isFn K (.ref f49) = true)
    (l49 : K.lookup f49 = some ⟨oc49, od49, .func (PySem.W.fnOf "__init__" "Program.__init__" (defArgs s_Program___init) (defBody s_Program___init) (defScope s_Program___init) .none kV49 dc49 pm49 an49 cd49 ct49), sl49⟩)
    (c49 : PySem.W.codeIn K cd49 "Program.__init__" = true) (k49 : PySem.W.keepIn K (.ref f49) = true)
    (n_Program_modulus : PySem.W.findIn K (.ref C_Program) "modulus" = some none)
    (n_Program_cells : PySem.W.findIn K (.ref C_Program) "cells" = some none)
    (n_Program_inputs : PySem.W.findIn K (.ref C_Program) "inputs" = some none)
    (n_Program_steps : PySem.W.findIn K (.ref C_Program) "steps" = some none)
    (z_all : PySem.W.nsIn K mainGlobals "all" = some none)
    (z_any : PySem.W.nsIn K mainGlobals "any" = some none)
    (z_bool : PySem.W.nsIn K mainGlobals "bool" = some none)
    (z_enumerate : PySem.W.nsIn K mainGlobals "enumerate" = some none)
    (z_int : PySem.W.nsIn K mainGlobals "int" = some none)
    (z_isinstance : PySem.W.nsIn K mainGlobals "isinstance" = some none)
    (z_len : PySem.W.nsIn K mainGlobals "len" = some none)
    (z_list : PySem.W.nsIn K mainGlobals "list" = some none)
    (z_max : PySem.W.nsIn K mainGlobals "max" = some none)
    (z_range : PySem.W.nsIn K mainGlobals "range" = some none)
    (z_set : PySem.W.nsIn K mainGlobals "set" = some none)
    (z_sorted : PySem.W.nsIn K mainGlobals "sorted" = some none)
    (z_str : PySem.W.nsIn K mainGlobals "str" = some none)
    (z_tuple : PySem.W.nsIn K mainGlobals "tuple" = some none)
    (z_gcd : PySem.W.nsIn K mainGlobals "gcd" = some (some (.builtin "math.gcd")))
    (z_isqrt : PySem.W.nsIn K mainGlobals "isqrt" = some (some (.builtin "math.isqrt")))
    (z_CELLS : PySem.W.nsIn K mainGlobals "CELLS" = some (some (.int 3 t_CELLS)))
    (z_CONSTANTS_END : PySem.W.nsIn K mainGlobals "CONSTANTS_END" = some (some (.int 1000000000 t_CONSTANTS_END)))
    (z_GREATEST_MODULUS : PySem.W.nsIn K mainGlobals "GREATEST_MODULUS" = some (some (.int 1000000000 t_GREATEST_MODULUS)))
    (z_MOST_BITS : PySem.W.nsIn K mainGlobals "MOST_BITS" = some (some (.int 120 t_MOST_BITS)))
    (z_MOST_CELLS : PySem.W.nsIn K mainGlobals "MOST_CELLS" = some (some (.int 60 t_MOST_CELLS)))
    (z_MOST_FACTORS : PySem.W.nsIn K mainGlobals "MOST_FACTORS" = some (some (.int 3 t_MOST_FACTORS)))
    (z_MOST_GATES : PySem.W.nsIn K mainGlobals "MOST_GATES" = some (some (.int 60000 t_MOST_GATES)))
    (z_MOST_INPUTS_nodes : PySem.W.nsIn K mainGlobals "MOST_INPUTS_nodes" = some (some (.int 60 t_MOST_INPUTS_nodes)))
    (z_MOST_INPUTS_programs : PySem.W.nsIn K mainGlobals "MOST_INPUTS_programs" = some (some (.int 60 t_MOST_INPUTS_programs)))
    (z_MOST_NODES : PySem.W.nsIn K mainGlobals "MOST_NODES" = some (some (.int 200 t_MOST_NODES)))
    (z_MOST_STEPS : PySem.W.nsIn K mainGlobals "MOST_STEPS" = some (some (.int 20000 t_MOST_STEPS)))
    : ∃ fd : FuncData, (∀ (s : Shared) (v : Value), BindsTo s fd ⟨[v], []⟩ [("script", v)]) ∧ ∀ base : Heap, K.In base → base.Ns mainGlobals mg → FnOk l.prog w K mg base CX0 10 fa fd ["script"] (sp_law K) := by
  have e := hfa.symm.trans (PySem.W.mg_of X G a48)
  cases e
  have F0 := fun_mk (st := s_are_bits) l0 c0 k0
  have b0 := F0.binds (ps := ["values", "least"]) fun _ _ _ _ _ _ us hl => match us, hl with | [_, _], _ => rfl
  have F1 := fun_mk (st := s_is_below) l1 c1 k1
  have b1 := F1.binds (ps := ["value", "bound"]) fun _ _ _ _ _ _ us hl => match us, hl with | [_, _], _ => rfl
  have F2 := fun_mk (st := s_is_modulus) l2 c2 k2
  have b2 := F2.binds (ps := ["value"]) fun _ _ _ _ _ _ us hl => match us, hl with | [_], _ => rfl
  have F3 := fun_mk (st := s_is_prime) l3 c3 k3
  have b3 := F3.binds (ps := ["n"]) fun _ _ _ _ _ _ us hl => match us, hl with | [_], _ => rfl
  have F4 := fun_mk (st := s_perform) l4 c4 k4
  have b4 := F4.binds (ps := ["gates", "bits"]) fun _ _ _ _ _ _ us hl => match us, hl with | [_, _], _ => rfl
  have F5 := fun_mk (st := s_are_gates) l5 c5 k5
  have b5 := F5.binds (ps := ["gates"]) fun _ _ _ _ _ _ us hl => match us, hl with | [_], _ => rfl
  have F6 := fun_mk (st := s_is_gate) l6 c6 k6
  have b6 := F6.binds (ps := ["gate"]) fun _ _ _ _ _ _ us hl => match us, hl with | [_], _ => rfl
  have F7 := fun_mk (st := s_is_bit) l7 c7 k7
  have b7 := F7.binds (ps := ["value"]) fun _ _ _ _ _ _ us hl => match us, hl with | [_], _ => rfl
  have F8 := fun_mk (st := s_are_rising) l8 c8 k8
  have b8 := F8.binds (ps := ["controls"]) fun _ _ _ _ _ _ us hl => match us, hl with | [_], _ => rfl
  have F9 := fun_mk (st := s_bits_touched) l9 c9 k9
  have b9 := F9.binds (ps := ["gate"]) fun _ _ _ _ _ _ us hl => match us, hl with | [_], _ => rfl
  have F10 := fun_mk (st := s_spread) l10 c10 k10
  have b10 := F10.binds (ps := ["target", "controls", "borrowed"]) fun _ _ _ _ _ _ us hl => match us, hl with | [_, _, _], _ => rfl
  have F11 := fun_mk (st := s_are_borrowed) l11 c11 k11
  have b11 := F11.binds (ps := ["borrowed", "needed", "taken"]) fun _ _ _ _ _ _ us hl => match us, hl with | [_, _, _], _ => rfl
  have F12 := fun_mk (st := s_gate_of_two) l12 c12 k12
  have b12 := F12.binds (ps := ["target", "a", "b"]) fun _ _ _ _ _ _ us hl => match us, hl with | [_, _, _], _ => rfl
  have F13 := fun_mk (st := s_gates_of) l13 c13 k13
  have b13 := F13.binds (ps := ["program"]) fun _ _ _ _ _ _ us hl => match us, hl with | [_], _ => rfl
  have F14 := fun_mk (st := s_gates_of_step) l14 c14 k14
  have b14 := F14.binds (ps := ["step", "inputs"]) fun _ _ _ _ _ _ us hl => match us, hl with | [_, _], _ => rfl
  have F15 := fun_mk (st := s_is_step) l15 c15 k15
  have b15 := F15.binds (ps := ["step", "modulus", "cells", "inputs"]) fun _ _ _ _ _ _ us hl => match us, hl with | [_, _, _, _], _ => rfl
  have F16 := fun_mk (st := s_are_factors) l16 c16 k16
  have b16 := F16.binds (ps := ["factors", "target", "cells", "inputs"]) fun _ _ _ _ _ _ us hl => match us, hl with | [_, _, _, _], _ => rfl
  have F17 := fun_mk (st := s_is_factor) l17 c17 k17
  have b17 := F17.binds (ps := ["factor", "target", "cells", "inputs"]) fun _ _ _ _ _ _ us hl => match us, hl with | [_, _, _, _], _ => rfl
  have F18 := fun_mk (st := s_are_three_cells) l18 c18 k18
  have b18 := F18.binds (ps := ["target", "a", "b", "cells"]) fun _ _ _ _ _ _ us hl => match us, hl with | [_, _, _, _], _ => rfl
  have F19 := fun_mk (st := s_is_sign) l19 c19 k19
  have b19 := F19.binds (ps := ["sign", "modulus"]) fun _ _ _ _ _ _ us hl => match us, hl with | [_, _], _ => rfl
  have F20 := fun_mk (st := s_is_table) l20 c20 k20
  have b20 := F20.binds (ps := ["table", "modulus"]) fun _ _ _ _ _ _ us hl => match us, hl with | [_, _], _ => rfl
  have F21 := fun_mk (st := s_is_row) l21 c21 k21
  have b21 := F21.binds (ps := ["row", "size", "modulus"]) fun _ _ _ _ _ _ us hl => match us, hl with | [_, _, _], _ => rfl
  have F22 := fun_mk (st := s_check_sizes) l22 c22 k22
  have b22 := F22.binds (ps := ["modulus", "cells", "inputs"]) fun _ _ _ _ _ _ us hl => match us, hl with | [_, _, _], _ => rfl
  have F23 := fun_mk (st := s_check_steps) l23 c23 k23
  have b23 := F23.binds (ps := ["steps", "modulus", "cells", "inputs"]) fun _ _ _ _ _ _ us hl => match us, hl with | [_, _, _, _], _ => rfl
  have F24 := fun_mk (st := s_are_nodes) l24 c24 k24
  have b24 := F24.binds (ps := ["source"]) fun _ _ _ _ _ _ us hl => match us, hl with | [_], _ => rfl
  have F25 := fun_mk (st := s_is_input) l25 c25 k25
  have b25 := F25.binds (ps := ["k"]) fun _ _ _ _ _ _ us hl => match us, hl with | [_], _ => rfl
  have F26 := fun_mk (st := s_are_before) l26 c26 k26
  have b26 : StarB (PySem.W.fnOf "are_before" "are_before" (defArgs s_are_before) (defBody s_are_before) (defScope s_are_before) .none kV26 dc26 pm26 an26 cd26 ct26) ["at"] "references" := StX.bind_star1 (B := fun xs => bindArgs (PySem.W.fnOf "are_before" "are_before" (defArgs s_are_before) (defBody s_are_before) (defScope s_are_before) .none kV26 dc26 pm26 an26 cd26 ct26) ⟨xs, []⟩) (fun a0 => rfl) (fun a0 r rs => rfl)
  have F27 := fun_mk (st := s_inputs_needed) l27 c27 k27
  have b27 := F27.binds (ps := ["source"]) fun _ _ _ _ _ _ us hl => match us, hl with | [_], _ => rfl
  have F28 := fun_mk (st := s_check_source) l28 c28 k28
  have b28 := F28.binds (ps := ["source"]) fun _ _ _ _ _ _ us hl => match us, hl with | [_], _ => rfl
  have F29 := fun_mk (st := s_is_source) l29 c29 k29
  have b29 := F29.binds (ps := ["source"]) fun _ _ _ _ _ _ us hl => match us, hl with | [_], _ => rfl
  have F30 := fun_mk (st := s_is_node) l30 c30 k30
  have b30 := F30.binds (ps := ["node", "at"]) fun _ _ _ _ _ _ us hl => match us, hl with | [_, _], _ => rfl
  have F31 := fun_mk (st := s_needs) l31 c31 k31
  have b31 := F31.binds (ps := ["source"]) fun _ _ _ _ _ _ us hl => match us, hl with | [_], _ => rfl
  have F32 := fun_mk (st := s_cost) l32 c32 k32
  have b32 := F32.binds (ps := ["source"]) fun _ _ _ _ _ _ us hl => match us, hl with | [_], _ => rfl
  have F33 := fun_mk (st := s_cost_of) l33 c33 k33
  have b33 := F33.binds (ps := ["node", "costs"]) fun _ _ _ _ _ _ us hl => match us, hl with | [_, _], _ => rfl
  have F34 := fun_mk (st := s_compile_source) l34 c34 k34
  have b34 := F34.binds (ps := ["source", "modulus"]) fun _ _ _ _ _ _ us hl => match us, hl with | [_, _], _ => rfl
  have F35 := fun_mk (st := s_steps_of) l35 c35 k35
  have b35 := F35.binds (ps := ["source", "modulus"]) fun _ _ _ _ _ _ us hl => match us, hl with | [_, _], _ => rfl
  have F36 := fun_mk (st := s_without_scaling) l36 c36 k36
  have b36 := F36.binds (ps := ["source", "modulus"]) fun _ _ _ _ _ _ us hl => match us, hl with | [_, _], _ => rfl
  have F37 := fun_mk (st := s_parts_of) l37 c37 k37
  have b37 := F37.binds (ps := ["node", "target", "coefficient", "factors"]) fun _ _ _ _ _ _ us hl => match us, hl with | [_, _, _, _], _ => rfl
  have F38 := fun_mk (st := s_borrowed_cell) l38 c38 k38
  have b38 := F38.binds (ps := ["target", "factors"]) fun _ _ _ _ _ _ us hl => match us, hl with | [_, _], _ => rfl
  have F39 := fun_mk (st := s_law_mixed) l39 c39 k39
  have b39 := F39.binds (ps := ["number", "k"]) fun _ _ _ _ _ _ us hl => match us, hl with | [_, _], _ => rfl
  have F40 := fun_mk (st := s_law_numbers) l40 c40 k40
  have b40 := F40.binds (ps := ["script"]) fun _ _ _ _ _ _ us hl => match us, hl with | [_], _ => rfl
  have F41 := fun_mk (st := s_law_draw) l41 c41 k41
  have b41 := F41.binds (ps := ["draws"]) fun _ _ _ _ _ _ us hl => match us, hl with | [_], _ => rfl
  have F42 := fun_mk (st := s_law_equal) l42 c42 k42
  have b42 := F42.binds (ps := ["actual", "due"]) fun _ _ _ _ _ _ us hl => match us, hl with | [_, _], _ => rfl
  have F43 := fun_mk (st := s_law_all_equal) l43 c43 k43
  have b43 := F43.binds (ps := ["actual", "due"]) fun _ _ _ _ _ _ us hl => match us, hl with | [_, _], _ => rfl
  have F44 := fun_mk (st := s_law_source) l44 c44 k44
  have b44 := F44.binds (ps := ["draws", "many", "inputs"]) fun _ _ _ _ _ _ us hl => match us, hl with | [_, _, _], _ => rfl
  have F45 := fun_mk (st := s_law_meaning) l45 c45 k45
  have b45 := F45.binds (ps := ["source", "modulus", "given"]) fun _ _ _ _ _ _ us hl => match us, hl with | [_, _, _], _ => rfl
  have F46 := fun_mk (st := s_law_needs) l46 c46 k46
  have b46 := F46.binds (ps := ["source"]) fun _ _ _ _ _ _ us hl => match us, hl with | [_], _ => rfl
  have F47 := fun_mk (st := s_law_spread) l47 c47 k47
  have b47 := F47.binds (ps := ["draws", "gates", "many"]) fun _ _ _ _ _ _ us hl => match us, hl with | [_, _, _], _ => rfl
  have F48 := fun_mk (st := s_law) l48 c48 k48
  have b48 := F48.binds (ps := ["script"]) fun _ _ _ _ _ _ us hl => match us, hl with | [_], _ => rfl
  have F49 := fun_mk (st := s_Program___init) l49 c49 k49
  have b49 := F49.binds (ps := ["self", "modulus", "cells", "inputs", "steps"]) fun _ _ _ _ _ _ us hl => match us, hl with | [_, _, _, _, _], _ => rfl
  exact ⟨PySem.W.fnOf "law" "law" (defArgs s_law) (defBody s_law) (defScope s_law) .none kV48 dc48 pm48 an48 cd48 ct48, fun s v => .of_eq rfl, fun base _ _ => ok_law (⟨_, _, F0, b0, PySem.W.mg_of X G a0, _, _, F1, b1, PySem.W.mg_of X G a1, _, _, F2, b2, PySem.W.mg_of X G a2, _, _, F3, b3, PySem.W.mg_of X G a3, _, _, F4, b4, PySem.W.mg_of X G a4, _, _, F5, b5, PySem.W.mg_of X G a5, _, _, F6, b6, PySem.W.mg_of X G a6, _, _, F7, b7, PySem.W.mg_of X G a7, _, _, F8, b8, PySem.W.mg_of X G a8, _, _, F9, b9, PySem.W.mg_of X G a9, _, _, F10, b10, PySem.W.mg_of X G a10, _, _, F11, b11, PySem.W.mg_of X G a11, _, _, F12, b12, PySem.W.mg_of X G a12, _, _, F13, b13, PySem.W.mg_of X G a13, _, _, F14, b14, PySem.W.mg_of X G a14, _, _, F15, b15, PySem.W.mg_of X G a15, _, _, F16, b16, PySem.W.mg_of X G a16, _, _, F17, b17, PySem.W.mg_of X G a17, _, _, F18, b18, PySem.W.mg_of X G a18, _, _, F19, b19, PySem.W.mg_of X G a19, _, _, F20, b20, PySem.W.mg_of X G a20, _, _, F21, b21, PySem.W.mg_of X G a21, _, _, F22, b22, PySem.W.mg_of X G a22, _, _, F23, b23, PySem.W.mg_of X G a23, _, _, F24, b24, PySem.W.mg_of X G a24, _, _, F25, b25, PySem.W.mg_of X G a25, _, _, F26, b26, PySem.W.mg_of X G a26, _, _, F27, b27, PySem.W.mg_of X G a27, _, _, F28, b28, PySem.W.mg_of X G a28, _, _, F29, b29, PySem.W.mg_of X G a29, _, _, F30, b30, PySem.W.mg_of X G a30, _, _, F31, b31, PySem.W.mg_of X G a31, _, _, F32, b32, PySem.W.mg_of X G a32, _, _, F33, b33, PySem.W.mg_of X G a33, _, _, F34, b34, PySem.W.mg_of X G a34, _, _, F35, b35, PySem.W.mg_of X G a35, _, _, F36, b36, PySem.W.mg_of X G a36, _, _, F37, b37, PySem.W.mg_of X G a37, _, _, F38, b38, PySem.W.mg_of X G a38, _, _, F39, b39, PySem.W.mg_of X G a39, _, _, F40, b40, PySem.W.mg_of X G a40, _, _, F41, b41, PySem.W.mg_of X G a41, _, _, F42, b42, PySem.W.mg_of X G a42, _, _, F43, b43, PySem.W.mg_of X G a43, _, _, F44, b44, PySem.W.mg_of X G a44, _, _, F45, b45, PySem.W.mg_of X G a45, _, _, F46, b46, PySem.W.mg_of X G a46, _, _, F47, b47, PySem.W.mg_of X G a47, _, _, F48, b48, PySem.W.mg_of X G a48, _, _, F49, b49, C_Program, ⟨pg_Program, hd_Program, po_Program, sa_Program⟩, PySem.W.mg_of X G aC_Program, n_Program_modulus, n_Program_cells, n_Program_inputs, n_Program_steps, ⟨mk_Program, a49, i49, kc_Program⟩, E_BrimfulError, PySem.W.mg_of X G aE_BrimfulError, xE_BrimfulError, kE_BrimfulError, bE_BrimfulError, tE_BrimfulError, dE_BrimfulError, ⟨h1E_BrimfulError, h2E_BrimfulError, bE_BrimfulError, dE_BrimfulError, h3E_BrimfulError, hnE, htE, h4E_BrimfulError⟩, E_BadSource, PySem.W.mg_of X G aE_BadSource, xE_BadSource, kE_BadSource, bE_BadSource, tE_BadSource, dE_BadSource, ⟨h1E_BadSource, h2E_BadSource, bE_BadSource, dE_BadSource, h3E_BadSource, hnE, htE, h4E_BadSource⟩, E_BadStep, PySem.W.mg_of X G aE_BadStep, xE_BadStep, kE_BadStep, bE_BadStep, tE_BadStep, dE_BadStep, ⟨h1E_BadStep, h2E_BadStep, bE_BadStep, dE_BadStep, h3E_BadStep, hnE, htE, h4E_BadStep⟩, E_TooLong, PySem.W.mg_of X G aE_TooLong, xE_TooLong, kE_TooLong, bE_TooLong, tE_TooLong, dE_TooLong, ⟨h1E_TooLong, h2E_TooLong, bE_TooLong, dE_TooLong, h3E_TooLong, hnE, htE, h4E_TooLong⟩, E_BadGate, PySem.W.mg_of X G aE_BadGate, xE_BadGate, kE_BadGate, bE_BadGate, tE_BadGate, dE_BadGate, ⟨h1E_BadGate, h2E_BadGate, bE_BadGate, dE_BadGate, h3E_BadGate, hnE, htE, h4E_BadGate⟩, sE_BrimfulError_BrimfulError, sE_BrimfulError_BadSource, sE_BrimfulError_BadStep, sE_BrimfulError_TooLong, sE_BrimfulError_BadGate, sE_BadSource_BrimfulError, sE_BadSource_BadSource, sE_BadSource_BadStep, sE_BadSource_TooLong, sE_BadSource_BadGate, sE_BadStep_BrimfulError, sE_BadStep_BadSource, sE_BadStep_BadStep, sE_BadStep_TooLong, sE_BadStep_BadGate, sE_TooLong_BrimfulError, sE_TooLong_BadSource, sE_TooLong_BadStep, sE_TooLong_TooLong, sE_TooLong_BadGate, sE_BadGate_BrimfulError, sE_BadGate_BadSource, sE_BadGate_BadStep, sE_BadGate_TooLong, sE_BadGate_BadGate, PySem.W.mg_none_of X G z_all, PySem.W.mg_none_of X G z_any, PySem.W.mg_none_of X G z_bool, PySem.W.mg_none_of X G z_enumerate, PySem.W.mg_none_of X G z_int, PySem.W.mg_none_of X G z_isinstance, PySem.W.mg_none_of X G z_len, PySem.W.mg_none_of X G z_list, PySem.W.mg_none_of X G z_max, PySem.W.mg_none_of X G z_range, PySem.W.mg_none_of X G z_set, PySem.W.mg_none_of X G z_sorted, PySem.W.mg_none_of X G z_str, PySem.W.mg_none_of X G z_tuple, PySem.W.mg_of X G z_gcd, PySem.W.mg_of X G z_isqrt, _, PySem.W.mg_of X G z_CELLS, _, PySem.W.mg_of X G z_CONSTANTS_END, _, PySem.W.mg_of X G z_GREATEST_MODULUS, _, PySem.W.mg_of X G z_MOST_BITS, _, PySem.W.mg_of X G z_MOST_CELLS, _, PySem.W.mg_of X G z_MOST_FACTORS, _, PySem.W.mg_of X G z_MOST_GATES, _, PySem.W.mg_of X G z_MOST_INPUTS_nodes, _, PySem.W.mg_of X G z_MOST_INPUTS_programs, _, PySem.W.mg_of X G z_MOST_NODES, _, PySem.W.mg_of X G z_MOST_STEPS⟩ : Txt K mg)⟩
end
end Br
open PySem PySem.W PyProof.Rows
set_option maxRecDepth 100000 in
set_option maxHeartbeats 0 in
theorem PySem.Challenge.cw_brimful_k36_whole_sources_on_borrowed_bi_holds : PySem.Challenge.rw_brimful_k36_whole_sources_on_borrowed_bi.Holds := by
  w_on; o_law; k_head; (case hw => w_witness2)
  k_fill
  refine L2.walk_of (l := PySem.Challenge.rw_brimful_k36_whole_sources_on_borrowed_bi) (n := 63) (k := 10) (x := "script") (CX := fun _ => L2.CX0) (sp := fun w => Br.sp_law _) rfl (by decide) rfl ⟨rfl, by decide, by decide⟩ (fun w h Y => PySem.W.kIn_of Y) ?F (fun _ _ a ns hl _ hS => ⟨a, ns, rfl, hS, hl, fun _ => rfl⟩) (fun _ _ _ _ _ h => h)
  case F =>
    intro w mg fa h KX G hmg
    refine' Br.all_mk KX G hmg ?aC_Program ?pg_Program ?hd_Program ?po_Program ?sa_Program ?mk_Program ?kc_Program ?hnE ?htE ?aE_BrimfulError ?xE_BrimfulError ?kE_BrimfulError ?bE_BrimfulError ?tE_BrimfulError ?dE_BrimfulError ?h1E_BrimfulError ?h2E_BrimfulError ?h3E_BrimfulError ?h4E_BrimfulError ?aE_BadSource ?xE_BadSource ?kE_BadSource ?bE_BadSource ?tE_BadSource ?dE_BadSource ?h1E_BadSource ?h2E_BadSource ?h3E_BadSource ?h4E_BadSource ?aE_BadStep ?xE_BadStep ?kE_BadStep ?bE_BadStep ?tE_BadStep ?dE_BadStep ?h1E_BadStep ?h2E_BadStep ?h3E_BadStep ?h4E_BadStep ?aE_TooLong ?xE_TooLong ?kE_TooLong ?bE_TooLong ?tE_TooLong ?dE_TooLong ?h1E_TooLong ?h2E_TooLong ?h3E_TooLong ?h4E_TooLong ?aE_BadGate ?xE_BadGate ?kE_BadGate ?bE_BadGate ?tE_BadGate ?dE_BadGate ?h1E_BadGate ?h2E_BadGate ?h3E_BadGate ?h4E_BadGate ?sE_BrimfulError_BrimfulError ?sE_BrimfulError_BadSource ?sE_BrimfulError_BadStep ?sE_BrimfulError_TooLong ?sE_BrimfulError_BadGate ?sE_BadSource_BrimfulError ?sE_BadSource_BadSource ?sE_BadSource_BadStep ?sE_BadSource_TooLong ?sE_BadSource_BadGate ?sE_BadStep_BrimfulError ?sE_BadStep_BadSource ?sE_BadStep_BadStep ?sE_BadStep_TooLong ?sE_BadStep_BadGate ?sE_TooLong_BrimfulError ?sE_TooLong_BadSource ?sE_TooLong_BadStep ?sE_TooLong_TooLong ?sE_TooLong_BadGate ?sE_BadGate_BrimfulError ?sE_BadGate_BadSource ?sE_BadGate_BadStep ?sE_BadGate_TooLong ?sE_BadGate_BadGate ?a0 ?l0 ?c0 ?k0 ?a1 ?l1 ?c1 ?k1 ?a2 ?l2 ?c2 ?k2 ?a3 ?l3 ?c3 ?k3 ?a4 ?l4 ?c4 ?k4 ?a5 ?l5 ?c5 ?k5 ?a6 ?l6 ?c6 ?k6 ?a7 ?l7 ?c7 ?k7 ?a8 ?l8 ?c8 ?k8 ?a9 ?l9 ?c9 ?k9 ?a10 ?l10 ?c10 ?k10 ?a11 ?l11 ?c11 ?k11 ?a12 ?l12 ?c12 ?k12 ?a13 ?l13 ?c13 ?k13 ?a14 ?l14 ?c14 ?k14 ?a15 ?l15 ?c15 ?k15 ?a16 ?l16 ?c16 ?k16 ?a17 ?l17 ?c17 ?k17 ?a18 ?l18 ?c18 ?k18 ?a19 ?l19 ?c19 ?k19 ?a20 ?l20 ?c20 ?k20 ?a21 ?l21 ?c21 ?k21 ?a22 ?l22 ?c22 ?k22 ?a23 ?l23 ?c23 ?k23 ?a24 ?l24 ?c24 ?k24 ?a25 ?l25 ?c25 ?k25 ?a26 ?l26 ?c26 ?k26 ?a27 ?l27 ?c27 ?k27 ?a28 ?l28 ?c28 ?k28 ?a29 ?l29 ?c29 ?k29 ?a30 ?l30 ?c30 ?k30 ?a31 ?l31 ?c31 ?k31 ?a32 ?l32 ?c32 ?k32 ?a33 ?l33 ?c33 ?k33 ?a34 ?l34 ?c34 ?k34 ?a35 ?l35 ?c35 ?k35 ?a36 ?l36 ?c36 ?k36 ?a37 ?l37 ?c37 ?k37 ?a38 ?l38 ?c38 ?k38 ?a39 ?l39 ?c39 ?k39 ?a40 ?l40 ?c40 ?k40 ?a41 ?l41 ?c41 ?k41 ?a42 ?l42 ?c42 ?k42 ?a43 ?l43 ?c43 ?k43 ?a44 ?l44 ?c44 ?k44 ?a45 ?l45 ?c45 ?k45 ?a46 ?l46 ?c46 ?k46 ?a47 ?l47 ?c47 ?k47 ?a48 ?l48 ?c48 ?k48 ?a49 ?i49 ?l49 ?c49 ?k49 ?n_Program_modulus ?n_Program_cells ?n_Program_inputs ?n_Program_steps ?z_all ?z_any ?z_bool ?z_enumerate ?z_int ?z_isinstance ?z_len ?z_list ?z_max ?z_range ?z_set ?z_sorted ?z_str ?z_tuple ?z_gcd ?z_isqrt ?z_CELLS ?z_CONSTANTS_END ?z_GREATEST_MODULUS ?z_MOST_BITS ?z_MOST_CELLS ?z_MOST_FACTORS ?z_MOST_GATES ?z_MOST_INPUTS_nodes ?z_MOST_INPUTS_programs ?z_MOST_NODES ?z_MOST_STEPS
    (case aC_Program => k_is)
    (case pg_Program => k_is)
    (case hd_Program => k_is)
    (case po_Program => k_is)
    (case sa_Program => k_is)
    (case mk_Program => k_is)
    (case kc_Program => k_is)
    (case hnE => k_is)
    (case htE => k_is)
    (case aE_BrimfulError => k_is)
    (case xE_BrimfulError => k_exc)
    (case kE_BrimfulError => k_is)
    (case bE_BrimfulError => k_is)
    (case tE_BrimfulError => k_is)
    (case dE_BrimfulError => k_is)
    (case h1E_BrimfulError => k_is)
    (case h2E_BrimfulError => k_is)
    (case h3E_BrimfulError => k_is)
    (case h4E_BrimfulError => k_is)
    (case aE_BadSource => k_is)
    (case xE_BadSource => k_exc)
    (case kE_BadSource => k_is)
    (case bE_BadSource => k_is)
    (case tE_BadSource => k_is)
    (case dE_BadSource => k_is)
    (case h1E_BadSource => k_is)
    (case h2E_BadSource => k_is)
    (case h3E_BadSource => k_is)
    (case h4E_BadSource => k_is)
    (case aE_BadStep => k_is)
    (case xE_BadStep => k_exc)
    (case kE_BadStep => k_is)
    (case bE_BadStep => k_is)
    (case tE_BadStep => k_is)
    (case dE_BadStep => k_is)
    (case h1E_BadStep => k_is)
    (case h2E_BadStep => k_is)
    (case h3E_BadStep => k_is)
    (case h4E_BadStep => k_is)
    (case aE_TooLong => k_is)
    (case xE_TooLong => k_exc)
    (case kE_TooLong => k_is)
    (case bE_TooLong => k_is)
    (case tE_TooLong => k_is)
    (case dE_TooLong => k_is)
    (case h1E_TooLong => k_is)
    (case h2E_TooLong => k_is)
    (case h3E_TooLong => k_is)
    (case h4E_TooLong => k_is)
    (case aE_BadGate => k_is)
    (case xE_BadGate => k_exc)
    (case kE_BadGate => k_is)
    (case bE_BadGate => k_is)
    (case tE_BadGate => k_is)
    (case dE_BadGate => k_is)
    (case h1E_BadGate => k_is)
    (case h2E_BadGate => k_is)
    (case h3E_BadGate => k_is)
    (case h4E_BadGate => k_is)
    (case sE_BrimfulError_BrimfulError => first | rfl | k_is)
    (case sE_BrimfulError_BadSource => first | rfl | k_is)
    (case sE_BrimfulError_BadStep => first | rfl | k_is)
    (case sE_BrimfulError_TooLong => first | rfl | k_is)
    (case sE_BrimfulError_BadGate => first | rfl | k_is)
    (case sE_BadSource_BrimfulError => first | rfl | k_is)
    (case sE_BadSource_BadSource => first | rfl | k_is)
    (case sE_BadSource_BadStep => first | rfl | k_is)
    (case sE_BadSource_TooLong => first | rfl | k_is)
    (case sE_BadSource_BadGate => first | rfl | k_is)
    (case sE_BadStep_BrimfulError => first | rfl | k_is)
    (case sE_BadStep_BadSource => first | rfl | k_is)
    (case sE_BadStep_BadStep => first | rfl | k_is)
    (case sE_BadStep_TooLong => first | rfl | k_is)
    (case sE_BadStep_BadGate => first | rfl | k_is)
    (case sE_TooLong_BrimfulError => first | rfl | k_is)
    (case sE_TooLong_BadSource => first | rfl | k_is)
    (case sE_TooLong_BadStep => first | rfl | k_is)
    (case sE_TooLong_TooLong => first | rfl | k_is)
    (case sE_TooLong_BadGate => first | rfl | k_is)
    (case sE_BadGate_BrimfulError => first | rfl | k_is)
    (case sE_BadGate_BadSource => first | rfl | k_is)
    (case sE_BadGate_BadStep => first | rfl | k_is)
    (case sE_BadGate_TooLong => first | rfl | k_is)
    (case sE_BadGate_BadGate => first | rfl | k_is)
    (case a0 => k_is)
    (case l0 => k_is)
    (case c0 => k_is)
    (case k0 => k_is)
    (case a1 => k_is)
    (case l1 => k_is)
    (case c1 => k_is)
    (case k1 => k_is)
    (case a2 => k_is)
    (case l2 => k_is)
    (case c2 => k_is)
    (case k2 => k_is)
    (case a3 => k_is)
    (case l3 => k_is)
    (case c3 => k_is)
    (case k3 => k_is)
    (case a4 => k_is)
    (case l4 => k_is)
    (case c4 => k_is)
    (case k4 => k_is)
    (case a5 => k_is)
    (case l5 => k_is)
    (case c5 => k_is)
    (case k5 => k_is)
    (case a6 => k_is)
    (case l6 => k_is)
    (case c6 => k_is)
    (case k6 => k_is)
    (case a7 => k_is)
    (case l7 => k_is)
    (case c7 => k_is)
    (case k7 => k_is)
    (case a8 => k_is)
    (case l8 => k_is)
    (case c8 => k_is)
    (case k8 => k_is)
    (case a9 => k_is)
    (case l9 => k_is)
    (case c9 => k_is)
    (case k9 => k_is)
    (case a10 => k_is)
    (case l10 => k_is)
    (case c10 => k_is)
    (case k10 => k_is)
    (case a11 => k_is)
    (case l11 => k_is)
    (case c11 => k_is)
    (case k11 => k_is)
    (case a12 => k_is)
    (case l12 => k_is)
    (case c12 => k_is)
    (case k12 => k_is)
    (case a13 => k_is)
    (case l13 => k_is)
    (case c13 => k_is)
    (case k13 => k_is)
    (case a14 => k_is)
    (case l14 => k_is)
    (case c14 => k_is)
    (case k14 => k_is)
    (case a15 => k_is)
    (case l15 => k_is)
    (case c15 => k_is)
    (case k15 => k_is)
    (case a16 => k_is)
    (case l16 => k_is)
    (case c16 => k_is)
    (case k16 => k_is)
    (case a17 => k_is)
    (case l17 => k_is)
    (case c17 => k_is)
    (case k17 => k_is)
    (case a18 => k_is)
    (case l18 => k_is)
    (case c18 => k_is)
    (case k18 => k_is)
    (case a19 => k_is)
    (case l19 => k_is)
    (case c19 => k_is)
    (case k19 => k_is)
    (case a20 => k_is)
    (case l20 => k_is)
    (case c20 => k_is)
    (case k20 => k_is)
    (case a21 => k_is)
    (case l21 => k_is)
    (case c21 => k_is)
    (case k21 => k_is)
    (case a22 => k_is)
    (case l22 => k_is)
    (case c22 => k_is)
    (case k22 => k_is)
    (case a23 => k_is)
    (case l23 => k_is)
    (case c23 => k_is)
    (case k23 => k_is)
    (case a24 => k_is)
    (case l24 => k_is)
    (case c24 => k_is)
    (case k24 => k_is)
    (case a25 => k_is)
    (case l25 => k_is)
    (case c25 => k_is)
    (case k25 => k_is)
    (case a26 => k_is)
    (case l26 => k_is)
    (case c26 => k_is)
    (case k26 => k_is)
    (case a27 => k_is)
    (case l27 => k_is)
    (case c27 => k_is)
    (case k27 => k_is)
    (case a28 => k_is)
    (case l28 => k_is)
    (case c28 => k_is)
    (case k28 => k_is)
    (case a29 => k_is)
    (case l29 => k_is)
    (case c29 => k_is)
    (case k29 => k_is)
    (case a30 => k_is)
    (case l30 => k_is)
    (case c30 => k_is)
    (case k30 => k_is)
    (case a31 => k_is)
    (case l31 => k_is)
    (case c31 => k_is)
    (case k31 => k_is)
    (case a32 => k_is)
    (case l32 => k_is)
    (case c32 => k_is)
    (case k32 => k_is)
    (case a33 => k_is)
    (case l33 => k_is)
    (case c33 => k_is)
    (case k33 => k_is)
    (case a34 => k_is)
    (case l34 => k_is)
    (case c34 => k_is)
    (case k34 => k_is)
    (case a35 => k_is)
    (case l35 => k_is)
    (case c35 => k_is)
    (case k35 => k_is)
    (case a36 => k_is)
    (case l36 => k_is)
    (case c36 => k_is)
    (case k36 => k_is)
    (case a37 => k_is)
    (case l37 => k_is)
    (case c37 => k_is)
    (case k37 => k_is)
    (case a38 => k_is)
    (case l38 => k_is)
    (case c38 => k_is)
    (case k38 => k_is)
    (case a39 => k_is)
    (case l39 => k_is)
    (case c39 => k_is)
    (case k39 => k_is)
    (case a40 => k_is)
    (case l40 => k_is)
    (case c40 => k_is)
    (case k40 => k_is)
    (case a41 => k_is)
    (case l41 => k_is)
    (case c41 => k_is)
    (case k41 => k_is)
    (case a42 => k_is)
    (case l42 => k_is)
    (case c42 => k_is)
    (case k42 => k_is)
    (case a43 => k_is)
    (case l43 => k_is)
    (case c43 => k_is)
    (case k43 => k_is)
    (case a44 => k_is)
    (case l44 => k_is)
    (case c44 => k_is)
    (case k44 => k_is)
    (case a45 => k_is)
    (case l45 => k_is)
    (case c45 => k_is)
    (case k45 => k_is)
    (case a46 => k_is)
    (case l46 => k_is)
    (case c46 => k_is)
    (case k46 => k_is)
    (case a47 => k_is)
    (case l47 => k_is)
    (case c47 => k_is)
    (case k47 => k_is)
    (case a48 => k_is)
    (case l48 => k_is)
    (case c48 => k_is)
    (case k48 => k_is)
    (case a49 => k_is)
    (case i49 => k_is)
    (case l49 => k_is)
    (case c49 => k_is)
    (case k49 => k_is)
    (case n_Program_modulus => k_is)
    (case n_Program_cells => k_is)
    (case n_Program_inputs => k_is)
    (case n_Program_steps => k_is)
    (case z_all => k_is)
    (case z_any => k_is)
    (case z_bool => k_is)
    (case z_enumerate => k_is)
    (case z_int => k_is)
    (case z_isinstance => k_is)
    (case z_len => k_is)
    (case z_list => k_is)
    (case z_max => k_is)
    (case z_range => k_is)
    (case z_set => k_is)
    (case z_sorted => k_is)
    (case z_str => k_is)
    (case z_tuple => k_is)
    (case z_gcd => k_is)
    (case z_isqrt => k_is)
    (case z_CELLS => k_is)
    (case z_CONSTANTS_END => k_is)
    (case z_GREATEST_MODULUS => k_is)
    (case z_MOST_BITS => k_is)
    (case z_MOST_CELLS => k_is)
    (case z_MOST_FACTORS => k_is)
    (case z_MOST_GATES => k_is)
    (case z_MOST_INPUTS_nodes => k_is)
    (case z_MOST_INPUTS_programs => k_is)
    (case z_MOST_NODES => k_is)
    (case z_MOST_STEPS => k_is)
