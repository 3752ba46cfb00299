import PyProof.Rows.All
import Wide.All
import OpenK.AllK
import Wide.FinOn
import HandS.ForMost
import HandS.Gcd
import HandS.Wide
import HandS.IsInst
import HandS.Steps
import HandS.SortKw
import HandS.Style
import HandS.Star
import HandS.SetFor
import HandS.TupAny
import PyProof.SetRoads
import PyProof.Rows.SetFrom
import KE.DataMinMax
import HandS.Evl
import HandS.Walk
import HandS.ForExc
import HandS.ExcIs
import HandS.RaiseMore
import HandS.FStr
import KE.GoesEnum
import PyProof.Rows.MatchSeqLen
import Flt.RightSqrt
import PySem.Challenge.RW_brimful_k34_programs_become_gates
set_option Elab.async false
set_option linter.all false
set_option maxRecDepth 100000
set_option maxHeartbeats 4000000

namespace Br
open PySem PySem.Spec PyProof.Rows L2

/-! ### readings with names -/
def rLen (K : PySem.W.Frag) : List V → Hp → VK → Prop := fun xs H Q => ∃ p ys, xs = [.ref p] ∧ (SqL K H p ys ∨ SqT K H p ys) ∧ Q (.int ys.length) H
theorem cr_len {X : Cx} : CallR X (.builtin "len") (rLen X.K) := call_len_seq
def rInt1 : List V → Hp → VK → Prop := fun xs H Q => (∃ i, xs = [.int i] ∧ Q (.int i) H) ∨ ∃ k, xs = [.bl k] ∧ Q (.int (if k then 1 else 0)) H
theorem cr_int1 {X : Cx} : CallR X (.type "int") rInt1 := call_int1
def rMin2 : List V → Hp → VK → Prop := fun xs H Q => ∃ i j, xs = [.int i, .int j] ∧ Q (.int (if j < i then j else i)) H
theorem cr_min2 {X : Cx} (hc : X.calm = true) : CallR X (.builtin "min") rMin2 := call_min2 hc
def rMax2 : List V → Hp → VK → Prop := fun xs H Q => ∃ i j, xs = [.int i, .int j] ∧ Q (.int (if j > i then j else i)) H
theorem cr_max2 {X : Cx} (hc : X.calm = true) : CallR X (.builtin "max") rMax2 := call_max2 hc
def rListOf (K : PySem.W.Frag) : List V → Hp → VK → Prop := fun xs H Q => ∃ p ys, xs = [.ref p] ∧ (SqL K H p ys ∨ SqT K H p ys) ∧ ∀ l, H l = none → Q (.ref l) (upd H l (.lst ys))
theorem cr_list_of {X : Cx} : CallR X (.type "list") (rListOf X.K) := call_list_of
def rTupOf (K : PySem.W.Frag) : List V → Hp → VK → Prop := fun xs H Q => ∃ p ys, xs = [.ref p] ∧ ((SqL K H p ys ∧ ∀ l, H l = none → Q (.ref l) (upd H l (.tup ys))) ∨ (SqT K H p ys ∧ Q (.ref p) H))
theorem cr_tup_of {X : Cx} : CallR X (.type "tuple") (rTupOf X.K) := call_tuple_of
def cr_isqrt_r : List V → Hp → VK → Prop := fun vs H Q => ∃ i : Int, vs = [.int i] ∧ 0 ≤ i ∧ i < 2 ^ 64 ∧ Q (.int ((Float64.isqrt i.toNat : Nat) : Int)) H
/-! ### steps of a reading -/
section
variable {σ : L2.St} {H : Hp} {D : Ends} {Q : VK} {QT : Bool → Hp → Prop} {QA : List V → Hp → Prop} {K : PySem.W.Frag}
theorem x_seq {a u : TS} (h : a ⟨u D, D.rt, D.bk, D.ct⟩ σ H) : tSeq a u D σ H := h
theorem x_cut {a u : TS} (M : L2.St → Hp → Prop) (h : a ⟨M, D.rt, D.bk, D.ct⟩ σ H) (k : ∀ σ' H', M σ' H' → u D σ' H') : Evl.tCut a u D σ H := ⟨M, h, k⟩
theorem x_next (h : D.nx σ H) : tNext D σ H := h
theorem x_set {te : TE} {i : Nat} (h : te σ H fun x H1 => D.nx (σ.set i (some x)) H1) : tAsg te (gName i) D σ H := h
theorem x_asg {te : TE} {g : TG} (h : te σ H fun x H1 => g x σ H1 D.nx) : tAsg te g D σ H := h
/-- what a field's reading asks of the object -/
def FldR (K : PySem.W.Frag) (f : Str) (x : V) (H : Hp) (Q : VK) : Prop := ∃ a C dx fs v, x = .ref a ∧ H a = some (.ins C dx fs) ∧ Cls K C ∧ NoAttr K C f ∧ fs.lookup f = some v ∧ Q v H
theorem x_fld {ta : TE} {f : Str} (h : ta σ H fun x H1 => FldR K f x H1 Q) : tFld K ta f σ H Q := h
theorem x_fldR {a C dx : Addr} {fs : List (Str × V)} {f : Str} {v : V} (h : H a = some (.ins C dx fs)) (c : Cls K C) (n : NoAttr K C f) (l : fs.lookup f = some v) (q : Q v H) : FldR K f (.ref a) H Q := ⟨a, C, dx, fs, v, rfl, h, c, n, l, q⟩
/-- what storing a field asks -/
def FldS (K : PySem.W.Frag) (f : Str) (y x : V) (H : Hp) (R : Hp → Prop) : Prop := ∃ a C dx fs, x = .ref a ∧ H a = some (.ins C dx fs) ∧ Cls K C ∧ NoAttr K C f ∧ fs.length < 1000 ∧ R (upd H a (.ins C dx (putF f y fs)))
theorem x_fldS {ta tv : TE} {f : Str} (h : tv σ H fun y H1 => ta σ H1 fun x H2 => FldS K f y x H2 fun H3 => D.nx σ H3) : sFld K ta tv f D σ H := h
theorem x_gName {i : Nat} {v : V} {R : L2.St → Hp → Prop} (h : R (σ.set i (some v)) H) : gName i v σ H R := h
theorem x_par {i j : Nat} {ta tb : TE} (h : ta σ H fun x H1 => tb σ H1 fun y H2 => D.nx ((σ.set i (some x)).set j (some y)) H2) : tPar i j (tCons ta (tCons tb tNil)) D σ H :=
  (congrArg (fun (f : (V → Hp → Prop)) => ta σ H f) (funext fun x => funext fun H1 => congrArg (fun (f : (V → Hp → Prop)) => tb σ H1 f) (funext fun y => funext fun H2 => propext
    ⟨fun h => ⟨x, y, rfl, h⟩, fun ⟨v, w, e, h⟩ => by cases e; exact h⟩))).mp h
theorem x_ret {te : TE} (h : te σ H D.rt) : tRet te D σ H := h
theorem x_retN (h : D.rt .non H) : tRetN D σ H := h
theorem x_drop {te : TE} (h : te σ H fun _ H1 => D.nx σ H1) : tDrop te D σ H := h
theorem x_if {c : TT} {t u : TS} (h : c σ H fun b H1 => if b = true then t D σ H1 else u D σ H1) : tIfS c t u D σ H := h
theorem x_brk (h : D.bk σ H) : tBreak D σ H := h
theorem x_cont (h : D.ct σ H) : tCont D σ H := h
theorem x_var {i : Nat} {v : V} (h : σ[i]? = some (some v)) (q : Q v H) : tVar i σ H Q := ⟨v, h, q⟩
theorem x_c {v : V} (q : Q v H) : tC v σ H Q := q
theorem x_op {r : R2} {ta tb : TE} (h : ta σ H fun x H1 => tb σ H1 fun y H2 => r x y H2 Q) : tOp r ta tb σ H Q := h
theorem x_un {r : V → Hp → VK → Prop} {ta : TE} (h : ta σ H fun x H1 => r x H1 Q) : tUn r ta σ H Q := h
theorem x_I0 {g : Int → Int → V} {i j : Int} (q : Q (g i j) H) : rI0 g (.int i) (.int j) H Q := ⟨i, j, rfl, rfl, q⟩
theorem x_I {C : Int → Int → Prop} {g : Int → Int → V} {i j : Int} (c : C i j) (q : Q (g i j) H) : rI C g (.int i) (.int j) H Q := ⟨i, j, rfl, rfl, c, q⟩
theorem x_U {g : Int → V} {i : Int} (q : Q (g i) H) : rU g (.int i) H Q := ⟨i, rfl, q⟩
theorem v_int {i j : Int} : decide (V.int i = V.int j) = decide (i = j) := decide_eq_decide.mpr ⟨fun h => V.int.inj h, fun h => h ▸ rfl⟩
theorem x_EqI {i j : Int} (q : Q (.bl (decide (i = j))) H) : rEq (.int i) (.int j) H Q := ⟨rfl, v_int ▸ q⟩
theorem x_NeI {i j : Int} (q : Q (.bl (!decide (i = j))) H) : rNe (.int i) (.int j) H Q := ⟨rfl, by rw [v_int]; exact q⟩
theorem x_EqB {i j : Bool} (q : Q (.bl (decide (i = j))) H) : rEq (.bl i) (.bl j) H Q := ⟨rfl, by
  have e : decide (V.bl i = V.bl j) = decide (i = j) := decide_eq_decide.mpr ⟨fun h => V.bl.inj h, fun h => h ▸ rfl⟩
  rw [e]; exact q⟩
theorem x_Eq {x y : V} (s : scal x y = true) (q : Q (.bl (decide (x = y))) H) : rEq x y H Q := ⟨s, q⟩
theorem x_Ne {x y : V} (s : scal x y = true) (q : Q (.bl (!decide (x = y))) H) : rNe x y H Q := ⟨s, q⟩
theorem x_isN {x : V} (q : Q (.bl (decide (x = .non))) H) : (fun (x y : V) (H : Hp) (Q : VK) => y = V.non ∧ Q (.bl (decide (x = .non))) H) x .non H Q := ⟨rfl, q⟩
theorem x_ifE {t : TT} {ta tb : TE} (h : t σ H fun c H1 => if c = true then ta σ H1 Q else tb σ H1 Q) : tIf t ta tb σ H Q := h
theorem x_test {te : TE} {b : Unit} (h : te σ H fun x H1 => ∃ k, x = .bl k ∧ QT k H1) : tTest te σ H QT := h
theorem x_tB {te : TE} (h : te σ H fun x H1 => ∃ k, x = .bl k ∧ QT k H1) : tB te σ H QT := h
theorem x_bl {k : Bool} (q : QT k H) : ∃ k', V.bl k = .bl k' ∧ QT k' H := ⟨k, rfl, q⟩
theorem x_and {t u : TT} (h : t σ H fun c H1 => if c = true then u σ H1 QT else QT false H1) : tAnd t u σ H QT := h
theorem x_or {t u : TT} (h : t σ H fun c H1 => if c = true then QT true H1 else u σ H1 QT) : tOr t u σ H QT := h
theorem x_not {t : TT} (h : t σ H fun c H1 => QT (!c) H1) : tNot t σ H QT := h
theorem x_andV {ta tb : TE} (h : ta σ H fun x H1 => ∃ c, x = .bl c ∧ if c = true then tb σ H1 Q else Q (.bl false) H1) : tAndV ta tb σ H Q := h
theorem x_orV {ta tb : TE} (h : ta σ H fun x H1 => ∃ c, x = .bl c ∧ if c = true then Q (.bl true) H1 else tb σ H1 Q) : tOrV ta tb σ H Q := h
theorem x_notV {ta : TE} (h : ta σ H fun x H1 => ∃ c, x = .bl c ∧ Q (.bl (!c)) H1) : tNotV ta σ H Q := h
theorem x_blP {k : Bool} {P : Bool → Prop} (q : P k) : ∃ k', V.bl k = .bl k' ∧ P k' := ⟨k, rfl, q⟩
theorem x_nil (q : QA [] H) : tNil σ H QA := q
theorem x_cons {ta : TE} {tr : TA} (h : ta σ H fun x H1 => tr σ H1 fun xs H2 => QA (x :: xs) H2) : tCons ta tr σ H QA := h
theorem x_call {sp : Sp} {dvs : List V} {E : XK} {t : TA} (h : t σ H fun vs H1 => sp (vs ++ dvs) H1 Q E) : tCall sp dvs E t σ H Q := h
theorem x_CB {r : List V → Hp → VK → Prop} {t : TA} (h : t σ H fun vs H1 => r vs H1 Q) : tCB r t σ H Q := h
theorem x_BM {T : String} {r : V → List V → Hp → VK → Prop} {to : TE} {t : TA} (h : to σ H fun x H1 => tyV K T x H1 ∧ t σ H1 fun xs H2 => r x xs H2 Q) : tBM K T r to t σ H Q := h
theorem x_tup {t : TA} (h : t σ H fun xs H1 => xs.length ≤ sizeLine ∧ ∀ p, H1 p = none → Q (.ref p) (upd H1 p (.tup xs))) : tTup t σ H Q := h
theorem x_lst {t : TA} (h : t σ H fun xs H1 => xs.length ≤ sizeLine ∧ ∀ p, H1 p = none → Q (.ref p) (upd H1 p (.lst xs))) : tLst t σ H Q := h
theorem x_chain {r r' : R2} {ta tb tc : TE} (h : ta σ H fun x H1 => tb σ H1 fun y H2 => r x y H2 fun z H3 => ∃ k, z = .bl k ∧
  (if k = true then tc σ H3 fun w' H4 => r' y w' H4 Q else Q (.bl false) H3)) : tChain r r' ta tb tc σ H Q := h
theorem x_isi {x : V} {T S : String} {b : Bool} (ty : TyX K H x (.type S)) (h : kitB S T = some b) (q : Q (.bl b) H) : rIsi K [x, .ty T] H Q := ⟨x, .ty T, .type S, .type T, b, rfl, .ty T, ty, kit_ty h, q⟩
theorem x_iN {x : V} (q : Q (.bl (decide (x = .non))) H) : rIsN x .non H Q := ⟨rfl, q⟩
theorem x_nN {x : V} (q : Q (.bl (!decide (x = .non))) H) : rNotN x .non H Q := ⟨rfl, q⟩
theorem x_int1 {i : Int} (q : Q (.int i) H) : rInt1 [.int i] H Q := .inl ⟨i, rfl, q⟩
theorem x_min2 {i j : Int} (q : Q (.int (if j < i then j else i)) H) : rMin2 [.int i, .int j] H Q := ⟨i, j, rfl, q⟩
theorem x_max2 {i j : Int} (q : Q (.int (if j > i then j else i)) H) : rMax2 [.int i, .int j] H Q := ⟨i, j, rfl, q⟩
theorem x_listL {p : Addr} {xs : List V} (hp : SqL K H p xs) (q : ∀ l, H l = none → Q (.ref l) (upd H l (.lst xs))) : rListOf K [.ref p] H Q := ⟨p, xs, rfl, .inl hp, q⟩
theorem x_tupL {p : Addr} {xs : List V} (hp : SqL K H p xs) (q : ∀ l, H l = none → Q (.ref l) (upd H l (.tup xs))) : rTupOf K [.ref p] H Q := ⟨p, xs, rfl, .inl ⟨hp, q⟩⟩
theorem x_ite {p : Prop} [Decidable p] {A B : Prop} (h1 : p → A) (h2 : ¬ p → B) : if decide p = true then A else B := by
  by_cases h : p
  · rw [if_pos (decide_eq_true h)]; exact h1 h
  · rw [if_neg (by rw [decide_eq_false h]; exact Bool.false_ne_true)]; exact h2 h
theorem x_iteN {p : Prop} [Decidable p] {A B : Prop} (h1 : ¬ p → A) (h2 : p → B) : if (!decide p) = true then A else B := by
  by_cases h : p
  · rw [if_neg (by rw [decide_eq_true h]; decide)]; exact h2 h
  · rw [if_pos (by rw [decide_eq_false h]; rfl)]; exact h1 h
theorem x_iteB {b : Bool} {A B : Prop} (h1 : b = true → A) (h2 : b = false → B) : if b = true then A else B := by
  cases b with
  | true => rw [if_pos rfl]; exact h1 rfl
  | false => rw [if_neg Bool.false_ne_true]; exact h2 rfl
theorem x_iteBN {b : Bool} {A B : Prop} (h1 : b = false → A) (h2 : b = true → B) : if (!b) = true then A else B := by
  cases b with
  | true => rw [if_neg (by decide)]; exact h2 rfl
  | false => rw [if_pos (by decide)]; exact h1 rfl
theorem x_subL {i : Int} {x : V} {xs : List V} {p : Addr} {k : Nat} {q : Hp → Prop} (hp : H p = some (.lst xs)) (hk : ixN xs.length i = some k) (h : q (upd H p (.lst (xs.set k x)))) : rSetL (.ref p) (.int i) x H q :=
  ⟨p, xs, i, k, rfl, rfl, hp, hk, h⟩
theorem x_gSub {to ti : TE} {t : TSet} {v : V} {q : L2.St → Hp → Prop} (h : to σ H fun o H1 => ti σ H1 fun i H2 => t o i v H2 fun H3 => q σ H3) : gSub to ti t v σ H q := h
theorem x_for {wi : TI} {g : TG} {tb : TS} (h : wi σ H fun J H1 => ∃ W : Nat → Nat → L2.St → Hp → Prop, (∃ m, W 0 m σ H1) ∧ ∀ i m σ H, W i m σ H →
  (J.stop i H ∧ D.nx σ H) ∨ (J.go i H ∧ ∃ N : L2.St → Hp → Prop, (∀ σ' H', N σ' H' → ∃ m', m' < m ∧ W (i + 1) m' σ' H') ∧ ∀ x H', J.yld i H x H' → g x σ H' fun σ2 H2 => tb { D with nx := N, ct := N, bk := D.nx } σ2 H2)) : tFor wi g tb D σ H := h
theorem x_ixL {xs : List V} {i : Int} {v : V} {p : Addr} (hp : SqL K H p xs) (hi : atI xs i = some v) (q : Q v H) : rIxL K (.ref p) (.int i) H Q := ⟨p, xs, i, v, rfl, rfl, hp, hi, q⟩
theorem x_ixT {xs : List V} {i : Int} {v : V} {p : Addr} (hp : SqT K H p xs) (hi : atI xs i = some v) (q : Q v H) : rIxT K (.ref p) (.int i) H Q := ⟨p, xs, i, v, rfl, rfl, hp, hi, q⟩
/-- over a range from nought, of at most so many turns; the target a name -/
theorem x_forR1 {ta : TE} {j : Nat} {tb : TS} (n : Int) (P : Nat → L2.St → Hp → Prop) (hn : ∀ R : V → Hp → Prop, R (.int n) H → ta σ H R) (h1 : -(2 ^ 62) ≤ n) (h2 : n < 2 ^ 62) (h0 : P 0 σ H)
    (hs : ∀ (i : Nat) σ' H', (i : Int) < n → P i σ' H' → tb ⟨P (i + 1), D.rt, D.nx, P (i + 1)⟩ (σ'.set j (some (.int (i : Int)))) H') (hd : ∀ σ' H', P n.toNat σ' H' → D.nx σ' H') : tFor (iRng1 (tCons ta tNil)) (gName j) tb D σ H := by
  refine hn _ ⟨n, rfl, h1, h2, ?_⟩
  refine for_range (lo := 0) P h0 (fun i σ' H' hi p => ?_) hd
  have e : (0 : Int) + (i : Int) = (i : Int) := Int.zero_add _
  rw [e]
  exact hs i σ' H' (by omega) p
theorem x_forR2 {ta tc : TE} {j : Nat} {tb : TS} (lo n : Int) (P : Nat → L2.St → Hp → Prop) (hn : ∀ R : V → Hp → Prop, R (.int lo) H → ta σ H R) (hn2 : ∀ R : V → Hp → Prop, R (.int n) H → tc σ H R) (h1 : -(2 ^ 62) ≤ lo) (h2 : lo < 2 ^ 62) (h3 : -(2 ^ 62) ≤ n) (h4 : n < 2 ^ 62) (h0 : P 0 σ H)
    (hs : ∀ (i : Nat) σ' H', lo + (i : Int) < n → P i σ' H' → tb ⟨P (i + 1), D.rt, D.nx, P (i + 1)⟩ (σ'.set j (some (.int (lo + (i : Int))))) H') (hd : ∀ σ' H', P (n - lo).toNat σ' H' → D.nx σ' H') : tFor (iRng2 (tCons ta (tCons tc tNil))) (gName j) tb D σ H := by
  refine hn _ (hn2 _ ⟨lo, n, rfl, ⟨h1, h2, h3, h4⟩, ?_⟩)
  refine for_range (lo := lo) P h0 (fun i σ' H' hi p => ?_) hd
  exact hs i σ' H' (by omega) p
theorem rgC_up {i j c : Int} (hc : 0 < c) (hc2 : c < 1000000) (ha : 0 ≤ i) (ha' : i < 2 ^ 60) (hb : 0 ≤ j) (hb' : j < 2 ^ 60) : RgC i j c ((if i < j then (j - i - 1) / c + 1 else 0 : Int)).toNat := by
  have hd : 0 ≤ (j - i - 1) / c ∨ ¬ i < j := by
    by_cases h : i < j
    · exact .inl (Int.ediv_nonneg (by omega) (by omega))
    · exact .inr h
  have hd2 : i < j → (j - i - 1) / c * c ≤ j - i - 1 := fun _ => Int.ediv_mul_le _ (by omega)
  have hd3 : i < j → (j - i - 1) / c ≤ j - i - 1 := fun h => by
    have h0 : 0 ≤ (j - i - 1) / c := Int.ediv_nonneg (by omega) (by omega)
    have := hd2 h
    have h1 : (j - i - 1) / c * 1 ≤ (j - i - 1) / c * c := Int.mul_le_mul_of_nonneg_left (by omega) h0
    omega
  refine ⟨by omega, by omega, ?_, ?_⟩
  · unfold Builtin.Range.small Builtin.Range.rangeSize
    simp only [Builtin.Range.rangeFitsLong, Bool.and_eq_true, Bool.or_eq_true, decide_eq_true_eq, beq_iff_eq, show (c > 0) from hc, if_true]
    split
    · rename_i h
      have := hd3 h
      have h0 : 0 ≤ (j - i - 1) / c := Int.ediv_nonneg (by omega) (by omega)
      have := hd2 h
      generalize (j - i - 1) / c = q at *
      have e : (q + 1) * c = q * c + c := by rw [Int.add_mul, Int.one_mul]
      have e2 : (q + 1 - 1) * c = q * c := by rw [Int.add_sub_cancel]
      refine ⟨?_, ?_⟩ <;> (try rw [e]) <;> (try rw [e2]) <;> omega
    · omega
  · unfold Builtin.Range.rangeSize
    rw [if_pos hc]
    split
    · rcases hd with h | h
      · omega
      · omega
    · rfl
theorem x_forR3 {ta tc te : TE} {j : Nat} {tb : TS} (lo n c : Int) (P : Nat → L2.St → Hp → Prop) (hn : ∀ R : V → Hp → Prop, R (.int lo) H → ta σ H R) (hn2 : ∀ R : V → Hp → Prop, R (.int n) H → tc σ H R) (hn3 : ∀ R : V → Hp → Prop, R (.int c) H → te σ H R) (hc : 0 < c) (hc2 : c < 1000000) (h1 : 0 ≤ lo) (h2 : lo < 2 ^ 60) (h3 : 0 ≤ n) (h4 : n < 2 ^ 60) (h0 : P 0 σ H)
    (hs : ∀ (i : Nat) σ' H', lo + (i : Int) * c < n → P i σ' H' → tb ⟨P (i + 1), D.rt, D.nx, P (i + 1)⟩ (σ'.set j (some (.int (lo + (i : Int) * c)))) H') (hd : ∀ (i : Nat) σ' H', n ≤ lo + (i : Int) * c → P i σ' H' → D.nx σ' H') : tFor (iRng3 (tCons ta (tCons tc (tCons te tNil)))) (gName j) tb D σ H := by
  refine hn _ (hn2 _ (hn3 _ ⟨lo, n, c, _, rfl, rgC_up hc hc2 h1 h2 h3 h4, ?_⟩))
  refine for_rangeC (lo := lo) P h0 (fun i σ' H' hi p => hs i σ' H' ?_ p) (fun σ' H' p => hd _ σ' H' ?_ p)
  · split at hi
    · have hq : (i : Int) ≤ (n - lo - 1) / c := by omega
      have h5 : (n - lo - 1) / c * c ≤ n - lo - 1 := Int.ediv_mul_le _ (by omega)
      have h6 : (i : Int) * c ≤ (n - lo - 1) / c * c := Int.mul_le_mul_of_nonneg_right hq (by omega)
      omega
    · omega
  · split
    · have h5 : n - lo - 1 < ((n - lo - 1) / c + 1) * c := Int.lt_ediv_add_one_mul_self _ hc
      have h0 : 0 ≤ (n - lo - 1) / c := Int.ediv_nonneg (by omega) (by omega)
      rw [show ((((n - lo - 1) / c + 1).toNat : Nat) : Int) = (n - lo - 1) / c + 1 by omega]
      omega
    · have : (((0 : Int).toNat : Nat) : Int) * c = 0 := by simp
      omega
theorem isq_spec {i : Int} (h0 : 0 ≤ i) : ∃ r : Int, ((Float64.isqrt i.toNat : Nat) : Int) = r ∧ 0 ≤ r ∧ r * r ≤ i ∧ i < (r + 1) * (r + 1) := by
  refine ⟨_, rfl, Int.natCast_nonneg _, ?_, ?_⟩
  · have := (PySem.Float64.isqrt_spec i.toNat).1
    have e : ((Float64.isqrt i.toNat * Float64.isqrt i.toNat : Nat) : Int) ≤ (i.toNat : Int) := Int.ofNat_le.mpr this
    rw [Int.natCast_mul] at e
    omega
  · have := (PySem.Float64.isqrt_spec i.toNat).2
    have e : (i.toNat : Int) < (((Float64.isqrt i.toNat + 1) * (Float64.isqrt i.toNat + 1) : Nat) : Int) := Int.ofNat_lt.mpr this
    rw [Int.natCast_mul, Int.natCast_add] at e
    have e2 : ((1 : Nat) : Int) = 1 := rfl
    rw [e2] at e
    omega
theorem x_isqrt0 {i r : Int} (h0 : 0 ≤ i) (h1 : i < 2 ^ 64) (e : ((Float64.isqrt i.toNat : Nat) : Int) = r) (q : Q (.int r) H) : cr_isqrt_r [.int i] H Q := ⟨i, rfl, h0, h1, by rw [e]; exact q⟩
theorem x_forL {ta : TE} {g : TG} {tb : TS} {p : Addr} (xs : List V) (P : Nat → L2.St → Hp → Prop) (hn : ∀ R : V → Hp → Prop, R (.ref p) H → ta σ H R) (hp : SqL K H p xs) (h0 : P 0 σ H) (hl : ∀ i σ' H', i ≤ xs.length → P i σ' H' → SqL K H' p xs)
    (hs : ∀ i x σ' H', xs[i]? = some x → P i σ' H' → g x σ' H' fun σ2 H2 => tb ⟨P (i + 1), D.rt, D.nx, P (i + 1)⟩ σ2 H2) (hd : ∀ σ' H', P xs.length σ' H' → D.nx σ' H') : tFor (iList K ta) g tb D σ H :=
  hn _ ⟨p, rfl, ⟨xs, hp⟩, for_list (xs := xs) P h0 hl hs hd⟩
theorem x_app {p : Addr} {xs : List V} {y : V} (hp : H p = some (.lst xs)) (hl : xs.length < 1000000) (q : Q .non (upd H p (.lst (xs ++ [y])))) : rAppend (.ref p) [y] H Q :=
  ⟨p, xs, y, rfl, rfl, hp, Nat.lt_of_lt_of_le hl (by decide), q⟩
theorem x_tyL {p : Addr} {xs : List V} {R : Prop} (hp : H p = some (.lst xs)) (h : R) : tyV K "list" (.ref p) H ∧ R := ⟨.inl ⟨rfl, _, .inl (.inl hp)⟩, h⟩
theorem x_len {p : Addr} {xs : List V} (hp : SqL K H p xs) (q : Q (.int (xs.length : Int)) H) : rLen K [.ref p] H Q := ⟨p, xs, rfl, .inl hp, q⟩
theorem x_lenT {p : Addr} {xs : List V} (hp : SqT K H p xs) (q : Q (.int (xs.length : Int)) H) : rLen K [.ref p] H Q := ⟨p, xs, rfl, .inr hp, q⟩
theorem x_cat {p q : Addr} {xs ys : List V} (hp : H p = some (.lst xs)) (hq : H q = some (.lst ys)) (hl : xs.length + ys.length ≤ 1000000) (k : ∀ r, H r = none → Q (.ref r) (upd H r (.lst (xs ++ ys)))) : rCat (.ref p) (.ref q) H Q :=
  ⟨p, q, xs, ys, rfl, rfl, hp, hq, Nat.le_trans hl (by decide), k⟩
/-- while: a word by a measure -/
theorem x_while {c : TT} {tb : TS} (W : Nat → L2.St → Hp → Prop) (m0 : Nat) (h0 : W m0 σ H)
    (hs : ∀ m σ' H', W m σ' H' → ∃ b : Bool, (∀ R : Bool → Hp → Prop, R b H' → c σ' H' R) ∧ (b = true → tb ⟨fun σ2 H2 => ∃ m', m' < m ∧ W m' σ2 H2, D.rt, D.nx, fun σ2 H2 => ∃ m', m' < m ∧ W m' σ2 H2⟩ σ' H') ∧ (b = false → D.nx σ' H')) : tWhile c tb D σ H :=
  ⟨W, ⟨m0, h0⟩, fun m σ' H' w => by
    obtain ⟨b, h, h1, h2⟩ := hs m σ' H' w
    refine h _ ?_
    cases b with
    | true => exact iteT ⟨_, fun _ _ z => z, h1 rfl⟩
    | false => exact iteF (h2 rfl)⟩
theorem x_lcR1 {ta : TE} {j : Nat} {te : TE} {vs : List Nat} (n : Int) (P : Addr → Nat → Hp → Prop) (hn : ∀ R : V → Hp → Prop, R (.int n) H → ta σ H R) (h1 : -(2 ^ 62) ≤ n) (h2 : n < 2 ^ 62) (h0 : ∀ p, H p = none → P p 0 (upd H p (.lst [])))
    (hw : ∀ x, wipe ((wipe σ vs).set j (some x)) vs = wipe σ vs)
    (hs : ∀ p (i : Nat) H', H p = none → (i : Int) < n → P p i H' → te ((wipe σ vs).set j (some (.int (i : Int)))) H' fun y H4 => ∃ acc, H4 p = some (.lst acc) ∧ acc.length < sizeLine ∧ P p (i + 1) (upd H4 p (.lst (acc ++ [y]))))
    (hd : ∀ p H', H p = none → P p n.toNat H' → Q (.ref p) H') : tLc (iRng1 (tCons ta tNil)) (gName j) tYes te vs σ H Q := by
  refine hn _ ⟨n, rfl, h1, h2, fun p hp => ?_⟩
  refine lc_range (lo := 0) (Qd := fun H' => Q (.ref p) H') (P p) (h0 p hp) (fun i H' hi q => ?_) fun H' q => hd p H' hp q
  have e : (0 : Int) + (i : Int) = (i : Int) := Int.zero_add _
  rw [e]
  refine ⟨hw _, ?_⟩
  unfold tYes
  exact iteT (hs p i H' hp (by omega) q)
theorem x_lcL {ta : TE} {j : Nat} {te : TE} {vs : List Nat} {a : Addr} (xs : List V) (P : Addr → Nat → Hp → Prop) (hn : ∀ R : V → Hp → Prop, R (.ref a) H → ta σ H R) (ha : SqL K H a xs) (h0 : ∀ p, H p = none → P p 0 (upd H p (.lst [])))
    (hl : ∀ p i H', H p = none → i ≤ xs.length → P p i H' → SqL K H' a xs) (hw : ∀ x, wipe ((wipe σ vs).set j (some x)) vs = wipe σ vs)
    (hs : ∀ p (i : Nat) x H', H p = none → xs[i]? = some x → P p i H' → te ((wipe σ vs).set j (some x)) H' fun y H4 => ∃ acc, H4 p = some (.lst acc) ∧ acc.length < sizeLine ∧ P p (i + 1) (upd H4 p (.lst (acc ++ [y]))))
    (hd : ∀ p H', H p = none → P p xs.length H' → Q (.ref p) H') : tLc (iList K ta) (gName j) tYes te vs σ H Q := by
  refine hn _ ⟨a, rfl, ⟨xs, ha⟩, fun p hp => ?_⟩
  refine lc_list (xs := xs) (Qd := fun H' => Q (.ref p) H') (P p) (h0 p hp) (fun i H' hi q => hl p i H' hp hi q) (fun i x H' hi q => ?_) fun H' q => hd p H' hp q
  refine ⟨hw _, ?_⟩
  unfold tYes
  exact iteT (hs p i x H' hp hi q)
end
theorem x_gTup2 {K : PySem.W.Frag} {σ : L2.St} {H : Hp} {p : Addr} {x y : V} {i j : Nat} {R : L2.St → Hp → Prop} (hp : SqT K H p [x, y]) (h : R ((σ.set i (some x)).set j (some y)) H) : gTup K 2 (gCons (gName i) (gCons (gName j) gNil)) (.ref p) σ H R :=
  ⟨p, [x, y], rfl, hp, rfl, x, [y], rfl, y, [], rfl, rfl, h⟩
theorem sq_of {K : PySem.W.Frag} {H : Hp} {a : Addr} {xs : List V} (h : H a = some (.lst xs)) : SqL K H a xs := .inl (.inl h)
theorem st_of {K : PySem.W.Frag} {H : Hp} {a : Addr} {xs : List V} (h : H a = some (.tup xs)) : SqT K H a xs := .inl (.inl h)
theorem mul_r {i j : Int} (h1 : -(2 ^ 64) < j) (h2 : j < 2 ^ 64) : CMul i j := .inr ⟨h1, h2⟩
theorem mul_l {i j : Int} (h1 : -(2 ^ 64) < i) (h2 : i < 2 ^ 64) : CMul i j := .inl ⟨h1, h2⟩
theorem cr_isqrt {X : Cx} : CallR X (.builtin "math.isqrt") cr_isqrt_r := by
  intro pins s σ H vs us Q I r h
  obtain ⟨i, rfl, h0, h1, q⟩ := h
  cases r with
  | cons r1 rr =>
    cases rr
    obtain ⟨t, rfl⟩ := r1
    exact PySem.W.mg_isqrt h0 h1 ⟨.int _, H, I.tok _, ⟨_, rfl⟩, q⟩
/-- all but what stands at d is as it was -/
def Keep (d : Addr) (H H' : Hp) : Prop := ∀ b o, H b = some o → b ≠ d → H' b = some o
theorem Keep.refl (d : Addr) (H : Hp) : Keep d H H := fun _ _ h _ => h
theorem Keep.trans {d : Addr} {H H1 H2 : Hp} (a : Keep d H H1) (b : Keep d H1 H2) : Keep d H H2 := fun c o h n => b c o (a c o h n) n
theorem seqT {K : PySem.W.Frag} {H H' : Hp} {a : Addr} {xs : List V} (e : Same H H') (h : SqT K H a xs) : SqT K H' a xs := by
  rcases h with (h | ⟨o, h⟩) | h
  · exact .inl (.inl (e _ _ h))
  · exact .inl (.inr ⟨o, e _ _ h⟩)
  · exact .inr h
theorem sfree {H H' : Hp} (e : Same H H') {p : Addr} (h : H' p = none) : H p = none := e.free h
theorem sput {H H' : Hp} {p : Addr} {o : HO} (s : Same H H') (h : H p = none) : Same H (upd H' p o) := fun b x e => by
  rw [upd_ne (ne_of_none e h)]
  exact s b x e
theorem Same.tr {H H1 H2 : Hp} (a : Same H H1) (b : Same H1 H2) : Same H H2 := fun c o h => b c o (a c o h)
theorem Same.keep {d : Addr} {H H' : Hp} (a : Same H H') : Keep d H H' := fun c o h _ => a c o h
theorem same_upd {H : Hp} {p : Addr} {o : HO} (h : H p = none) : Same H (upd H p o) := fun b x e => by
  rw [upd_ne (ne_of_none e h)]
  exact e
theorem keep_upd {H : Hp} {p : Addr} {o : HO} : Keep p H (upd H p o) := fun b x e n => by
  rw [upd_ne n]
  exact e
/-- what is new may change -/
theorem Same.put {H H' : Hp} {p : Addr} {o : HO} (s : Same H H') (h : H p = none) : Same H (upd H' p o) := fun b x e => by
  rw [upd_ne (ne_of_none e h)]
  exact s b x e
theorem Keep.put {d : Addr} {H H' : Hp} {p : Addr} {o : HO} (s : Keep d H H') (h : H p = none) : Keep d H (upd H' p o) := fun b x e n => by
  rw [upd_ne (ne_of_none e h)]
  exact s b x e n
theorem Keep.seq {K : PySem.W.Frag} {d : Addr} {H H' : Hp} {a : Addr} {xs : List V} (e : Keep d H H') (n : a ≠ d) (h : SqL K H a xs) : SqL K H' a xs := by
  rcases h with (h | ⟨o, h⟩) | h
  · exact .inl (.inl (e _ _ h n))
  · exact .inl (.inr ⟨o, e _ _ h n⟩)
  · exact .inr h
/-- ints within bounds -/
def Rg (lo hi : Int) (ns : List Int) : Prop := ∀ z, z ∈ ns → lo ≤ z ∧ z < hi
theorem Rg.nil {lo hi : Int} : Rg lo hi [] := fun _ h => absurd h (by simp)
theorem Rg.app {lo hi : Int} {xs ys : List Int} (a : Rg lo hi xs) (b : Rg lo hi ys) : Rg lo hi (xs ++ ys) := fun z h => (List.mem_append.mp h).elim (a z) (b z)
theorem Rg.one {lo hi x : Int} (h1 : lo ≤ x) (h2 : x < hi) : Rg lo hi [x] := fun z h => by
  have e : z = x := by simpa using h
  subst e
  exact ⟨h1, h2⟩
theorem Rg.snoc {lo hi x : Int} {xs : List Int} (a : Rg lo hi xs) (h1 : lo ≤ x) (h2 : x < hi) : Rg lo hi (xs ++ [x]) := a.app (.one h1 h2)
theorem Rg.get {lo hi x : Int} {xs : List Int} {i : Nat} (a : Rg lo hi xs) (h : xs[i]? = some x) : lo ≤ x ∧ x < hi := a x (List.mem_of_getElem? h)
theorem map_get {ns : List Int} {i : Nat} {y : V} (h : (ns.map V.int)[i]? = some y) : ∃ z, ns[i]? = some z ∧ y = .int z := by
  rw [List.getElem?_map] at h
  cases e : ns[i]? with
  | none => rw [e] at h; cases h
  | some z => rw [e] at h; exact ⟨z, rfl, (Option.some.inj h).symm⟩
theorem gcd_step {a b : Int} : Int.gcd b (a % b) = Int.gcd a b := by
  rw [Int.emod_def, Int.gcd_sub_mul_left_right, Int.gcd_comm]
theorem half_step {a b : Int} (hb : 0 < b) (h : b < a) : b * (a % b) * 2 ≤ a * b := by
  have h1 := Int.emod_lt_of_pos a hb
  have h0 := Int.emod_nonneg a (show b ≠ 0 by omega)
  have h2 : b * (a / b) + a % b = a := Int.mul_ediv_add_emod a b
  have h3 : 1 ≤ a / b := (Int.le_ediv_iff_mul_le hb).mpr (by omega)
  have h4 : b * 1 ≤ b * (a / b) := Int.mul_le_mul_of_nonneg_left h3 (by omega)
  have h5 : a % b * 2 ≤ a := by omega
  have h6 : a % b * 2 * b ≤ a * b := Int.mul_le_mul_of_nonneg_right h5 (by omega)
  have e : b * (a % b) * 2 = a % b * 2 * b := by
    rw [Int.mul_comm b, Int.mul_assoc, Int.mul_assoc, Int.mul_comm b 2]
  omega
/-- an item of a written list -/
theorem at_lt {xs : List V} {i : Int} (h0 : 0 ≤ i) (h1 : i < (xs.length : Int)) : ∃ v, atI xs i = some v ∧ v ∈ xs := by
  obtain ⟨j, rfl⟩ : ∃ j : Nat, i = (j : Int) := ⟨i.toNat, by omega⟩
  have hj : j < xs.length := by omega
  exact ⟨xs[j], atI_nat (List.getElem?_eq_getElem hj), List.getElem_mem hj⟩
theorem map_getR {as : List Addr} {i : Nat} {v : V} (h : (as.map V.ref)[i]? = some v) : ∃ b, as[i]? = some b ∧ v = .ref b := by
  rw [List.getElem?_map] at h
  cases e : as[i]? with
  | none => rw [e] at h; cases h
  | some b => rw [e] at h; exact ⟨b, rfl, (Option.some.inj h).symm⟩
theorem kput {d : Addr} {H H' : Hp} {p : Addr} {o : HO} (s : Keep d H H') (h : H p = none) : Keep d H (upd H' p o) := s.put h
theorem snoc_at {α : Type} {xs : List α} {y z : α} {i j : Nat} (hl : xs.length = i) (h : (xs ++ [y])[j]? = some z) : (j < i ∧ xs[j]? = some z) ∨ (j = i ∧ z = y) := by
  by_cases hj : j < xs.length
  · rw [List.getElem?_append_left hj] at h
    exact .inl ⟨by omega, h⟩
  · have hlt := (List.getElem?_eq_some_iff.mp h).1
    rw [List.length_append] at hlt
    have e : j = xs.length := by simp at hlt; omega
    subst e
    rw [List.getElem?_append_right (Nat.le_refl _), Nat.sub_self] at h
    exact .inr ⟨hl, (Option.some.inj h).symm⟩
theorem lt_line {n : Nat} (h : n < 1000000) : n < sizeLine := Nat.lt_of_lt_of_le h (by decide)
/-- what is fresh may change -/
theorem same_keep {H H1 H2 : Hp} {l : Addr} (hl : H l = none) (s : Same H H1) (k : Keep l H1 H2) : Same H H2 := fun b o e => k b o (s b o e) (ne_of_none e hl)
theorem ixN_nat {n i : Nat} (h : i < n) : ixN n (i : Int) = some i := by
  unfold ixN
  grind
theorem cast_lt {x : Int} {c : Nat} (h0 : 0 ≤ x) (h1 : x < c) : ∃ t : Nat, x = (t : Int) ∧ t < c := ⟨x.toNat, by omega, by omega⟩
section
variable {σ : L2.St} {H : Hp} {Q : VK} {R : Option Int → Hp → Prop}
theorem x_sl2 {r : V → Option Int → Option Int → Hp → VK → Prop} {te : TE} {tl th : TO} (h : te σ H fun x H1 => tl σ H1 fun l H2 => th σ H2 fun u H3 => r x l u H3 Q) : tSl r te tl th σ H Q := h
theorem x_part0 (h : R none H) : tNoPart σ H R := h
theorem x_part1 {te : TE} (h : te σ H fun x H1 => ∃ i, x = .int i ∧ R (some i) H1) : tPart te σ H R := h
theorem x_cutL {K : PySem.W.Frag} {p : Addr} {xs : List V} {lo hi : Option Int} (hp : SqL K H p xs) (q : ∀ r, H r = none → Q (.ref r) (upd H r (.lst (cutV xs lo hi)))) : rSlL K (.ref p) lo hi H Q := ⟨p, xs, rfl, hp, q⟩
end
end Br

/-! ### Fermat's little theorem, by the products of the rests -/
namespace Br.F
def noDiv (p : Nat) (n : Nat) : Bool := Nat.rec true (fun k ih => (p % (k + 2) != 0) && ih) n
theorem noDiv_at {p : Nat} : ∀ {n : Nat}, noDiv p n = true → ∀ d, 2 ≤ d → d < n + 2 → ¬ d ∣ p
  | 0, _, d, h1, h2, _ => by omega
  | n + 1, h, d, h1, h2, hd => by
    have h' : ((p % (n + 2) != 0) && noDiv p n) = true := h
    rw [Bool.and_eq_true] at h'
    by_cases e : d < n + 2
    · exact noDiv_at h'.2 d h1 e hd
    · have e2 : d = n + 2 := by omega
      subst e2
      have := Nat.mod_eq_zero_of_dvd hd
      simp [this] at h'
def IsPrime (p : Nat) : Prop := 2 ≤ p ∧ ∀ d, d ∣ p → d = 1 ∨ d = p
theorem prime_of {p k : Nat} (h2 : 2 ≤ p) (hk : p < (k + 2) * (k + 2)) (h : noDiv p k = true) : IsPrime p := by
  refine ⟨h2, fun d hd => ?_⟩
  by_cases h1 : d = 1
  · exact .inl h1
  by_cases hp : d = p
  · exact .inr hp
  exfalso
  obtain ⟨e, he⟩ := hd
  have d0 : d ≠ 0 := fun z => by subst z; simp at he; omega
  have e0 : e ≠ 0 := fun z => by subst z; simp at he; omega
  have e1 : e ≠ 1 := fun z => by subst z; simp at he; exact hp he.symm
  by_cases hlt : d < k + 2
  · exact noDiv_at h d (by omega) hlt ⟨e, he⟩
  · by_cases hlt2 : e < k + 2
    · exact noDiv_at h e (by omega) hlt2 ⟨d, by rw [he, Nat.mul_comm]⟩
    · have : (k + 2) * (k + 2) ≤ d * e := Nat.mul_le_mul (by omega) (by omega)
      omega
theorem IsPrime.coprime {p a : Nat} (hp : IsPrime p) (h : ¬ p ∣ a) : Nat.Coprime p a := by
  rcases hp.2 _ (Nat.gcd_dvd_left p a) with e | e
  · exact e
  · exact absurd (e ▸ Nat.gcd_dvd_right p a) h
theorem IsPrime.mul {p a b : Nat} (hp : IsPrime p) (h : p ∣ a * b) : p ∣ a ∨ p ∣ b := by
  by_cases h1 : p ∣ a
  · exact .inl h1
  · exact .inr ((hp.coprime h1).dvd_of_dvd_mul_left h)
theorem dvd_sub_of {p x y : Nat} (h : x % p = y % p) : p ∣ y - x := Nat.dvd_of_mod_eq_zero (Nat.sub_mod_eq_zero_of_mod_eq h.symm)
theorem mod_of_dvd_sub {p x y : Nat} (hl : x ≤ y) (h : p ∣ y - x) : x % p = y % p := by
  obtain ⟨q, hq⟩ := h
  have e : y = x + p * q := by omega
  rw [e, Nat.add_mul_mod_self_left]
theorem perm_of : ∀ {M L : List Nat}, M.Nodup → (∀ x, x ∈ M → x ∈ L) → L.length = M.length → M.Perm L
  | [], L, _, _, hl => by
    have : L = [] := List.length_eq_zero_iff.mp hl
    rw [this]
  | a :: M, L, hn, hs, hl => by
    have ha : a ∈ L := hs a List.mem_cons_self
    have hn' := List.nodup_cons.mp hn
    have h2 : M.Perm (L.erase a) := perm_of hn'.2 (fun x hx => (List.mem_erase_of_ne (fun e => hn'.1 (by rw [← e]; exact hx))).mpr (hs x (List.mem_cons_of_mem _ hx))) (by
      rw [List.length_erase_of_mem ha]
      rw [List.length_cons] at hl
      omega)
    exact (List.Perm.cons a h2).trans (List.perm_cons_erase ha).symm
def prod : List Nat → Nat
  | [] => 1
  | a :: l => a * prod l
theorem prod_perm {a b : List Nat} (h : a.Perm b) : prod a = prod b := by
  induction h with
  | nil => rfl
  | cons x _ ih => show x * _ = x * _; rw [ih]
  | swap x y l => show y * (x * _) = x * (y * _); rw [← Nat.mul_assoc, ← Nat.mul_assoc, Nat.mul_comm y x]
  | trans _ _ h1 h2 => rw [h1, h2]
theorem prod_map {p a : Nat} : ∀ l : List Nat, prod (l.map fun x => a * x % p) % p = a ^ l.length * prod l % p
  | [] => by simp [prod]
  | x :: l => by
    show (a * x % p) * prod (l.map fun x => a * x % p) % p = a ^ (l.length + 1) * (x * prod l) % p
    rw [Nat.mul_mod, Nat.mod_mod, prod_map l, ← Nat.mul_mod, Nat.pow_succ]
    congr 1
    rw [Nat.mul_assoc (a ^ l.length) a, Nat.mul_left_comm a x, Nat.mul_comm a x, Nat.mul_assoc x a, ← Nat.mul_assoc (a ^ l.length) x, Nat.mul_comm (a ^ l.length) x, Nat.mul_assoc x (a ^ l.length), ← Nat.mul_assoc (a ^ l.length), Nat.mul_comm (a ^ l.length) a, Nat.mul_assoc a]
theorem prod_not {p : Nat} (hp : IsPrime p) : ∀ l : List Nat, (∀ x, x ∈ l → ¬ p ∣ x) → ¬ p ∣ prod l
  | [], _, h => by
    have : p = 1 := Nat.dvd_one.mp h
    have := hp.1
    omega
  | x :: l, h, hd => by
    rcases hp.mul (show p ∣ x * prod l from hd) with h1 | h1
    · exact h x List.mem_cons_self h1
    · exact prod_not hp l (fun y hy => h y (List.mem_cons_of_mem _ hy)) h1
theorem fermat {p a : Nat} (hp : IsPrime p) (ha : ¬ p ∣ a) : a ^ (p - 1) % p = 1 % p := by
  have hp2 := hp.1
  let L := List.range' 1 (p - 1)
  have hL : ∀ x, x ∈ L ↔ 1 ≤ x ∧ x < p := fun x => by
    show x ∈ List.range' 1 (p - 1) ↔ _
    rw [List.mem_range'_1]
    omega
  have hnL : L.Nodup := List.nodup_range'
  have hLn : ∀ x, x ∈ L → ¬ p ∣ x := fun x hx hd => by
    have := (hL x).mp hx
    have := Nat.le_of_dvd (by omega) hd
    omega
  have hM : (L.map fun x => a * x % p).Perm L := by
    refine perm_of ?_ ?_ (by rw [List.length_map])
    · refine List.pairwise_map.mpr (List.Pairwise.imp_of_mem ?_ hnL)
      intro x y hx hy hne he
      have bx := (hL x).mp hx
      have bY := (hL y).mp hy
      have key : ∀ u v, 1 ≤ u → u < p → v < p → u ≤ v → a * u % p = a * v % p → u = v := fun u v h1 h2 h3 h4 h5 => by
        have hd : p ∣ a * (v - u) := by
          rw [Nat.mul_sub]
          exact dvd_sub_of h5
        rcases hp.mul hd with h6 | h6
        · exact absurd h6 ha
        · by_cases h7 : v - u = 0
          · omega
          · have := Nat.le_of_dvd (by omega) h6
            omega
      rcases Nat.le_total x y with h | h
      · exact hne (key x y bx.1 bx.2 bY.2 h he)
      · exact hne (key y x bY.1 bY.2 bx.2 h he.symm).symm
    · intro z hz
      obtain ⟨x, hx, rfl⟩ := List.mem_map.mp hz
      refine (hL _).mpr ⟨?_, Nat.mod_lt _ (by omega)⟩
      by_cases h0 : a * x % p = 0
      · rcases hp.mul (Nat.dvd_of_mod_eq_zero h0) with h6 | h6
        · exact absurd h6 ha
        · exact absurd h6 (hLn x hx)
      · omega
  have e1 := prod_perm hM
  have e2 : a ^ L.length * prod L % p = prod L % p := by rw [← prod_map, e1]
  have hlen : L.length = p - 1 := List.length_range'
  rw [hlen] at e2
  have hpos : 1 ≤ a ^ (p - 1) := Nat.one_le_iff_ne_zero.mpr fun z => by
    have : a = 0 := Nat.pow_eq_zero.mp z |>.1
    subst this
    exact ha (Nat.dvd_zero p)
  have hd : p ∣ (a ^ (p - 1) - 1) * prod L := by
    rw [Nat.sub_mul, Nat.one_mul]
    exact dvd_sub_of e2.symm
  rcases hp.mul hd with h | h
  · exact (mod_of_dvd_sub hpos h).symm
  · exact absurd h (prod_not hp L hLn)
theorem p2 : IsPrime 2 := prime_of (k := 0) (by decide) (by decide) (by decide)
theorem p3 : IsPrime 3 := prime_of (k := 0) (by decide) (by decide) (by decide)
theorem p5 : IsPrime 5 := prime_of (k := 1) (by decide) (by decide) (by decide +kernel)
theorem p7 : IsPrime 7 := prime_of (k := 1) (by decide) (by decide) (by decide +kernel)
theorem p11 : IsPrime 11 := prime_of (k := 2) (by decide) (by decide) (by decide +kernel)
theorem p13 : IsPrime 13 := prime_of (k := 2) (by decide) (by decide) (by decide +kernel)
theorem p101 : IsPrime 101 := prime_of (k := 9) (by decide) (by decide) (by decide +kernel)
theorem pBig : IsPrime 999999937 := prime_of (k := 31622) (by decide) (by decide +kernel) (by decide +kernel)
end Br.F

/-! ### tables' polynomials: the shares of Lagrange's formula modulo a prime -/
namespace Br.F
def Tp (x : Int) : Nat → Int
  | 0 => 1
  | n + 1 => Tp x n * (x - (n : Int))
def Ab (x : Int) (at_ : Nat) : Nat → Int
  | 0 => 1
  | n + 1 => if n = at_ then Ab x at_ n else Ab x at_ n * (x - (n : Int))
def fct : Nat → Int
  | 0 => 1
  | n + 1 => fct n * ((n : Int) + 1)
def sg (m : Nat) : Int := if m % 2 = 0 then 1 else -1
theorem sg_succ (m : Nat) : sg (m + 1) = - sg m := by
  unfold sg
  split <;> split <;> first | omega | rfl
theorem Ab_eq {x : Int} {at_ n : Nat} (h : n ≠ at_) : Ab x at_ (n + 1) = Ab x at_ n * (x - (n : Int)) := if_neg h
theorem Ab_at {x : Int} {at_ : Nat} : Ab x at_ (at_ + 1) = Ab x at_ at_ := if_pos rfl
theorem Ab_lt {x : Int} {at_ : Nat} : ∀ {n : Nat}, n ≤ at_ → Ab x at_ n = Tp x n
  | 0, _ => rfl
  | n + 1, h => by
    rw [Ab_eq (by omega), Ab_lt (by omega)]
    rfl
theorem Tp_split {x : Int} {at_ : Nat} : ∀ {n : Nat}, at_ < n → Tp x n = (x - (at_ : Int)) * Ab x at_ n
  | 0, h => by omega
  | n + 1, h => by
    by_cases e : n = at_
    · subst e
      rw [Ab_at, Ab_lt (Nat.le_refl _), Int.mul_comm]
      rfl
    · rw [Ab_eq e]
      show Tp x n * (x - (n : Int)) = _
      rw [Tp_split (at_ := at_) (by omega), Int.mul_assoc]
theorem Ab_zero {x at_ : Nat} (hx : x ≠ at_) : ∀ {n : Nat}, x < n → Ab (x : Int) at_ n = 0
  | 0, h => by omega
  | n + 1, h => by
    by_cases e : n = at_
    · subst e
      rw [Ab_at, Ab_zero hx (by omega)]
    · rw [Ab_eq e]
      by_cases e2 : x = n
      · subst e2
        rw [Int.sub_self, Int.mul_zero]
      · rw [Ab_zero hx (by omega), Int.zero_mul]
theorem Tp_low {at_ : Nat} : ∀ {n : Nat}, n ≤ at_ → Tp (at_ : Int) n * fct (at_ - n) = fct at_
  | 0, _ => by rw [Nat.sub_zero]; exact Int.one_mul _
  | n + 1, h => by
    have ih := Tp_low (at_ := at_) (n := n) (by omega)
    obtain ⟨k, hk⟩ : ∃ k, at_ - n = k + 1 := ⟨at_ - n - 1, by omega⟩
    have e : at_ - (n + 1) = k := by omega
    rw [hk] at ih
    rw [e]
    show Tp (at_ : Int) n * ((at_ : Int) - (n : Int)) * fct k = _
    have e2 : (at_ : Int) - (n : Int) = (k : Int) + 1 := by omega
    rw [e2, Int.mul_assoc, Int.mul_comm ((k : Int) + 1)]
    exact ih
theorem Ab_hi {at_ : Nat} : ∀ m : Nat, Ab (at_ : Int) at_ (at_ + 1 + m) = fct at_ * (sg m * fct m)
  | 0 => by
    show Ab (at_ : Int) at_ (at_ + 1) = _
    rw [Ab_at, Ab_lt (Nat.le_refl _)]
    have h := Tp_low (at_ := at_) (Nat.le_refl at_)
    rw [Nat.sub_self] at h
    have e : fct 0 = 1 := rfl
    have e2 : sg 0 = 1 := rfl
    rw [e, Int.mul_one] at h
    rw [h, e, e2, Int.mul_one, Int.mul_one]
  | m + 1 => by
    show Ab (at_ : Int) at_ (at_ + 1 + m + 1) = _
    rw [Ab_eq (by omega), Ab_hi m, sg_succ]
    show _ = fct at_ * (-sg m * (fct m * ((m : Int) + 1)))
    have e : (at_ : Int) - ((at_ + 1 + m : Nat) : Int) = -((m : Int) + 1) := by omega
    rw [e]
    grind
theorem IsPrime.mulI {p : Nat} {a b : Int} (hp : IsPrime p) (h : (p : Int) ∣ a * b) : (p : Int) ∣ a ∨ (p : Int) ∣ b := by
  have h' : p ∣ a.natAbs * b.natAbs := by
    rw [← Int.natAbs_mul]
    exact Int.natAbs_dvd_natAbs.mpr h
  rcases hp.mul h' with h1 | h1
  · exact .inl (Int.ofNat_dvd_left.mpr h1)
  · exact .inr (Int.ofNat_dvd_left.mpr h1)
theorem small_dvd {p : Nat} {z : Int} (h : (p : Int) ∣ z) (h1 : -(p : Int) < z) (h2 : z < p) : z = 0 := by
  obtain ⟨q, hq⟩ := h
  have hp : 0 < (p : Int) := by omega
  by_cases h0 : q = 0
  · rw [hq, h0, Int.mul_zero]
  · exfalso
    rcases Int.lt_or_gt_of_ne h0 with hl | hl
    · have : (p : Int) * q ≤ p * (-1) := Int.mul_le_mul_of_nonneg_left (by omega) (by omega)
      omega
    · have : (p : Int) * 1 ≤ p * q := Int.mul_le_mul_of_nonneg_left (by omega) (by omega)
      omega
theorem one_not {p : Nat} (hp : IsPrime p) : ¬ (p : Int) ∣ 1 := fun h => by
  have := small_dvd h (by have := hp.1; omega) (by have := hp.1; omega)
  omega
theorem Ab_not {p at_ : Nat} {x : Int} (hp : IsPrime p) : ∀ {n : Nat}, (∀ o : Nat, o < n → o ≠ at_ → ¬ (p : Int) ∣ x - (o : Int)) → ¬ (p : Int) ∣ Ab x at_ n
  | 0, _ => one_not hp
  | n + 1, h => by
    have ih := Ab_not (n := n) hp fun o ho => h o (by omega)
    by_cases e : n = at_
    · subst e
      rw [Ab_at]
      exact ih
    · rw [Ab_eq e]
      intro hd
      rcases hp.mulI hd with h1 | h1
      · exact ih h1
      · exact h n (by omega) e h1
theorem Ab_own {p at_ n : Nat} (hp : IsPrime p) (ha : at_ < n) (hn : n ≤ p) : ¬ (p : Int) ∣ Ab (at_ : Int) at_ n :=
  Ab_not hp fun o ho hne hd => by
    have := small_dvd hd (by omega) (by omega)
    omega
/-- the share of the index at_ at x -/
def Bas (p n at_ : Nat) (x v : Int) : Prop := 0 ≤ v ∧ v < p ∧ (p : Int) ∣ v * Ab (at_ : Int) at_ n - Ab x at_ n
theorem Bas.uniq {p n at_ : Nat} {x u v : Int} (hp : IsPrime p) (ha : at_ < n) (hn : n ≤ p) (hu : Bas p n at_ x u) (hv : Bas p n at_ x v) : u = v := by
  have h : (p : Int) ∣ (u - v) * Ab (at_ : Int) at_ n := by
    have := Int.dvd_sub hu.2.2 hv.2.2
    have e : (u - v) * Ab (at_ : Int) at_ n = u * Ab (at_ : Int) at_ n - Ab x at_ n - (v * Ab (at_ : Int) at_ n - Ab x at_ n) := by grind
    rw [e]
    exact this
  rcases hp.mulI h with h1 | h1
  · have := small_dvd h1 (by have := hu.1; have := hv.2.1; omega) (by have := hv.1; have := hu.2.1; omega)
    omega
  · exact absurd h1 (Ab_own hp ha hn)
theorem Bas.ind {p n at_ x : Nat} (hp : IsPrime p) (hx : x < n) : Bas p n at_ (x : Int) (if at_ = x then 1 else 0) := by
  have hp2 := hp.1
  refine ⟨by split <;> omega, by split <;> omega, ?_⟩
  by_cases e : at_ = x
  · subst e
    rw [if_pos rfl, Int.one_mul, Int.sub_self]
    exact Int.dvd_zero _
  · rw [if_neg e, Int.zero_mul, Ab_zero (fun z => e z.symm) hx, Int.sub_self]
    exact Int.dvd_zero _
/-- by the inverse of the whole bottom -/
theorem Bas.inv {p n at_ : Nat} {x tp bot y : Int} (ha : at_ < n) (hp2 : 2 ≤ p) (ht : (p : Int) ∣ tp - Tp x n) (hb : (p : Int) ∣ bot - Ab (at_ : Int) at_ n) (hy : y * ((x - (at_ : Int)) * bot) % p = 1) : Bas p n at_ x (tp * y % p) := by
  refine ⟨Int.emod_nonneg _ (by omega), Int.emod_lt_of_pos _ (by omega), ?_⟩
  rw [Tp_split ha] at ht
  generalize Ab (at_ : Int) at_ n = A at *
  generalize Ab x at_ n = U at *
  generalize x - (at_ : Int) = D at *
  obtain ⟨t1, h1⟩ := ht
  obtain ⟨t2, h2⟩ := hb
  have h3 := Int.mul_ediv_add_emod (y * (D * bot)) p
  rw [hy] at h3
  have h4 := Int.mul_ediv_add_emod (tp * y) p
  generalize y * (D * bot) / (p : Int) = t3 at *
  generalize tp * y / (p : Int) = t4 at *
  generalize tp * y % (p : Int) = v at *
  refine ⟨t1 * y * A - t4 * A + U * (t3 - D * y * t2), ?_⟩
  have e1 : tp = D * U + p * t1 := by omega
  have e2 : bot = A + p * t2 := by omega
  have e3 : v = tp * y - p * t4 := by omega
  subst e1 e2 e3
  have e5 : y * (D * (A + p * t2)) = p * t3 + 1 := by omega
  have e6 : U * (y * (D * (A + p * t2))) = U * (p * t3 + 1) := by rw [e5]
  grind
theorem pow_dvd {p a b : Int} (h : p ∣ a - b) : ∀ k : Nat, p ∣ a ^ k - b ^ k
  | 0 => by rw [Int.pow_zero, Int.pow_zero, Int.sub_self]; exact Int.dvd_zero _
  | k + 1 => by
    obtain ⟨u, hu⟩ := pow_dvd h k
    obtain ⟨v, hv⟩ := h
    refine ⟨u * a + b ^ k * v, ?_⟩
    rw [Int.pow_succ, Int.pow_succ]
    have e1 : a ^ k = b ^ k + p * u := by omega
    have e2 : a = b + p * v := by omega
    rw [e1]
    generalize b ^ k = B
    subst e2
    grind
/-- by Fermat's power -/
theorem Bas.pow {p n at_ : Nat} {x ab be pw : Int} (hp : IsPrime p) (hat : at_ < n) (hn : n ≤ p) (hbe0 : 0 ≤ be) (ha : (p : Int) ∣ ab - Ab x at_ n) (hb : (p : Int) ∣ be - Ab (at_ : Int) at_ n) (hw : (p : Int) ∣ pw - be ^ (p - 2)) : Bas p n at_ x (ab * pw % p) := by
  have hp2 := hp.1
  refine ⟨Int.emod_nonneg _ (by omega), Int.emod_lt_of_pos _ (by omega), ?_⟩
  have hA := Ab_own hp hat hn
  generalize Ab (at_ : Int) at_ n = A at *
  generalize Ab x at_ n = U at *
  have hbn : ¬ (p : Int) ∣ be := fun h => hA (by
    have e : A = be - (be - A) := by omega
    rw [e]
    exact Int.dvd_sub h hb)
  obtain ⟨bn, rfl⟩ : ∃ bn : Nat, be = (bn : Int) := ⟨be.toNat, by omega⟩
  have hf : bn ^ (p - 1) % p = 1 % p := fermat hp fun h => hbn (Int.ofNat_dvd.mpr h)
  have hf2 : ((bn : Int) ^ (p - 1)) % (p : Int) = 1 := by
    have h1 : 1 % p = 1 := Nat.mod_eq_of_lt (by omega)
    rw [h1] at hf
    have e : (((bn ^ (p - 1) % p : Nat)) : Int) = 1 := by rw [hf]; rfl
    rw [Int.natCast_emod, Int.natCast_pow] at e
    exact e
  have h3 := Int.mul_ediv_add_emod ((bn : Int) ^ (p - 1)) p
  rw [hf2] at h3
  obtain ⟨k, hk⟩ : ∃ k, p = k + 2 := ⟨p - 2, by omega⟩
  have e1 : p - 1 = k + 1 := by omega
  have e2 : p - 2 = k := by omega
  rw [e1, Int.pow_succ] at h3
  rw [e2] at hw
  generalize (bn : Int) ^ k = W at *
  generalize (W * (bn : Int)) / (p : Int) = t3 at *
  obtain ⟨t1, h1⟩ := ha
  obtain ⟨t2, h2⟩ := hb
  obtain ⟨t5, h5⟩ := hw
  have h4 := Int.mul_ediv_add_emod (ab * pw) p
  generalize ab * pw / (p : Int) = t4 at *
  generalize ab * pw % (p : Int) = v at *
  have g1 : ab = U + p * t1 := by omega
  have g2 : A = (bn : Int) - p * t2 := by omega
  have g3 : v = ab * pw - p * t4 := by omega
  have g5 : pw = W + p * t5 := by omega
  have g6 : W * (bn : Int) = 1 + p * t3 := by omega
  subst g1 g5
  subst g3
  subst g2
  refine ⟨t1 * (W + p * t5) * ((bn : Int) - p * t2) - t4 * ((bn : Int) - p * t2) + U * t3 + U * t5 * ((bn : Int) - p * t2) - U * W * t2, ?_⟩
  have g7 : U * (W * (bn : Int)) = U * (1 + p * t3) := by rw [g6]
  grind
/-- sums -/
def S1 (f : Nat → Int) : Nat → Int
  | 0 => 0
  | n + 1 => S1 f n + f n
theorem S1_congr {f g : Nat → Int} : ∀ {n : Nat}, (∀ i, i < n → f i = g i) → S1 f n = S1 g n
  | 0, _ => rfl
  | n + 1, h => by
    show S1 f n + f n = S1 g n + g n
    rw [S1_congr fun i hi => h i (by omega), h n (by omega)]
theorem S1_mul {f : Nat → Int} {c : Int} : ∀ {n : Nat}, S1 (fun i => c * f i) n = c * S1 f n
  | 0 => (Int.mul_zero c).symm
  | n + 1 => by
    show S1 (fun i => c * f i) n + c * f n = c * (S1 f n + f n)
    rw [S1_mul, Int.mul_add]
theorem S1_one {n k : Nat} {f : Nat → Int} (h : ∀ i, i ≠ k → f i = 0) : k < n → S1 f n = f k := by
  induction n with
  | zero => intro hk; omega
  | succ n ih =>
    intro hk
    show S1 f n + f n = f k
    by_cases e : k = n
    · subst e
      have z : ∀ m, m ≤ k → S1 f m = 0 := fun m => by
        induction m with
        | zero => intro _; rfl
        | succ m ih => intro hm; show S1 f m + f m = 0; rw [ih (by omega), h m (by omega)]; rfl
      rw [z k (Nat.le_refl _), Int.zero_add]
    · rw [ih (by omega), h n (fun z => e z.symm), Int.add_zero]
/-- the value of the table's polynomial -/
def Itp (p : Nat) (t : List (List Int)) (x y v : Int) : Prop := ∃ R C : Nat → Int, (∀ i, i < t.length → Bas p t.length i x (R i)) ∧ (∀ j, j < t.length → Bas p t.length j y (C j)) ∧
  v = S1 (fun i => R i * S1 (fun j => C j * (t.getD i []).getD j 0) t.length) t.length % p
theorem Itp.uniq {p : Nat} {t : List (List Int)} {x y u v : Int} (hp : IsPrime p) (hn : t.length ≤ p) (hu : Itp p t x y u) (hv : Itp p t x y v) : u = v := by
  obtain ⟨R, C, h1, h2, h3⟩ := hu
  obtain ⟨R', C', h1', h2', h3'⟩ := hv
  rw [h3, h3']
  congr 1
  refine S1_congr fun i hi => ?_
  rw [(h1 i hi).uniq hp hi hn (h1' i hi)]
  congr 1
  exact S1_congr fun j hj => by rw [(h2 j hj).uniq hp hj hn (h2' j hj)]
theorem Itp.own {p : Nat} {t : List (List Int)} {x y : Nat} (hp : IsPrime p) (hx : x < t.length) (hy : y < t.length) (h0 : 0 ≤ (t.getD x []).getD y 0) (h1 : (t.getD x []).getD y 0 < p) : Itp p t x y ((t.getD x []).getD y 0) := by
  refine ⟨fun i => if i = x then 1 else 0, fun j => if j = y then 1 else 0, fun i _ => .ind hp hx, fun j _ => .ind hp hy, ?_⟩
  rw [S1_one (k := x) (fun i hi => by show (if i = x then (1 : Int) else 0) * _ = 0; rw [if_neg hi, Int.zero_mul]) hx]
  show _ = (if x = x then (1 : Int) else 0) * S1 _ _ % _
  rw [if_pos rfl, Int.one_mul, S1_one (k := y) (fun j hj => by show (if j = y then (1 : Int) else 0) * _ = 0; rw [if_neg hj, Int.zero_mul]) hy]
  show _ = (if y = y then (1 : Int) else 0) * _ % _
  rw [if_pos rfl, Int.one_mul, Int.emod_eq_of_lt h0 h1]
/-- the share, written out -/
def BsV (p n i : Nat) (x : Int) : Int := Ab x i n * (Ab (i : Int) i n % p) ^ (p - 2) % p
theorem BsV.ok {p n i : Nat} {x : Int} (hp : IsPrime p) (hi : i < n) (hn : n ≤ p) : Bas p n i x (BsV p n i x) := by
  have hp2 := hp.1
  refine Bas.pow (be := Ab (i : Int) i n % p) hp hi hn (Int.emod_nonneg _ (by omega)) ⟨0, by omega⟩ ?_ ⟨0, by omega⟩
  have := Int.mul_ediv_add_emod (Ab (i : Int) i n) p
  exact ⟨-(Ab (i : Int) i n / p), by rw [Int.mul_neg]; omega⟩
theorem Itp.mk' {p : Nat} {t : List (List Int)} {x y v : Int} (hp : IsPrime p) (hn : t.length ≤ p) (h0 : 0 ≤ v) (h1 : v < p) (hd : (p : Int) ∣ v - S1 (fun i => BsV p t.length i x * S1 (fun j => BsV p t.length j y * (t.getD i []).getD j 0) t.length) t.length) : Itp p t x y v := by
  refine ⟨fun i => BsV p t.length i x, fun j => BsV p t.length j y, fun i hi => BsV.ok hp hi hn, fun j hj => BsV.ok hp hj hn, ?_⟩
  generalize S1 _ _ = s at *
  have hp2 := hp.1
  have h4 := Int.mul_ediv_add_emod s p
  have h5 := Int.emod_nonneg s (show (p : Int) ≠ 0 by omega)
  have h6 := Int.emod_lt_of_pos s (show (0 : Int) < p by omega)
  have h7 : (p : Int) ∣ v - s % p := by
    have e : v - s % p = v - s + p * (s / p) := by omega
    rw [e]
    exact Int.dvd_add hd (Int.dvd_mul_right _ _)
  have := small_dvd h7 (by omega) (by omega)
  omega
end Br.F

/-! ### zip of a list and a tuple -/
namespace Br
open PySem PySem.Spec PyProof.Rows L2
def ItzM (K : PySem.W.Frag) (a b : Addr) : It where
  go := fun i H => ∃ (xs ys : List V), SqL K H a xs ∧ SqT K H b ys ∧ i < xs.length ∧ i < ys.length
  yld := fun i H v H' => ∃ (p : Addr) (x y : V), v = .ref p ∧ H p = none ∧ H' = upd H p (.tup [x, y]) ∧ (∀ xs, SqL K H a xs → xs[i]? = some x) ∧ (∀ ys, SqT K H b ys → ys[i]? = some y)
  stop := fun i H => ∃ (xs ys : List V), SqL K H a xs ∧ SqT K H b ys ∧ i ≤ xs.length ∧ i ≤ ys.length ∧ (i = xs.length ∨ i = ys.length)
def MixSt (a b z p q i1 i2 : Addr) (i : Nat) (h : Heap) : Prop :=
  IsZip h z p q .none ∧ IsTupOf2 h p (.ref i1) (.ref i2) ∧ (∃ u v, IsTupOf2 h q u v) ∧ h.IsListIter i1 a i ∧ h.IsTupleIter i2 b i
theorem MixSt.sizes {a b z p q i1 i2 : Addr} {i : Nat} {h : Heap} (m : MixSt a b z p q i1 i2 i h) : z < h.objs.size ∧ p < h.objs.size ∧ q < h.objs.size ∧ i1 < h.objs.size ∧ i2 < h.objs.size := by
  obtain ⟨e1, e2, ⟨_, _, e3⟩, ⟨_, e4, _⟩, ⟨_, e5, _⟩⟩ := m
  exact ⟨Heap.lt_size e1, Heap.lt_size e2, Heap.lt_size e3, Heap.lt_size e4, Heap.lt_size e5⟩
theorem in5 {c z p q i1 i2 : Addr} (h : c ∈ [z, p, q, i1, i2]) : c = z ∨ c = p ∨ c = q ∨ c = i1 ∨ c = i2 := by simpa using h
theorem turn_mix {P : Program} {w : World} {K : PySem.W.Frag} {elts : List Expr} {kk : Nat} {tpos : Pos} {a b z p q i1 i2 : Addr} (S : ZipSep2 z p q i1 i2 [i1, a] [i2, b]) :
    Turn P w K (.Tuple elts kk tpos) (ItzM K a b) [z, p, q, i1, i2] z (MixSt a b z p q i1 i2) := by
  have ha : a ≠ i1 ∧ b ≠ i2 ∨ True := .inr trivial
  refine ⟨by simp, ?obj, ?keep, ?item, ?done, ?self⟩
  case obj =>
    intro i h st c hc
    obtain ⟨e1, e2, ⟨_, _, e3⟩, ⟨o4, e4, _, d4⟩, ⟨o5, e5, _, d5⟩⟩ := st
    rcases in5 hc with rfl | rfl | rfl | rfl | rfl
    · exact ⟨_, e1, fun _ z => nomatch z⟩
    · exact ⟨_, e2, fun _ z => nomatch z⟩
    · exact ⟨_, e3, fun _ z => nomatch z⟩
    · exact ⟨_, e4, fun _ z => by rw [d4] at z; cases z⟩
    · exact ⟨_, e5, fun _ z => by rw [d5] at z; cases z⟩
  case keep =>
    intro i h h' st k
    obtain ⟨e1, e2, ⟨u, v, e3⟩, e4, e5⟩ := st
    exact ⟨k _ (by simp) _ e1, k _ (by simp) _ e2, ⟨u, v, k _ (by simp) _ e3⟩, e4.at fun o => k _ (by simp) o, e5.at fun o => k _ (by simp) o⟩
  case item =>
    intro X hP hw hK hc i pins s σ H E I hf st hg
    subst hP hw hK
    have sz := st.sizes
    obtain ⟨e1, e2, ⟨u, v, e3⟩, e4, e5⟩ := st
    obtain ⟨xs, ys, hx, hy, lx, ly⟩ := hg
    obtain ⟨us, rx, p1, _⟩ := I.list hx
    obtain ⟨ws, ry, p2, _⟩ := I.tuple hy
    have nx := rx.length
    have ny := ry.length
    have hd : X.A.in1.handled = none := I.ok.hd hc
    have na : a ≠ i1 := fun e => by
      obtain ⟨o, eo, co, _⟩ := e4
      obtain ⟨o', _, eo', co', _⟩ := p1
      rw [e, eo] at eo'
      cases eo'
      rw [co] at co'
      simp at co'
    have nb : b ≠ i2 := fun e => by
      obtain ⟨o, eo, co, _⟩ := e5
      obtain ⟨o', eo', co', _⟩ := p2
      rw [e, eo] at eo'
      cases eo'
      rw [co] at co'
      simp at co'
    refine wpAny_pyNext_zipD2_item S (Draws.list hd i1 a na us.toArray) (Draws.tuple hd i2 b nb ws.toArray) e1 e2 e3 ⟨e4, p1.isList⟩ ⟨e5, p2⟩ (by simp; omega) (by simp; omega) ?_
    intro x1 x2 h1 tk q1 q2 z1 t1 s1 s2 nw hs hk
    refine ⟨_, rfl, wpAny_letOwnedTupleGo_zip (s := { s with heap := h1, toks := tk }) z1 fun h2 z2 sb => ?_⟩
    obtain ⟨x, gx⟩ : ∃ x, xs[i]? = some x := ⟨_, List.getElem?_eq_getElem lx⟩
    obtain ⟨y, gy⟩ : ∃ y, ys[i]? = some y := ⟨_, List.getElem?_eq_getElem ly⟩
    obtain ⟨ux, gux, rux⟩ := rx.get gx
    obtain ⟨uy, guy, ruy⟩ := ry.get gy
    have ex : x1 = ux := by
      rw [List.getElem?_toArray, gux] at q1
      exact (Option.some.inj q1).symm
    have ey : x2 = uy := by
      rw [List.getElem?_toArray, guy] at q2
      exact (Option.some.inj q2).symm
    subst ex ey
    have ne : ∀ {c : Addr}, c < s.heap.objs.size → s.heap.objs.size ≠ c := fun h => Nat.ne_of_gt h
    have new2 : h2.get? s.heap.objs.size = some { cls := .type "tuple", data := .seq #[x1, x2] } := (sb.2 _ (ne sz.1)).trans nw
    have kp : ∀ c o, c ∉ [z, p, q, i1, i2] → s.heap.get? c = some o → h2.get? c = some o := fun c o hc e => by
      have m : ∀ d, d ∈ [z, p, q, i1, i2] → c ≠ d := fun d hd e => hc (e ▸ hd)
      exact (sb.2 c (m z (by simp))).trans (hk c o (m z (by simp)) (m q (by simp)) (m i1 (by simp)) (m i2 (by simp)) e)
    have ok : ObjOk X.prog X.w (upd H s.heap.objs.size (.tup [x, y])) h2 s.heap.objs.size (.tup [x, y]) :=
      ⟨(show 2 ≤ sizeLine by decide), [x1, x2], .cons rux (.cons ruy .nil), ⟨_, new2, rfl, 0, rfl⟩⟩
    have J := I.turnedNew (t' := tk) kp hf (Nat.le_refl _) ok
    refine ⟨.ref s.heap.objs.size, _, J, rfl, ⟨_, x, y, rfl, I.hok.fresh (Nat.le_refl _), rfl, fun l hl => by rw [I.list_inj hl hx]; exact gx, fun l hl => by rw [I.tuple_inj hl hy]; exact gy⟩, ?_, fun c hcm => ?_⟩
    · refine ⟨z2, (sb.2 _ S.TIz).trans (hk _ _ S.TIz S.TITO S.TIi1 S.TIi2 e2), ⟨_, _, (sb.2 _ S.TOz).trans t1⟩, s1.1.at fun o e => (sb.2 _ S.zi1.symm).trans e, s2.1.at fun o e => (sb.2 _ S.zi2.symm).trans e⟩
    · rw [upd_ne]
      · exact (hf c hcm).1
      · rcases in5 hcm with rfl | rfl | rfl | rfl | rfl
        · exact (ne sz.1).symm
        · exact (ne sz.2.1).symm
        · exact (ne sz.2.2.1).symm
        · exact (ne sz.2.2.2.1).symm
        · exact (ne sz.2.2.2.2).symm
  case done =>
    intro X hP hw hK hc i pins s σ H E I hf st hg
    subst hP hw hK
    obtain ⟨e1, e2, ⟨u, v, e3⟩, e4, e5⟩ := st
    obtain ⟨xs, ys, hx, hy, lx, ly, hend⟩ := hg
    obtain ⟨us, rx, p1, _⟩ := I.list hx
    obtain ⟨ws, ry, p2, _⟩ := I.tuple hy
    have nx := rx.length
    have ny := ry.length
    have hd : X.A.in1.handled = none := I.ok.hd hc
    have na : a ≠ i1 := fun e => by
      obtain ⟨o, eo, co, _⟩ := e4
      obtain ⟨o', _, eo', co', _⟩ := p1
      rw [e, eo] at eo'
      cases eo'
      rw [co] at co'
      simp at co'
    have nb : b ≠ i2 := fun e => by
      obtain ⟨o, eo, co, _⟩ := e5
      obtain ⟨o', eo', co', _⟩ := p2
      rw [e, eo] at eo'
      cases eo'
      rw [co] at co'
      simp at co'
    refine wpAny_pyNext_zipD2_end S (Draws.list hd i1 a na us.toArray) (Draws.tuple hd i2 b nb ws.toArray) e1 e2 e3 ⟨e4, p1.isList⟩ ⟨e5, p2⟩ (by simp; omega) (by simp; omega) (by simp; omega) ?_
    intro h1 tk hk
    exact ⟨rfl, I.turnedL (t' := tk) (ch := [z, p, q, i1, i2]) (fun c o hc e => by
      have m : ∀ d, d ∈ [z, p, q, i1, i2] → c ≠ d := fun d hd e => hc (e ▸ hd)
      exact hk c o (m z (by simp)) (m q (by simp)) (m i1 (by simp)) (m i2 (by simp)) e) hf⟩
  case self => exact fun A i s Q E st h => wpAny_pyIter_zip st.1 h
def iZipM (K : PySem.W.Frag) (ta : TA) : TI := fun σ H R => ta σ H fun vs H1 => ∃ a b xs ys, vs = [.ref a, .ref b] ∧ SqL K H1 a xs ∧ SqT K H1 b ys ∧ R (ItzM K a b) H1
theorem pi_zipM {X : Cx} {e e2 : Expr} {ta : TA} {p pos tpos : Pos} {elts : List Expr} {kk : Nat} (hg : Gl X "zip") (hm : X.mg "zip" = none) (ha : PA X [e, e2] ta)
    (hs : starEach [e, e2] X.env = (false, eval e X.env) :: starEach [e2] X.env := by rfl) (hpl : (backTo pos (starEach [e2] X.env)).any (·.1) = false := by rfl) :
    PI X (.Tuple elts kk tpos) (.Call (.Name "zip" p) [e, e2] [] pos) (iZipM X.K ta) := by
  refine ⟨fun pins s σ H R I h => Call_ (ld_blt I hg hm PyProof.Rows.boot_zip (PyProof.Rows.callWith_type1 (thn (ha.run pos pins s σ H _ I h) ?_) hs hpl))⟩
  rintro us s1 ⟨vs, H1, I1, r1, a, b, xs, ys, rfl, hx, hy, go⟩
  obtain ⟨u1, u2, rfl, ra, rb⟩ : ∃ u1 u2, us = [u1, u2] ∧ RelV (.ref a) u1 ∧ RelV (.ref b) u2 := by
    cases r1 with
    | cons r rr =>
      cases rr with
      | cons r' rr =>
        cases rr
        exact ⟨_, _, rfl, r, r'⟩
  cases (show u1 = Value.ref a from ra)
  cases (show u2 = Value.ref b from rb)
  obtain ⟨us, rx, p1, _⟩ := I1.list hx
  obtain ⟨ws, ry, p2, _⟩ := I1.tuple hy
  have la : a < s1.heap.objs.size := p1.lt
  have lb : b < s1.heap.objs.size := by
    obtain ⟨_, e, _⟩ := id p2
    exact Heap.lt_size e
  refine zip_begins2 (begins_list a us.toArray) (begins_tuple b ws.toArray) p1.isList p2 ?_
  intro h1 hz hp hq g1 g2 hsz hk
  refine wpAny_pyIter_zip hz ?_
  have sep := zip_sep2 (N := s1.heap.objs.size) (fp1 := [a]) (fp2 := [b]) (fun c hc => by
    have e : c = a := by simpa using hc
    rw [e]; exact la) (fun c hc => by
    have e : c = b := by simpa using hc
    rw [e]; exact lb)
  refine ⟨_, _, _, _, H1, rfl, I1.kept (t' := s1.toks) hk, turn_mix sep, ⟨hz, hp, ⟨_, _, hq⟩, ⟨_, g1, rfl, rfl⟩, ⟨_, g2, rfl, rfl⟩⟩, fun c hc => ?_, go⟩
  have hle : s1.heap.objs.size ≤ c := by
    rcases in5 hc with e | e | e | e | e
    · rw [e]; exact Nat.le_add_right _ _
    · rw [e]; exact Nat.le_add_right _ _
    · rw [e]; exact Nat.le_add_right _ _
    · rw [e]; exact Nat.le_refl _
    · rw [e]; exact Nat.le_add_right _ _
  exact I1.fpOk hle (I1.hok.fresh hle)
theorem walk_mix {K : PySem.W.Frag} {a b : Addr} {xs ys : List V} {n : Nat} (h1 : xs.length = n) (h2 : ys.length = n) : Walk (ItzM K a b) n (fun H => SqL K H a xs ∧ SqT K H b ys) (YPair (fun i => xs[i]?) (fun i => ys[i]?)) := by
  refine ⟨fun i H hi q => ⟨xs, ys, q.1, q.2, by omega, by omega⟩, fun H q => ⟨xs, ys, q.1, q.2, by omega, by omega, by omega⟩, fun i H v H' hi q y => ?_⟩
  obtain ⟨p, x, y, e1, e2, e3, e4, e5⟩ := y
  exact ⟨p, x, y, e1, e2, e3, e4 _ q.1, e5 _ q.2⟩
/-- a for, a comprehension by a walk -/
theorem x_forI {wi : TI} {g : TG} {tb : TS} {D : Ends} {σ : L2.St} {H : Hp} {J : It} {n : Nat} {G : Hp → Prop} {Y : Nat → Hp → V → Hp → Prop} (hw : ∀ R : It → Hp → Prop, R J H → wi σ H R) (w : Walk J n G Y) (P : Nat → L2.St → Hp → Prop) (h0 : P 0 σ H)
    (hG : ∀ i σ' H', i ≤ n → P i σ' H' → G H') (hs : ∀ i x σ' H' H2, i < n → P i σ' H' → Y i H' x H2 → g x σ' H2 fun σ2 H3 => tb ⟨P (i + 1), D.rt, D.nx, P (i + 1)⟩ σ2 H3) (hd : ∀ σ' H', P n σ' H' → D.nx σ' H') : tFor wi g tb D σ H :=
  hw _ (for_it w P h0 hG hs hd)
theorem x_lcI {wi : TI} {g : TG} {te : TE} {vs : List Nat} {Q : VK} {σ : L2.St} {H : Hp} {J : It} {n : Nat} {G : Hp → Prop} {Y : Nat → Hp → V → Hp → Prop} (hw : ∀ R : It → Hp → Prop, R J H → wi σ H R) (w : Walk J n G Y) (P : Addr → Nat → Hp → Prop) (h0 : ∀ p, H p = none → P p 0 (upd H p (.lst [])))
    (hG : ∀ p i H', i ≤ n → H p = none → P p i H' → G H')
    (hs : ∀ p i x H' H2, i < n → H p = none → P p i H' → Y i H' x H2 → g x (wipe σ vs) H2 fun σ2 H3 => wipe σ2 vs = wipe σ vs ∧ te σ2 H3 fun y H4 => ∃ acc, H4 p = some (.lst acc) ∧ acc.length < sizeLine ∧ P p (i + 1) (upd H4 p (.lst (acc ++ [y]))))
    (hg : ∀ x σ' H' (R R' : L2.St → Hp → Prop), (∀ σ2 H2, R σ2 H2 → R' σ2 H2) → g x σ' H' R → g x σ' H' R') (hd : ∀ p H', H p = none → P p n H' → Q (.ref p) H') : tLc wi g tYes te vs σ H Q := by
  refine hw _ fun p hp => ?_
  refine lc_it w (Qd := fun H' => Q (.ref p) H') (P p) (h0 p hp) (fun i H' hi q => hG p i H' hi hp q) (fun i x H' H2 hi q y => ?_) fun H' q => hd p H' hp q
  refine hg _ _ _ _ _ (fun σ2 H3 z => ?_) (hs p i x H' H2 hi hp q y)
  refine ⟨z.1, ?_⟩
  unfold tYes
  exact iteT z.2
/-- a comprehension of truths, item by item -/
theorem x_lcB {wi : TI} {te : TE} {vs : List Nat} {j : Nat} {Q : VK} {σ : L2.St} {H : Hp} {J : It} {G : Hp → Prop} {xs : List V} (f : Nat → Bool) (hw : ∀ R : It → Hp → Prop, R J H → wi σ H R) (w : Walk J xs.length G (YAt xs)) (hn : xs.length ≤ 100000)
    (hG : ∀ H', Same H H' → G H') (hv : ∀ x, wipe ((wipe σ vs).set j (some x)) vs = wipe σ vs)
    (he : ∀ (i : Nat) x H', Same H H' → xs[i]? = some x → ∀ R : VK, (∀ H2, Same H' H2 → R (.bl (f i)) H2) → te ((wipe σ vs).set j (some x)) H' R)
    (hd : ∀ p H', H p = none → Same H H' → H' p = some (.lst (((List.range xs.length).map f).map V.bl)) → Q (.ref p) H') : tLc wi (gName j) tYes te vs σ H Q := by
  refine x_lcI hw w (fun p i H' => Same H H' ∧ H' p = some (.lst (((List.range i).map f).map V.bl))) (fun p hp => ⟨same_upd hp, upd_same⟩) (fun p i H' _ _ z => hG H' z.1) ?_ (fun x σ' H' R R' hr h => hr _ _ h) fun p H' hp z => hd p H' hp z.1 z.2
  rintro p i x H' H2 hi hp ⟨hs, hl⟩ ⟨rfl, hx⟩
  refine x_gName ⟨hv x, he i x _ hs hx _ fun H3 hs3 => ?_⟩
  refine ⟨_, hs3 _ _ hl, lt_line (by simp; omega), sput (hs.trans hs3) hp, ?_⟩
  rw [upd_same, List.range_succ, List.map_append, List.map_append]
  rfl
theorem x_all {K : PySem.W.Frag} {Q : VK} {H : Hp} {p : Addr} {bs : List Bool} (h : H p = some (.lst (bs.map V.bl))) (q : Q (.bl (bs.all id)) H) : rAll K [.ref p] H Q := ⟨p, bs, rfl, sq_of h, q⟩
theorem x_any {K : PySem.W.Frag} {Q : VK} {H : Hp} {p : Addr} {bs : List Bool} (h : H p = some (.lst (bs.map V.bl))) (q : Q (.bl (bs.any id)) H) : rAny K [.ref p] H Q := ⟨p, bs, rfl, sq_of h, q⟩
theorem all_range {n : Nat} {f : Nat → Bool} (h : ∀ i, i < n → f i = true) : ((List.range n).map f).all id = true := by
  rw [List.all_eq_true]
  intro b hb
  obtain ⟨i, hi, rfl⟩ := List.mem_map.mp hb
  exact h i (List.mem_range.mp hi)
/-- the same, over something made on the way -/
theorem x_lcB0 {wi : TI} {te : TE} {vs : List Nat} {j : Nat} {Q : VK} {σ : L2.St} {H : Hp} {xs : List V} (f : Nat → Bool) (hn : xs.length ≤ 100000)
    (hw : ∀ R : It → Hp → Prop, (∀ (J : It) (G : Hp → Prop) (H1 : Hp), Same H H1 → Walk J xs.length G (YAt xs) → (∀ H', Same H1 H' → G H') → R J H1) → wi σ H R) (hv : ∀ x, wipe ((wipe σ vs).set j (some x)) vs = wipe σ vs)
    (he : ∀ (i : Nat) x H', Same H H' → xs[i]? = some x → ∀ R : VK, (∀ H2, Same H' H2 → R (.bl (f i)) H2) → te ((wipe σ vs).set j (some x)) H' R)
    (hd : ∀ p H', Same H H' → H' p = some (.lst (((List.range xs.length).map f).map V.bl)) → Q (.ref p) H') : tLc wi (gName j) tYes te vs σ H Q := by
  refine hw _ fun J G H1 s1 w hG => ?_
  exact x_lcB (wi := fun _ H R => R J H) (H := H1) f (fun R r => r) w hn hG hv (fun i x H' s hx R hR => he i x H' (s1.trans s) hx R hR) fun p H' _ s h => hd p H' (s1.trans s) h
end Br

/-! ### tables in the heap -/
namespace Br
open PySem PySem.Spec PyProof.Rows L2 Br.F
theorem map_app {xs : List Int} {y : Int} {H : Hp} {a : Addr} : (L2.upd H a (.lst (xs.map V.int ++ [.int y]))) a = some (.lst ((xs ++ [y]).map V.int)) := by rw [upd_same, List.map_append]; rfl
def TabAt (K : PySem.W.Frag) (H : Hp) (a : Addr) (t : List (List Int)) : Prop := ∃ as : List Addr, SqT K H a (as.map V.ref) ∧ as.length = t.length ∧ ∀ (i : Nat) r b, t[i]? = some r → as[i]? = some b → SqT K H b (r.map V.int)
theorem TabAt.same {K : PySem.W.Frag} {H H' : Hp} {a : Addr} {t : List (List Int)} (h : TabAt K H a t) (s : Same H H') : TabAt K H' a t := by
  obtain ⟨as, h1, h2, h3⟩ := h
  exact ⟨as, seqT s h1, h2, fun i r b e1 e2 => seqT s (h3 i r b e1 e2)⟩
structure IsTab (p : Nat) (t : List (List Int)) : Prop where
  pos : 1 ≤ t.length
  le : t.length ≤ p
  rows : ∀ (i : Nat) r, t[i]? = some r → r.length = t.length ∧ Rg 0 p r
theorem get_getD {l : List Int} {i : Nat} (h : i < l.length) : l[i]? = some (l.getD i 0) := by rw [List.getD_eq_getElem?_getD, List.getElem?_eq_getElem h]; rfl
theorem getD_of {l : List Int} {i : Nat} {z : Int} (h : l[i]? = some z) : l.getD i 0 = z := by rw [List.getD_eq_getElem?_getD, h]; rfl
theorem dvd_step {p ab U d : Int} (h : p ∣ ab - U) : p ∣ ab * d % p - U * d := by
  obtain ⟨u, hu⟩ := h
  have h4 := Int.mul_ediv_add_emod (ab * d) p
  refine ⟨u * d - ab * d / p, ?_⟩
  have e : ab = U + p * u := by omega
  grind
theorem TabAt.get {K : PySem.W.Frag} {H : Hp} {a : Addr} {t : List (List Int)} {as : List Addr} (h : as.length = t.length) (h3 : ∀ (i : Nat) r b, t[i]? = some r → as[i]? = some b → SqT K H b (r.map V.int)) {i : Nat} (hi : i < t.length) : ∃ r b, t[i]? = some r ∧ as[i]? = some b ∧ SqT K H b (r.map V.int) :=
  ⟨_, _, List.getElem?_eq_getElem hi, List.getElem?_eq_getElem (by omega), h3 i _ _ (List.getElem?_eq_getElem hi) (List.getElem?_eq_getElem (by omega))⟩
end Br

/-! ### match over tuples that begin with a word -/
namespace Br
open PySem PySem.Spec PyProof.Rows L2
/-- the values that captures bind, by name -/
def capB : List Pattern → List Value → List (Str × Value)
  | .MatchAs none (some x) _ :: ps, u :: us => (x, u) :: capB ps us
  | .MatchAs none none _ :: ps, _ :: us => capB ps us
  | _, _ => []
def isCaps : List Pattern → Bool
  | [] => true
  | .MatchAs none _ _ :: ps => isCaps ps
  | _ => false
/-- the slots behind captures -/
def bindS : List (Option Nat) → List V → L2.St → L2.St
  | some i :: is, v :: vs, σ => bindS is vs (σ.set i (some v))
  | none :: is, _ :: vs, σ => bindS is vs σ
  | _, _, σ => σ
theorem each_caps {M : Model} {A : Around} {E : Value → Shared → Prop} {s : Shared} {env : Env} : ∀ {ps : List Pattern} {us : List Value} {Q : Option (List (Str × Value)) → Shared → Prop}, isCaps ps = true → us.length = ps.length → Q (some (capB ps us)) s → wpAny M A (matchEach ps env us) Q E s
  | [], us, Q, _, _, h => by
    have e : capB [] us = [] := by cases us <;> rfl
    rw [e] at h
    exact wpAny_matchEach_nil h
  | .MatchAs none nm pos :: ps, u :: us, Q, hc, hl, h => by
    refine wpAny_matchEach_cons (wpAny_matchPattern_Capture (each_caps (ps := ps) hc (by simpa using hl) ?_)) rfl
    cases nm with
    | none => exact h
    | some x => exact h
  | .MatchAs none nm pos :: ps, [], Q, hc, hl, h => by simp at hl
  | .MatchAs (some p) nm pos :: ps, us, Q, hc, hl, h => by simp [isCaps] at hc
  | .MatchValue .. :: ps, us, Q, hc, hl, h => by simp [isCaps] at hc
  | .MatchSingleton .. :: ps, us, Q, hc, hl, h => by simp [isCaps] at hc
  | .MatchSequence .. :: ps, us, Q, hc, hl, h => by simp [isCaps] at hc
  | .MatchMapping .. :: ps, us, Q, hc, hl, h => by simp [isCaps] at hc
  | .MatchClass .. :: ps, us, Q, hc, hl, h => by simp [isCaps] at hc
  | .MatchStar .. :: ps, us, Q, hc, hl, h => by simp [isCaps] at hc
  | .MatchOr .. :: ps, us, Q, hc, hl, h => by simp [isCaps] at hc
/-- captures into slots -/
structure PCap (X : Cx) (ps : List Pattern) (is : List (Option Nat)) : Prop where
  caps : isCaps ps = true
  run : ∀ (pins : List (Addr × Obj)) (s : Shared) (σ : L2.St) (H : Hp) (vs : List V) (us : List Value), Inv X pins σ H s → Vals vs us → us.length = ps.length →
    wpAny (model X.prog X.w) X.A (assignInOrder ((capB ps us).map fun (n, _) => bindName X.env n) ((capB ps us).map (·.2))) (fun _ s' => Inv X pins (bindS is vs σ) H s') X.xe s
section
variable {X : Cx}
theorem pcap_nil : PCap X [] [] := ⟨rfl, fun pins s σ H vs us I r hl => by
  have e : us = [] := List.length_eq_zero_iff.mp hl
  subst e
  cases r
  exact wpAny_assignInOrder_none I⟩
theorem pcap_name (i : Nat) {x : Str} {pos : Pos} {ps : List Pattern} {is : List (Option Nat)} (hN : X.N.Nodup) (hi : X.N[i]? = some x) (hx : Loc X.env.scope x) (h : PCap X ps is) (hf : X.fn x = true ∨ X.env.scope.names.lookup x = some .local := by first | exact .inl rfl | exact .inr rfl) :
    PCap X (.MatchAs none (some x) pos :: ps) (some i :: is) := ⟨h.caps, fun pins s σ H vs us I r hl => by
  cases r with
  | nil => simp at hl
  | cons rv rr =>
    refine wpAny_assignInOrder_more (wpAny_bindName (store_ok I hN hi hx rv (fun s' I' => ?_) hf))
    exact h.run pins s' _ H _ _ I' rr (by simpa using hl)⟩
theorem pcap_wild {pos : Pos} {ps : List Pattern} {is : List (Option Nat)} (h : PCap X ps is) : PCap X (.MatchAs none none pos :: ps) (none :: is) := ⟨h.caps, fun pins s σ H vs us I r hl => by
  cases r with
  | nil => simp at hl
  | cons rv rr => exact h.run pins s _ H _ _ I rr (by simpa using hl)⟩
/-- the cases of a match, asked of a value -/
structure PCs (X : Cx) (cs : List MatchCase) (t : V → TS) : Prop where
  run : ∀ (first : Bool) (pins : List (Addr × Obj)) (s : Shared) (σ : L2.St) (H : Hp) (D : Ends) (v : V) (u : Value), Inv X pins σ H s → RelV v u → t v D σ H → wpAny (model X.prog X.w) X.A (matchCases cs X.env u first) (SP X pins D) X.xe s
def tMatch (te : TE) (t : V → TS) : TS := fun D σ H => te σ H fun v H1 => t v D σ H1
theorem ps_match {e : Expr} {te : TE} {cs : List MatchCase} {t : V → TS} {pos : Pos} (he : PE X e te) (hc : PCs X cs t) : PS X (.Match e cs pos) (tMatch te t) :=
  ⟨fun pins s σ H D I h => wpAny_Match (thn (he.run pins s σ H _ I h) fun u s1 ⟨v, H1, I1, r, q⟩ => hc.run true pins s1 σ H1 D v u I1 r q)⟩
def tNoCase : V → TS := fun _ D σ H => D.nx σ H
theorem pcs_nil : PCs X [] tNoCase := ⟨fun _ _ _ σ H _ _ _ I _ h => wpAny_matchCases_nil ⟨σ, H, I, h⟩⟩
def tElse (t : TS) : V → TS := fun _ => t
theorem pcs_else {pos : Pos} {body : List Stmt} {rest : List MatchCase} {t : TS} (hb : PSs X body t) : PCs X (⟨.MatchAs none none pos, none, body⟩ :: rest) (tElse t) :=
  ⟨fun _ pins s σ H D v u I r h => wpAny_matchCases_cons (wpAny_matchPattern_Capture (wpAny_assignInOrder_none (hb.run pins s σ H D I h)))⟩
/-- a tuple of n parts that begins with the word -/
def tSeqW (K : PySem.W.Frag) (r : R2) (n : Nat) (word : Str) (is : List (Option Nat)) (body : TS) (rest : V → TS) : V → TS := fun v D σ H => ∃ (a : Addr) (xs : List V), v = .ref a ∧ SqT K H a xs ∧
  ((xs.length ≠ n ∧ rest v D σ H) ∨ ∃ y ys, xs = y :: ys ∧ xs.length = n ∧ r y (.str word) H fun z H1 => ∃ k, z = .bl k ∧ if k = true then body D (bindS is ys σ) H1 else rest v D σ H1)
theorem pcs_seq {r : R2} {n : Nat} {word : Str} {j : Nat} {p1 p2 p3 : Pos} {ps : List Pattern} {is : List (Option Nat)} {body : List Stmt} {rest : List MatchCase} {tb : TS} {tr : V → TS} (hc : X.calm = true) (ho : OpR X (compareOp .Eq) r) (hp : PCap X ps is) (hb : PSs X body tb) (hr : PCs X rest tr) (hn : ps.length + 1 = n := by rfl)
    (hs : (Pattern.MatchValue (.Constant (.str word) j p1) p2 :: ps).findIdx? (·.isStar) = none := by rfl) (hw : ((Pattern.MatchValue (.Constant (.str word) j p1) p2 :: ps).all fun p => p.isWildcard || (p.isStar && p.names.isEmpty)) = false := by rfl) :
    PCs X (⟨.MatchSequence (.MatchValue (.Constant (.str word) j p1) p2 :: ps) p3, none, body⟩ :: rest) (tSeqW X.K r n word is tb tr) := by
  refine ⟨fun first pins s σ H D v u I rv h => ?_⟩
  obtain ⟨a, xs, rfl, hx, h⟩ := h
  cases (show u = Value.ref a from rv)
  obtain ⟨its, ri, ht, hz⟩ := I.tuple hx
  have hl := ri.length
  have hfit : ((its.toArray.size : Nat) : Int) < 2 ^ 63 := by
    have h1 : its.length ≤ sizeLine := by rw [← hl]; exact hz
    have h2 : sizeLine < 2 ^ 63 := by decide
    have h3 : its.toArray.size < 2 ^ 63 := Nat.lt_of_le_of_lt (by simpa using h1) h2
    omega
  rcases h with ⟨hne, q⟩ | ⟨y, ys, rfl, hxl, q⟩
  · refine wpAny_matchCases_cons (matchSeq_tuple_miss ht hfit (by simp; omega) ?_ hs hw)
    exact hr.run false pins _ σ H D (.ref a) _ (I.tok _) rfl q
  · cases ri with
    | cons ry rys =>
      rename_i uy uys
      have hly := rys.length
      have sz : (uy :: uys).toArray.size = ps.length + 1 := by simp at hxl ⊢; omega
      refine wpAny_matchCases_cons (matchSeq_tuple_hit ht hfit (by simpa using sz) ?_ hs hw)
      have e : (Pattern.MatchValue (.Constant (.str word) j p1) p2 :: ps).length = (uy :: uys).toArray.size := sz.symm
      rw [e]
      refine unpackItems_tuple (I.ok.hd hc) ht fun h' hk => ?_
      have I2 : Inv X pins σ H { s with heap := h', toks := s.toks + 1 + 1 } := I.kept fun b o e => hk b o (Nat.ne_of_lt (Heap.lt_size e)) e
      refine wpAny_matchEach_cons (wpAny_matchPattern_Value ?_) rfl
      refine Calls.Constant_str ?_
      refine thn (ho pins _ σ H y (.str word) uy _ _ (I2.tok _) ry ⟨_, rfl⟩ q) fun c s3 ⟨z, H3, I3, rz, k, ez, q3⟩ => ?_
      subst ez
      cases rz
      refine wpAny_truthy_bool ?_
      cases k with
      | false =>
        rw [if_neg Bool.false_ne_true] at q3 ⊢
        exact hr.run false pins s3 σ H3 D (.ref a) _ I3 rfl q3
      | true =>
        rw [if_pos rfl] at q3 ⊢
        refine each_caps hp.caps (by simp at sz; exact sz) ?_
        refine thn (hp.run pins s3 σ H3 ys uys I3 rys (by simp at sz; exact sz)) fun _ s4 I4 => ?_
        exact hb.run pins s4 _ H3 D I4 q3
end
/-! ### steps of the reading -/
section
variable {σ : L2.St} {H : Hp} {D : Ends} {K : PySem.W.Frag} {v : V} {te : TE} {t : V → TS}
theorem x_match (h : te σ H fun v H1 => t v D σ H1) : tMatch te t D σ H := h
theorem x_else {t : TS} (h : t D σ H) : tElse t v D σ H := h
theorem x_noCase (h : D.nx σ H) : tNoCase v D σ H := h
theorem x_caseNo {r : R2} {n : Nat} {word : Str} {is : List (Option Nat)} {body : TS} {a : Addr} {xs : List V} (ha : SqT K H a xs) (hl : xs.length ≠ n) (h : t (.ref a) D σ H) : tSeqW K r n word is body t (.ref a) D σ H :=
  ⟨a, xs, rfl, ha, .inl ⟨hl, h⟩⟩
theorem x_caseW {n : Nat} {word w : Str} {is : List (Option Nat)} {body : TS} {a : Addr} {ys : List V} (ha : SqT K H a (.str w :: ys)) (hl : ys.length + 1 = n) (hw : w ≠ word) (h : t (.ref a) D σ H) : tSeqW K rEq n word is body t (.ref a) D σ H :=
  ⟨a, _, rfl, ha, .inr ⟨_, ys, rfl, hl, rfl, false, by rw [decide_eq_false (fun e => hw (V.str.inj e))], iteF h⟩⟩
theorem x_caseY {n : Nat} {word : Str} {is : List (Option Nat)} {body : TS} {a : Addr} {ys : List V} (ha : SqT K H a (.str word :: ys)) (hl : ys.length + 1 = n) (h : body D (bindS is ys σ) H) : tSeqW K rEq n word is body t (.ref a) D σ H :=
  ⟨a, _, rfl, ha, .inr ⟨_, ys, rfl, hl, rfl, true, by rw [decide_eq_true rfl], iteT h⟩⟩
end
end Br

/-! ### a case of a word, something, a whole number, something -/
namespace Br
open PySem PySem.Spec PyProof.Rows L2
section
variable {X : Cx}
def tSeqL (K : PySem.W.Frag) (r : R2) (word : Str) (lit : Int) (body : TS) (rest : V → TS) : V → TS := fun v D σ H => ∃ (a : Addr) (xs : List V), v = .ref a ∧ SqT K H a xs ∧
  ((xs.length ≠ 4 ∧ rest v D σ H) ∨ ∃ y y1 y2 y3, xs = [y, y1, y2, y3] ∧ r y (.str word) H fun z H1 => ∃ k, z = .bl k ∧ if k = true then r y2 (.int lit) H1 (fun z2 H2 => ∃ k2, z2 = .bl k2 ∧ if k2 = true then body D σ H2 else rest v D σ H2) else rest v D σ H1)
theorem pcs_lit {r : R2} {word : Str} {lit : Int} {j j2 : Nat} {p1 p2 p3 p4 p5 p6 p7 : Pos} {body : List Stmt} {rest : List MatchCase} {tb : TS} {tr : V → TS} (hc : X.calm = true) (ho : OpR X (compareOp .Eq) r) (hb : PSs X body tb) (hr : PCs X rest tr) :
    PCs X (⟨.MatchSequence [.MatchValue (.Constant (.str word) j p1) p2, .MatchAs none none p4, .MatchValue (.Constant (.int lit) j2 p5) p6, .MatchAs none none p7] p3, none, body⟩ :: rest) (tSeqL X.K r word lit tb tr) := by
  refine ⟨fun first pins s σ H D v u I rv h => ?_⟩
  obtain ⟨a, xs, rfl, hx, h⟩ := h
  cases (show u = Value.ref a from rv)
  obtain ⟨its, ri, ht, hz⟩ := I.tuple hx
  have hl := ri.length
  have hfit : ((its.toArray.size : Nat) : Int) < 2 ^ 63 := by
    have h1 : its.length ≤ sizeLine := by rw [← hl]; exact hz
    have h2 : sizeLine < 2 ^ 63 := by decide
    have h3 : its.toArray.size < 2 ^ 63 := Nat.lt_of_le_of_lt (by simpa using h1) h2
    omega
  rcases h with ⟨hne, q⟩ | ⟨y, y1, y2, y3, rfl, q⟩
  · refine wpAny_matchCases_cons (matchSeq_tuple_miss ht hfit (by simp; omega) ?_ (by rfl) (by rfl))
    exact hr.run false pins _ σ H D (.ref a) _ (I.tok _) rfl q
  · cases ri with
    | cons ry rys =>
    cases rys with
    | cons ry1 rys =>
    cases rys with
    | cons ry2 rys =>
    cases rys with
    | cons ry3 rys =>
    cases rys with
    | nil =>
      rename_i uy uy1 uy2 uy3
      refine wpAny_matchCases_cons (matchSeq_tuple_hit ht hfit (by simp) ?_ (by rfl) (by rfl))
      have e : ([Pattern.MatchValue (.Constant (.str word) j p1) p2, .MatchAs none none p4, .MatchValue (.Constant (.int lit) j2 p5) p6, .MatchAs none none p7] : List Pattern).length = [uy, uy1, uy2, uy3].toArray.size := rfl
      rw [e]
      refine unpackItems_tuple (I.ok.hd hc) ht fun h' hk => ?_
      have I2 : Inv X pins σ H { s with heap := h', toks := s.toks + 1 + 1 } := I.kept fun b o e => hk b o (Nat.ne_of_lt (Heap.lt_size e)) e
      refine wpAny_matchEach_cons (wpAny_matchPattern_Value ?_) rfl
      refine Calls.Constant_str ?_
      refine thn (ho pins _ σ H y (.str word) uy _ _ (I2.tok _) ry ⟨_, rfl⟩ q) fun c s3 ⟨z, H3, I3, rz, k, ez, q3⟩ => ?_
      subst ez
      cases rz
      refine wpAny_truthy_bool ?_
      cases k with
      | false =>
        rw [if_neg Bool.false_ne_true] at q3 ⊢
        exact hr.run false pins s3 σ H3 D (.ref a) _ I3 rfl q3
      | true =>
        rw [if_pos rfl] at q3 ⊢
        refine wpAny_matchEach_cons (wpAny_matchPattern_Capture ?_) rfl
        refine wpAny_matchEach_cons (wpAny_matchPattern_Value ?_) rfl
        refine thn ((pe_int (X := X)).run pins s3 σ H3 (fun v H => v = .int lit ∧ H3 = H) I3 ⟨rfl, rfl⟩) fun x s4 ⟨v4, H4, I4, r4, e4, e5⟩ => ?_
        subst e4 e5
        refine thn (ho pins _ σ H3 y2 (.int lit) uy2 x _ I4 ry2 r4 q3) fun c s5 ⟨z, H5, I5, rz, k2, ez, q5⟩ => ?_
        subst ez
        cases rz
        refine wpAny_truthy_bool ?_
        cases k2 with
        | false =>
          rw [if_neg Bool.false_ne_true] at q5 ⊢
          exact hr.run false pins s5 σ H5 D (.ref a) _ I5 rfl q5
        | true =>
          rw [if_pos rfl] at q5 ⊢
          refine wpAny_matchEach_cons (wpAny_matchPattern_Capture ?_) rfl
          refine wpAny_matchEach_nil ?_
          refine wpAny_assignInOrder_none ?_
          exact hb.run pins s5 _ H5 D I5 q5
end
section
variable {σ : L2.St} {H : Hp} {D : Ends} {K : PySem.W.Frag} {t : V → TS}
theorem x_litNo {r : R2} {word : Str} {lit : Int} {body : TS} {a : Addr} {xs : List V} (ha : SqT K H a xs) (hl : xs.length ≠ 4) (h : t (.ref a) D σ H) : tSeqL K r word lit body t (.ref a) D σ H :=
  ⟨a, xs, rfl, ha, .inl ⟨hl, h⟩⟩
theorem x_litW {word w : Str} {lit : Int} {body : TS} {a : Addr} {y1 y2 y3 : V} (ha : SqT K H a [.str w, y1, y2, y3]) (hw : w ≠ word) (h : t (.ref a) D σ H) : tSeqL K rEq word lit body t (.ref a) D σ H :=
  ⟨a, _, rfl, ha, .inr ⟨_, y1, y2, y3, rfl, rfl, false, by rw [decide_eq_false (fun e => hw (V.str.inj e))], iteF h⟩⟩
theorem x_litI {word : Str} {lit i : Int} {body : TS} {a : Addr} {y1 y3 : V} (ha : SqT K H a [.str word, y1, .int i, y3]) (h1 : i = lit → body D σ H) (h2 : i ≠ lit → t (.ref a) D σ H) : tSeqL K rEq word lit body t (.ref a) D σ H := by
  refine ⟨a, _, rfl, ha, .inr ⟨_, y1, .int i, y3, rfl, rfl, true, by rw [decide_eq_true rfl], iteT ?_⟩⟩
  refine x_EqI ⟨_, rfl, ?_⟩
  by_cases e : i = lit
  · rw [decide_eq_true e]
    exact iteT (h1 e)
  · rw [decide_eq_false e]
    exact iteF (h2 e)
end
end Br

/-! ### sorted(set(xs)), xs a short list of areI -/
namespace Br
open PySem PySem.Spec PyProof.Rows L2
/-- an empty set as set() makes it -/
abbrev emptyS (w : World) : Obj := { cls := .type "set", dict := none, data := .set #[] 0 (.fresh 0 0 (!w.params.followText "set-order")) }
section
variable {P : Program} {w : World} {A : Around} {E : Value → Shared → Prop} {s : Shared}
set_option maxRecDepth 100000 in
set_option maxHeartbeats 3200000 in
theorem set_of_list {p : Addr} {us : Array Value} (zs : List Int) {Q : Value → Shared → Prop} (calm : A.handled = none) (isL : s.heap.IsList p us) (areI : IntsAre us.toList zs) (small : zs.length + 1 < scanBound)
    (fin : ∀ (g : Heap) (tk c : Nat), SetR w g s.heap.objs.size (fun j => decide (j ∈ zs)) c → c ≤ zs.length → (∀ b o, s.heap.get? b = some o → g.get? b = some o) → Q (.ref s.heap.objs.size) { s with heap := g, toks := tk }) :
    wpAny (model P w) A (call (.type "set") [.ref p]) Q E s := by
  have size : us.size = zs.length := (Array.length_toList (xs := us)).symm.trans areI.length
  obtain ⟨cm, tm, mroS⟩ := F.called_set.mro
  have madeS := F.called_set.made
  have subS := F.called_set.sub
  refine wpAny_call (codeAny_of_tree ?_)
  show wpAny (model P w) A.in1 (callAny (.type "set") _) _ _ s
  refine wpAny_pure (And.intro (Code.quiet_builtin _ (by decide +kernel)) (codeAny_builtin F.entry_type_call ?_))
  rw [Around.under_plain (weight_type_call_type "set" [.ref p] []) rfl]
  have nt := F.called_set.notType
  have cc := F.called_set.canCreate
  have tc := F.typeCall_set_1 (.ref p)
  repeat (any_goals first | assumption | wp_step)
  refine codeAny_mono (code_set_led1 (.ref p) (E := E) (Q₁ := fun obj t => obj = .ref s.heap.objs.size ∧ t = { s with heap := s.heap.push (emptyS w) }) ⟨rfl, rfl⟩) fun r t hr => ?_
  match r, hr with
  | .error e, hr => exact hr
  | .ok (.ret obj), ⟨e1, e2⟩ =>
    subst e1 e2
    have got : (s.heap.push (emptyS w)).get? s.heap.objs.size = some (emptyS w) := Heap.get?_push_size _ rfl
    have typ : Shared.TypeIs { s with heap := s.heap.push (emptyS w) } (.ref s.heap.objs.size) "set" := ⟨_, got, rfl⟩
    have il := F.called_set.init.lookup
    have ib := F.called_set.init.bind (.ref s.heap.objs.size)
    repeat (any_goals first | assumption | wp_step)
    refine codeAny_mono (codeAny_call_builtin (R := wants (fun r u => r = .none ∧ ∃ g tk c, u = { s with heap := g, toks := tk } ∧ SetR w g s.heap.objs.size (fun j => decide (j ∈ zs)) c ∧ c ≤ zs.length ∧ (∀ b o, s.heap.get? b = some o → g.get? b = some o)) E) F.called_set.init.plain F.entry_set_init (check_set_init_1 typ ?_)) fun r2 u hr2 => ?_
    · obtain ⟨⟨oc, od, oD, oS⟩, atP, hc, nl, hd⟩ := isL
      dsimp only at hc hd
      subst hc
      subst hd
      have atP2 : (s.heap.push (emptyS w)).get? p = some { cls := .type "list", dict := od, data := .seq us nl, slots := oS } := Heap.get?_push_of_some _ atP
      have s1 := F.sub_list_set
      have s2 := F.sub_list_frozenset
      have nd : (Value.type "list" == Value.type "dict") = false := by decide
      have isL2 : (s.heap.push (emptyS w)).IsList p us := ⟨_, atP2, rfl, nl, rfl⟩
      unfold Builtin.«set.__init__» noKeywords Builtin.Frozenset.updateFrom
      generalize hIt : pyIter = It
      wp_walk
      subst hIt
      refine wpAny_pyIter_list isL2 (wpAny_bind (wpAny_runValue ?_))
      have below : p < s.heap.objs.size := Heap.lt_size atP
      have calm3 : A.in1.in1.in1.handled = none := by simp [calm]
      have nz : (s.heap.push (emptyS w)).objs.size = s.heap.objs.size + 1 := Heap.size_push ..
      have apart : p ≠ (s.heap.push (emptyS w)).objs.size := by rw [nz]; exact Nat.ne_of_lt (Nat.lt_succ_of_lt below)
      have out : s.heap.objs.size ∉ [(s.heap.push (emptyS w)).objs.size, p] := fun hm => by
        rcases List.mem_cons.mp hm with h | h
        · rw [nz] at h
          exact absurd h (Nat.ne_of_lt (Nat.lt_succ_self _))
        · exact absurd (List.mem_singleton.mp h) (Nat.ne_of_gt below)
      have each : ∀ (i : Nat) (v : Value), us[i]? = some v → ∃ k t, zs[i]? = some k ∧ v = .int k t := fun i v hv => by
        have hi : i < zs.length := by have := (Array.getElem?_eq_some_iff.mp hv).1; omega
        obtain ⟨t, e⟩ := PyProof.Rows.IntsAre.int_at areI i v (by rw [Array.getElem?_toList]; exact hv)
        refine ⟨zs[i], t, List.getElem?_eq_getElem hi, ?_⟩
        rw [e, List.getD_eq_getElem?_getD, List.getElem?_eq_getElem hi]
        rfl
      refine set_update_ints ((Walks.list calm3 _ p apart us).toS) s.heap.objs.size out zs size small each (us.size - 0) 0 _ (by omega) (Nat.zero_le _) ⟨⟨_, Heap.get?_push_size _ rfl, rfl, rfl⟩, (isL2.push _)⟩ ⟨0, Nat.le_refl 0, setR_new_at (Heap.get?_push_of_some _ got)⟩ ?_
      rintro ⟨g, gg, dr, tk, os⟩ c mv hc hS
      obtain rfl : gg = s.gens := mv.gens
      obtain rfl : dr = s.drawn := mv.drawn
      obtain rfl : os = s.os := mv.os
      refine wpAny_pure ?_
      show wpAny (model P w) _ (ret Value.none) _ _ _
      refine wpAny_pure ⟨rfl, g, tk, c, rfl, hS, by omega, fun b o e => mv.heap b o (fun hm => ?_) (Heap.get?_push_of_some _ (Heap.get?_push_of_some _ e))⟩
      have bl : b < s.heap.objs.size := Heap.lt_size e
      rcases List.mem_cons.mp hm with h | h
      · exact absurd h (Nat.ne_of_lt bl)
      · have h2 := List.mem_singleton.mp h
        rw [nz] at h2
        exact absurd h2 (Nat.ne_of_lt (Nat.lt_succ_of_lt bl))
    · match r2, hr2 with
      | .error e, hr2 => exact hr2
      | .ok (.ret r), ⟨e1, g, tk, c, e2, hS, hc, keep⟩ =>
        subst e1 e2
        repeat (any_goals first | assumption | wp_step)
        exact fin _ _ _ hS hc keep
end
/-- sorted(set(xs)): each once, ascending, a new list -/
def tSortSet (K : PySem.W.Frag) (ta : TE) : TE := fun σ H Q => ta σ H fun x H1 => ∃ (l : Addr) (ns : List Int), x = V.ref l ∧ SqL K H1 l (ns.map V.int) ∧ ns.length < 60 ∧
  ∀ (zs : List Int) (p : Addr), zs.Pairwise (· < ·) → (∀ k, k ∈ zs ↔ k ∈ ns) → H1 p = none → Q (.ref p) (L2.upd H1 p (.lst (zs.map V.int)))
theorem pe_sortSet {X : Cx} {a : Expr} {ta : TE} {p p2 q pos : Pos} (hg : Gl X "sorted") (hm : X.mg "sorted" = none) (hg2 : Gl X "set") (hm2 : X.mg "set" = none) (ha : PE X a ta) (hc : X.calm = true := by rfl)
    (na : starEach [a] X.env = (false, eval a X.env) :: starEach [] X.env := by rfl) : PE X (.Call (.Name "sorted" p) [.Call (.Name "set" p2) [a] [] q] [] pos) (tSortSet X.K ta) := by
  refine ⟨fun pins s σ H Q I h => ?_⟩
  refine Call_ (ld_blt I hg hm (show bootBuiltins "sorted" = some (.builtin "sorted") by decide +kernel) ?_)
  refine PyProof.Rows.callWith_builtin1 (PyProof.Rows.args_cons ?_ rfl) rfl rfl
  refine Call_ (ld_blt I hg2 hm2 PyProof.Rows.boot_set ?_)
  refine PyProof.Rows.callWith_type1 (PyProof.Rows.args_cons (thn (ha.run pins s σ H _ I h) fun v s1 ⟨x, H1, I1, r1, q1⟩ => PyProof.Rows.args_nil ?_) na) na rfl
  obtain ⟨l, ns, rfl, hq, hl, q1⟩ := q1
  cases r1
  obtain ⟨its, r, pl, hz⟩ := I1.list hq
  refine set_of_list ns (I1.ok.hd hc) pl.isList (by simpa using r.ints) (by unfold scanBound; omega) fun g tk c hS hc9 keep => ?_
  refine PyProof.Rows.args_nil ?_
  have I2 : Inv X pins σ H1 { s1 with heap := g, toks := tk } := I1.kept keep
  refine sorted_set hS (I2.ok.hd hc) (by omega) fun s' b out n zs k gg o hb hgt hi hs hmem hlen => ?_
  have free : H1 b = none := I2.hok.fresh hb
  have hlen2 : (zs.map V.int).length ≤ sizeLine := by rw [List.length_map, hlen]; exact Nat.le_of_lt (Br.lt_line (by omega))
  have J : Inv X pins σ (L2.upd H1 b (.lst (zs.map V.int))) { { s1 with heap := g, toks := tk } with heap := s'.heap, gens := s'.gens, drawn := s'.drawn, toks := s'.toks } :=
    I2.call (ch := []) (Un.laid k hb free) (I2.hok.laid k hb ⟨hlen2, out.toList, n, vals_of_ints hi, hgt⟩) (by rw [gg]; exact I2.bare) (fun _ z => nomatch z)
  have e : s' = { { s1 with heap := g, toks := tk } with heap := s'.heap, gens := s'.gens, drawn := s'.drawn, toks := s'.toks } := by
    cases s'
    cases o
    rfl
  rw [e]
  exact ⟨.ref b, _, J, rfl, q1 zs b hs (fun k => by rw [hmem k]; exact decide_eq_true_iff) free⟩
end Br

/-! ### what `_law_equal` finds alike -/
namespace Br
open PySem PySem.Spec PyProof.Rows L2
/-- alike up to a depth -/
def Eqv (K : PySem.W.Frag) (H : Hp) : Nat → V → V → Prop
  | 0, _, _ => False
  | n + 1, v, u => (∃ i : Int, v = .int i ∧ u = .int i) ∨ (∃ x : Str, v = .str x ∧ u = .str x) ∨ (∃ b : Bool, v = .bl b ∧ u = .bl b) ∨ (v = .non ∧ u = .non) ∨
      (∃ (a b : Addr) (xs ys : List V), v = .ref a ∧ u = .ref b ∧ ((H a = some (.lst xs) ∧ H b = some (.lst ys)) ∨ (H a = some (.tup xs) ∧ H b = some (.tup ys))) ∧ xs.length = ys.length ∧ ys.length ≤ 100000 ∧ ∀ (i : Nat) x y, xs[i]? = some x → ys[i]? = some y → Eqv K H n x y)
theorem Eqv.mono {K : PySem.W.Frag} {H : Hp} : ∀ {n m : Nat} {v u : V}, n ≤ m → Eqv K H n v u → Eqv K H m v u
  | 0, _, _, _, _, h => h.elim
  | n + 1, m, v, u, hm, h => by
    obtain ⟨k, rfl⟩ : ∃ k, m = k + 1 := ⟨m - 1, by omega⟩
    rcases h with h | h | h | h | ⟨a, b, xs, ys, e1, e2, e3, e4, e5, e6⟩
    · exact .inl h
    · exact .inr (.inl h)
    · exact .inr (.inr (.inl h))
    · exact .inr (.inr (.inr (.inl h)))
    · exact .inr (.inr (.inr (.inr ⟨a, b, xs, ys, e1, e2, e3, e4, e5, fun i x y h1 h2 => Eqv.mono (by omega) (e6 i x y h1 h2)⟩)))
theorem Eqv.int {K : PySem.W.Frag} {H : Hp} {n : Nat} {i : Int} : Eqv K H (n + 1) (.int i) (.int i) := .inl ⟨i, rfl, rfl⟩
theorem Eqv.str {K : PySem.W.Frag} {H : Hp} {n : Nat} {x : Str} : Eqv K H (n + 1) (.str x) (.str x) := .inr (.inl ⟨x, rfl, rfl⟩)
theorem Eqv.bl {K : PySem.W.Frag} {H : Hp} {n : Nat} {b : Bool} : Eqv K H (n + 1) (.bl b) (.bl b) := .inr (.inr (.inl ⟨b, rfl, rfl⟩))
theorem Eqv.non {K : PySem.W.Frag} {H : Hp} {n : Nat} : Eqv K H (n + 1) .non .non := .inr (.inr (.inr (.inl ⟨rfl, rfl⟩)))
theorem Eqv.tup {K : PySem.W.Frag} {H : Hp} {n : Nat} {a b : Addr} {xs ys : List V} (h1 : H a = some (.tup xs)) (h2 : H b = some (.tup ys)) (hl : xs.length = ys.length) (hz : ys.length ≤ 100000) (h : ∀ (i : Nat) x y, xs[i]? = some x → ys[i]? = some y → Eqv K H n x y) : Eqv K H (n + 1) (.ref a) (.ref b) :=
  .inr (.inr (.inr (.inr ⟨a, b, xs, ys, rfl, rfl, .inr ⟨h1, h2⟩, hl, hz, h⟩)))
theorem Eqv.lst {K : PySem.W.Frag} {H : Hp} {n : Nat} {a b : Addr} {xs ys : List V} (h1 : H a = some (.lst xs)) (h2 : H b = some (.lst ys)) (hl : xs.length = ys.length) (hz : ys.length ≤ 100000) (h : ∀ (i : Nat) x y, xs[i]? = some x → ys[i]? = some y → Eqv K H n x y) : Eqv K H (n + 1) (.ref a) (.ref b) :=
  .inr (.inr (.inr (.inr ⟨a, b, xs, ys, rfl, rfl, .inl ⟨h1, h2⟩, hl, hz, h⟩)))
theorem Eqv.ints {K : PySem.W.Frag} {H : Hp} {n : Nat} {a b : Addr} {xs : List Int} (h1 : H a = some (.lst (xs.map V.int))) (h2 : H b = some (.lst (xs.map V.int))) (hz : xs.length ≤ 100000) : Eqv K H (n + 2) (.ref a) (.ref b) :=
  Eqv.lst h1 h2 rfl (by rw [List.length_map]; exact hz) fun i x y e1 e2 => by
    rw [e1] at e2
    cases e2
    obtain ⟨z, _, rfl⟩ := map_get e1
    exact .int
/-- a tuple of few parts is alike to itself -/
theorem Eqv.self2 {K : PySem.W.Frag} {H : Hp} {n : Nat} {a : Addr} {xs : List V} (h1 : H a = some (.tup xs)) (hz : xs.length ≤ 100000) (h : ∀ x, x ∈ xs → Eqv K H n x x) : Eqv K H (n + 1) (.ref a) (.ref a) :=
  Eqv.tup h1 h1 rfl hz fun i x y e1 e2 => by
    rw [e1] at e2
    cases e2
    exact h x (List.mem_of_getElem? e1)
end Br

/-! ### steps: what they are, where they stand, what they do -/
namespace Br
open PySem PySem.Spec PyProof.Rows L2 Br.F
inductive Fac where
  | cell (i : Nat)
  | inp (i : Nat)
inductive Stp where
  | add (t : Nat) (c : Int) (fs : List Fac)
  | scale (t : Nat) (u : Int)
  | swap (a b : Nat)
  | tab (t : Nat) (s : Int) (tb : List (List Int)) (a b : Nat)
def FacOk (cells inputs t : Nat) : Fac → Prop
  | .cell i => i < cells ∧ i ≠ t
  | .inp i => i < inputs
def StpOk (m cells inputs : Nat) : Stp → Prop
  | .add t c fs => t < cells ∧ 0 ≤ c ∧ c < m ∧ fs.length ≤ 3 ∧ ∀ f, f ∈ fs → FacOk cells inputs t f
  | .scale t u => t < cells ∧ 0 ≤ u ∧ u < m ∧ Int.gcd u m = 1
  | .swap a b => a < cells ∧ b < cells ∧ a ≠ b
  | .tab t s tb a b => t < cells ∧ a < cells ∧ b < cells ∧ t ≠ a ∧ t ≠ b ∧ a ≠ b ∧ (s = 1 ∨ s = m - 1) ∧ IsTab m tb ∧ tb.length ≤ 1000 ∧ IsPrime m
/-- where they stand: tuples alone -/
def FacAt (H : Hp) (a : Addr) : Fac → Prop
  | .cell i => H a = some (.tup [.str "cell", .int (i : Int)])
  | .inp i => H a = some (.tup [.str "input", .int (i : Int)])
def TbAt (H : Hp) (a : Addr) (t : List (List Int)) : Prop := ∃ as : List Addr, H a = some (.tup (as.map V.ref)) ∧ as.length = t.length ∧ ∀ (i : Nat) r b, t[i]? = some r → as[i]? = some b → H b = some (.tup (r.map V.int))
def StpAt (H : Hp) (a : Addr) : Stp → Prop
  | .add t c fs => ∃ (f : Addr) (as : List Addr), H a = some (.tup [.str "add", .int (t : Int), .int c, .ref f]) ∧ H f = some (.tup (as.map V.ref)) ∧ as.length = fs.length ∧ ∀ (i : Nat) x b, fs[i]? = some x → as[i]? = some b → FacAt H b x
  | .scale t u => H a = some (.tup [.str "scale", .int (t : Int), .int u])
  | .swap i j => H a = some (.tup [.str "swap", .int (i : Int), .int (j : Int)])
  | .tab t s tb i j => ∃ c : Addr, H a = some (.tup [.str "table", .int (t : Int), .int s, .ref c, .int (i : Int), .int (j : Int)]) ∧ TbAt H c tb
/-- every tuple stays -/
def Tups (H H' : Hp) : Prop := ∀ b xs, H b = some (.tup xs) → H' b = some (.tup xs)
theorem Tups.refl (H : Hp) : Tups H H := fun _ _ h => h
theorem Tups.trans {H H1 H2 : Hp} (a : Tups H H1) (b : Tups H1 H2) : Tups H H2 := fun c xs h => b c xs (a c xs h)
theorem Tups.same {H H' : Hp} (s : Same H H') : Tups H H' := fun b xs h => s b _ h
theorem Tups.put {H H' : Hp} {p : Addr} {o : HO} (s : Tups H H') (h : ∀ xs, H' p ≠ some (.tup xs)) : Tups H (upd H' p o) := fun b xs e => by
  have e' := s b xs e
  rw [upd_ne (fun z => h xs (by rw [← z]; exact e'))]
  exact e'
theorem no_tup {H : Hp} {p : Addr} (h : H p = none) : ∀ xs, H p ≠ some (.tup xs) := fun xs e => by rw [h] at e; cases e
theorem no_tupL {H : Hp} {p : Addr} {ys : List V} (h : H p = some (.lst ys)) : ∀ xs, H p ≠ some (.tup xs) := fun xs e => by rw [h] at e; cases e
theorem Tups.keep {H H' : Hp} {d : Addr} {ys : List V} (k : Keep d H H') (h : H d = some (.lst ys)) : Tups H H' := fun b xs e => k b _ e (ne_of e h (by intro z; cases z))
theorem FacAt.tups {H H' : Hp} {a : Addr} {f : Fac} (h : FacAt H a f) (s : Tups H H') : FacAt H' a f := by
  cases f with
  | cell i => exact s _ _ h
  | inp i => exact s _ _ h
theorem TbAt.tups {H H' : Hp} {a : Addr} {t : List (List Int)} (h : TbAt H a t) (s : Tups H H') : TbAt H' a t := by
  obtain ⟨as, h1, h2, h3⟩ := h
  exact ⟨as, s _ _ h1, h2, fun i r b e1 e2 => s _ _ (h3 i r b e1 e2)⟩
theorem StpAt.tups {H H' : Hp} {a : Addr} {x : Stp} (h : StpAt H a x) (s : Tups H H') : StpAt H' a x := by
  cases x with
  | add t c fs =>
    obtain ⟨f, as, h1, h2, h3, h4⟩ := h
    exact ⟨f, as, s _ _ h1, s _ _ h2, h3, fun i y b e1 e2 => (h4 i y b e1 e2).tups s⟩
  | scale t u => exact s _ _ h
  | swap i j => exact s _ _ h
  | tab t g tb i j =>
    obtain ⟨c, h1, h2⟩ := h
    exact ⟨c, s _ _ h1, h2.tups s⟩
/-- many of them -/
def StpsAt (H : Hp) (as : List Addr) (ss : List Stp) : Prop := as.length = ss.length ∧ ∀ (i : Nat) x b, ss[i]? = some x → as[i]? = some b → StpAt H b x
theorem StpsAt.tups {H H' : Hp} {as : List Addr} {ss : List Stp} (h : StpsAt H as ss) (s : Tups H H') : StpsAt H' as ss := ⟨h.1, fun i x b e1 e2 => (h.2 i x b e1 e2).tups s⟩
theorem StpsAt.get {H : Hp} {as : List Addr} {ss : List Stp} (h : StpsAt H as ss) {i : Nat} {b : Addr} (e : as[i]? = some b) : ∃ x, ss[i]? = some x ∧ StpAt H b x := by
  have hl := (List.getElem?_eq_some_iff.mp e).1
  have hl2 : i < ss.length := by rw [← h.1]; exact hl
  exact ⟨_, List.getElem?_eq_getElem hl2, h.2 i _ b (List.getElem?_eq_getElem hl2) e⟩
theorem StpsAt.snoc {H : Hp} {as : List Addr} {ss : List Stp} {b : Addr} {x : Stp} (h : StpsAt H as ss) (hx : StpAt H b x) : StpsAt H (as ++ [b]) (ss ++ [x]) := by
  refine ⟨by rw [List.length_append, List.length_append, h.1]; rfl, fun i y c e1 e2 => ?_⟩
  rcases snoc_at rfl e1 with ⟨h1, e1⟩ | ⟨h1, rfl⟩
  · rcases snoc_at rfl e2 with ⟨h2, e2⟩ | ⟨h2, rfl⟩
    · exact h.2 i y c e1 e2
    · have := h.1; omega
  · rcases snoc_at rfl e2 with ⟨h2, e2⟩ | ⟨h2, rfl⟩
    · have := h.1; omega
    · exact hx
/-- numbers of a modulus, so many -/
structure Mem (m n : Nat) (xs : List Int) : Prop where
  len : xs.length = n
  rg : Rg 0 m xs
theorem Mem.get {m n : Nat} {xs : List Int} (h : Mem m n xs) {i : Nat} (hi : i < n) : ∃ z, xs[i]? = some z ∧ xs.getD i 0 = z ∧ 0 ≤ z ∧ z < m := by
  have hl : i < xs.length := by rw [h.len]; exact hi
  refine ⟨xs[i], List.getElem?_eq_getElem hl, ?_, (h.rg _ (List.getElem_mem hl)).1, (h.rg _ (List.getElem_mem hl)).2⟩
  rw [List.getD_eq_getElem?_getD, List.getElem?_eq_getElem hl]; rfl
theorem Mem.set {m n : Nat} {xs : List Int} (h : Mem m n xs) {i : Nat} {z : Int} (h0 : 0 ≤ z) (h1 : z < m) : Mem m n (xs.set i z) :=
  ⟨by rw [List.length_set, h.len], fun y hy => by
    rcases List.mem_or_eq_of_mem_set hy with h2 | h2
    · exact h.rg y h2
    · rw [h2]; exact ⟨h0, h1⟩⟩
def facV (mem inp : List Int) : Fac → Int
  | .cell i => mem.getD i 0
  | .inp i => inp.getD i 0
def prodV (mem inp : List Int) : List Fac → Int
  | [] => 1
  | f :: fs => facV mem inp f * prodV mem inp fs
/-- the value of the table's polynomial, written out -/
def ItpV (p : Nat) (t : List (List Int)) (x y : Int) : Int := S1 (fun i => BsV p t.length i x * S1 (fun j => BsV p t.length j y * (t.getD i []).getD j 0) t.length) t.length % p
theorem ItpV.ok {p : Nat} {t : List (List Int)} {x y : Int} (hp : IsPrime p) (hn : t.length ≤ p) : Itp p t x y (ItpV p t x y) :=
  ⟨fun i => BsV p t.length i x, fun j => BsV p t.length j y, fun i hi => BsV.ok hp hi hn, fun j hj => BsV.ok hp hj hn, rfl⟩
def stepF (m : Nat) (inp mem : List Int) : Stp → List Int
  | .add t c fs => mem.set t ((mem.getD t 0 + c * prodV mem inp fs) % m)
  | .scale t u => mem.set t (mem.getD t 0 * u % m)
  | .swap a b => (mem.set a (mem.getD b 0)).set b (mem.getD a 0)
  | .tab t s tb a b => mem.set t ((mem.getD t 0 + s * ItpV m tb (mem.getD a 0) (mem.getD b 0)) % m)
theorem stepF_mem {m cells : Nat} {inp mem : List Int} (hm : 1 ≤ m) (h : Mem m cells mem) : ∀ {s : Stp} {inputs : Nat}, StpOk m cells inputs s → Mem m cells (stepF m inp mem s)
  | .add t c fs, _, _ => h.set (Int.emod_nonneg _ (by omega)) (Int.emod_lt_of_pos _ (by omega))
  | .scale t u, _, _ => h.set (Int.emod_nonneg _ (by omega)) (Int.emod_lt_of_pos _ (by omega))
  | .swap a b, _, ok => by
    obtain ⟨z, _, e1, z0, z1⟩ := h.get ok.1
    obtain ⟨y, _, e2, y0, y1⟩ := h.get ok.2.1
    show Mem m cells ((mem.set a (mem.getD b 0)).set b (mem.getD a 0))
    rw [e1, e2]
    exact (h.set y0 y1).set z0 z1
  | .tab t s tb a b, _, _ => h.set (Int.emod_nonneg _ (by omega)) (Int.emod_lt_of_pos _ (by omega))
def runF (m : Nat) (inp : List Int) (ss : List Stp) (mem : List Int) : List Int := ss.foldl (fun mem s => stepF m inp mem s) mem
theorem runF_snoc {m : Nat} {inp : List Int} {ss : List Stp} {s : Stp} {mem : List Int} : runF m inp (ss ++ [s]) mem = stepF m inp (runF m inp ss mem) s := by
  unfold runF
  rw [List.foldl_append]
  rfl
theorem runF_mem {m cells inputs : Nat} {inp : List Int} (hm : 1 ≤ m) : ∀ {ss : List Stp} {mem : List Int}, Mem m cells mem → (∀ s, s ∈ ss → StpOk m cells inputs s) → Mem m cells (runF m inp ss mem)
  | [], _, h, _ => h
  | s :: ss, mem, h, hs => runF_mem (mem := stepF m inp mem s) hm (stepF_mem hm h (hs s List.mem_cons_self)) fun x hx => hs x (List.mem_cons_of_mem _ hx)
theorem take_snoc {α : Type} {ss : List α} {i : Nat} {s : α} (h : ss[i]? = some s) : ss.take (i + 1) = ss.take i ++ [s] := by rw [List.take_add_one, h]; rfl
theorem FacAt.eqv {K : PySem.W.Frag} {H : Hp} {a : Addr} {f : Fac} (h : FacAt H a f) : Eqv K H 2 (.ref a) (.ref a) := by
  cases f with
  | cell i =>
    exact Eqv.self2 h (Nat.le_of_ble_eq_true rfl) fun x hx => by
      have e : x = .str "cell" ∨ x = .int (i : Int) := by simpa using hx
      rcases e with rfl | rfl
      · exact .str
      · exact .int
  | inp i =>
    exact Eqv.self2 h (Nat.le_of_ble_eq_true rfl) fun x hx => by
      have e : x = .str "input" ∨ x = .int (i : Int) := by simpa using hx
      rcases e with rfl | rfl
      · exact .str
      · exact .int
theorem StpAt.eqv {K : PySem.W.Frag} {H : Hp} {a : Addr} {m cells inputs : Nat} {s : Stp} (ok : StpOk m cells inputs s) (h : StpAt H a s) : Eqv K H 4 (.ref a) (.ref a) := by
  cases s with
  | add t c fs =>
    obtain ⟨f, as, h1, h2, h3, h4⟩ := h
    have hf : Eqv K H 3 (.ref f) (.ref f) := Eqv.self2 h2 (by rw [List.length_map, h3]; have := ok.2.2.2.1; omega) fun x hx => by
      obtain ⟨b, hb, rfl⟩ := List.mem_map.mp hx
      obtain ⟨i, hi⟩ := List.mem_iff_getElem?.mp hb
      have hl := (List.getElem?_eq_some_iff.mp hi).1
      exact (h4 i _ b (List.getElem?_eq_getElem (by omega)) hi).eqv
    exact Eqv.self2 h1 (Nat.le_of_ble_eq_true rfl) fun x hx => by
      have e : x = .str "add" ∨ x = .int (t : Int) ∨ x = .int c ∨ x = .ref f := by simpa using hx
      rcases e with rfl | rfl | rfl | rfl
      · exact .str
      · exact .int
      · exact .int
      · exact hf
  | scale t u =>
    exact Eqv.self2 h (Nat.le_of_ble_eq_true rfl) fun x hx => by
      have e : x = .str "scale" ∨ x = .int (t : Int) ∨ x = .int u := by simpa using hx
      rcases e with rfl | rfl | rfl
      · exact .str
      · exact .int
      · exact .int
  | swap i j =>
    exact Eqv.self2 h (Nat.le_of_ble_eq_true rfl) fun x hx => by
      have e : x = .str "swap" ∨ x = .int (i : Int) ∨ x = .int (j : Int) := by simpa using hx
      rcases e with rfl | rfl | rfl
      · exact .str
      · exact .int
      · exact .int
  | tab t g tb i j =>
    obtain ⟨c, h1, as, h2, h3, h4⟩ := h
    have hlen : tb.length ≤ 1000 := ok.2.2.2.2.2.2.2.2.1
    have hI : IsTab m tb := ok.2.2.2.2.2.2.2.1
    have hc : Eqv K H 3 (.ref c) (.ref c) := Eqv.self2 h2 (by rw [List.length_map, h3]; omega) fun x hx => by
      obtain ⟨b, hb, rfl⟩ := List.mem_map.mp hx
      obtain ⟨i, hi⟩ := List.mem_iff_getElem?.mp hb
      have hl := (List.getElem?_eq_some_iff.mp hi).1
      have hl2 : i < tb.length := by omega
      obtain ⟨hr, _⟩ := hI.rows i _ (List.getElem?_eq_getElem hl2)
      exact Eqv.self2 (h4 i _ b (List.getElem?_eq_getElem hl2) hi) (by rw [List.length_map, hr]; omega) fun x hx => by
        obtain ⟨z, _, rfl⟩ := List.mem_map.mp hx
        exact .int
    exact Eqv.self2 h1 (Nat.le_of_ble_eq_true rfl) fun x hx => by
      have e : x = .str "table" ∨ x = .int (t : Int) ∨ x = .int g ∨ x = .ref c ∨ x = .int (i : Int) ∨ x = .int (j : Int) := by simpa using hx
      rcases e with rfl | rfl | rfl | rfl | rfl | rfl
      · exact .str
      · exact .int
      · exact .int
      · exact hc
      · exact .int
      · exact .int
end Br

/-! ### minus and len of an instance -/
namespace Br
open PySem PySem.Spec PyProof.Rows L2 PySem.Calls
section
variable {X : Cx} {CX : CXT} {k : Nat} {f C : Addr} {fd : FuncData} {ps : List Str} {sp : Sp} {ds : List Value} {dvs : List V} {E : XK}
def rNegM (C : Addr) (sp : Sp) (dvs : List V) (E : XK) : V → Hp → VK → Prop := fun x H Q => ∃ a dx fs, x = .ref a ∧ H a = some (.ins C dx fs) ∧ sp (x :: dvs) H Q E
theorem un_negM (hm : Meth X.K C "__neg__" f) (F : FnOk X.prog X.w X.K X.mg X.base CX k f fd ps sp) (hr : Room k X.A) (hb : Binds X.K fd ps ds) (hd : Vals dvs ds) (hx : Passes CX X E) :
    UnR X (unaryOp .USub) (rNegM C sp dvs E) := by
  intro pins s σ H x u Q I rx q
  obtain ⟨a, dx, fs, rfl, e, q⟩ := q
  obtain rfl : u = Value.ref a := rx
  obtain ⟨mA, O, _⟩ := ins_get I.hok e
  obtain ⟨od, J, hl⟩ := O.look
  unfold unaryOp
  refine wpAny_holding ?_
  exact wpAny_bind (PySem.W.special_fn I.kIn J hm.at_ (beq_iff_eq.mp hm.fn) (wpAny_mono (run_fn (us := [.ref a]) (vs := [.ref a]) F hr hb hd hx I (.cons rfl .nil) q) (fun _ _ z => wpAny_pure z) fun _ _ z => z))
theorem run_in1 {pins : List (Addr × Obj)} {σ : L2.St} {H : Hp} {s : Shared} {Q : VK} {us : List Value} {vs : List V} (F : FnOk X.prog X.w X.K X.mg X.base CX k f fd ps sp) (hr : Room (k + 1) X.A) (hb : Binds X.K fd ps ds) (hd : Vals dvs ds) (hx : Passes CX X E)
    (I : Inv X pins σ H s) (r : Vals vs us) (h : sp (vs ++ dvs) H Q E) : wpAny (model X.prog X.w) X.A.in1 (call (.ref f) us) (EP X pins σ Q) X.xe s := by
  have r2 : Vals (vs ++ dvs) (us ++ ds) := r.append hd
  have hl : (us ++ ds).length = ps.length := by rw [← r2.length]; exact F.len _ _ _ _ h
  refine wpAny_call (codeAny_mono (F.run X.A.in1 X.stack s H ⟨us, []⟩ (us ++ ds) (vs ++ dvs) Q E hr.in1 I.env0.in1 (hb s us I.kIn hl) r2 h) fun r s' hq => ?_)
  cases r with
  | error e => exact hx pins σ H s e s' I hq
  | ok fl =>
    cases fl with
    | ret u =>
      obtain ⟨v, H', I3, rv, q3⟩ := I.after hq
      exact ⟨v, H', I3, rv, q3⟩
    | next => exact False.elim hq
    | brk => exact False.elim hq
    | cont => exact False.elim hq
theorem pe_fldK {K2 : PySem.W.Frag} {e : Expr} {g : Str} {ta : TE} {pos : Pos} (hK : X.K = K2) (he : PE X e ta) (hb : attributeBase e g X.env (eval e X.env) = eval e X.env) : PE X (.Attribute e g pos) (tFld K2 ta g) := by
  subst hK
  exact pe_fld he hb
def rLenM (C : Addr) (sp : Sp) (dvs : List V) (E : XK) : List V → Hp → VK → Prop := fun xs H Q => ∃ a dx fs, xs = [.ref a] ∧ H a = some (.ins C dx fs) ∧ sp (.ref a :: dvs) H (fun v H' => ∃ n : Nat, v = .int (n : Int) ∧ (n : Int) < 2 ^ 63 ∧ Q v H') E
theorem cr_lenM (hm : Meth X.K C "__len__" f) (F : FnOk X.prog X.w X.K X.mg X.base CX k f fd ps sp) (hr : Room (k + 1) X.A) (hb : Binds X.K fd ps ds) (hd : Vals dvs ds) (hx : Passes CX X E) : CallR X (.builtin "len") (rLenM C sp dvs E) := by
  intro pins s σ H xs us Q I r h
  obtain ⟨a, dx, fs, rfl, e, q⟩ := h
  obtain ⟨u, rfl, rx⟩ := vals1 r
  obtain rfl : u = Value.ref a := rx
  obtain ⟨mA, O, _⟩ := ins_get I.hok e
  obtain ⟨od, J, hl⟩ := O.look
  refine Calls.call_function_entry kind_len plain_len entry_len (args_len1 _) ?_
  unfold Builtin.«len»
  refine wpAny_bind (m := oneArg "len" _) (wpAny_pure ?_)
  refine wpAny_bind (m := callSpecial? (.ref a) (PySem.Str.ofString "__len__")) (PySem.W.special_fn I.kIn J hm.at_ (beq_iff_eq.mp hm.fn) (wpAny_mono (run_in1 (us := [.ref a]) (vs := [.ref a]) F hr hb hd hx I (.cons rfl .nil) q) (fun v s' z => ?_) fun _ _ z => z))
  obtain ⟨x, H', I', rx, n, rfl, hn, q⟩ := z
  obtain ⟨t, rfl⟩ := rx
  refine wpAny_bind (wpAny_holding (wpAny_pure ?_))
  refine wpAny_bind (wpAny_letGo ?_)
  show wpAny _ _ (if ((n : Nat) : Int) < 0 then _ else _) _ _ _
  rw [if_neg (by omega)]
  show wpAny _ _ (if ((n : Nat) : Int) ≥ 2 ^ 63 then _ else _) _ _ _
  rw [if_neg (by omega)]
  exact wpAny_bind (wpAny_mkInt (wpAny_pure ⟨_, rfl, .int (n : Int), H', I'.tok _, ⟨_, rfl⟩, q⟩))
end
end Br

/-! ### steps that take back -/
namespace Br
open PySem PySem.Spec PyProof.Rows L2 Br.F
def IsBack (m : Nat) : Stp → Stp → Prop
  | .add t k fs, s' => s' = .add t (((m : Int) - k) % m) fs
  | .scale t u, s' => ∃ v : Int, s' = .scale t v ∧ 0 ≤ v ∧ v < m ∧ v * u % m = 1
  | .swap a b, s' => s' = .swap a b
  | .tab t g tb a b, s' => s' = .tab t ((m : Int) - g) tb a b
theorem mod_is {m : Nat} {x y : Int} (h0 : 0 ≤ x) (h1 : x < m) (h : (m : Int) ∣ y - x) : y % m = x := by
  have e : y % m = x % m := Int.emod_eq_emod_iff_emod_sub_eq_zero.mpr (Int.emod_eq_zero_of_dvd h)
  rw [e, Int.emod_eq_of_lt h0 h1]
theorem mod_ex (m : Nat) (x : Int) : ∃ q : Int, x % m = x - m * q := ⟨x / m, by rw [Int.emod_def]⟩
theorem getD_set_ne {xs : List Int} {i j : Nat} {z : Int} (h : i ≠ j) : (xs.set i z).getD j 0 = xs.getD j 0 := by
  rw [List.getD_eq_getElem?_getD, List.getD_eq_getElem?_getD, List.getElem?_set_ne h]
theorem getD_set_eq {xs : List Int} {i : Nat} {z : Int} (h : i < xs.length) : (xs.set i z).getD i 0 = z := by
  rw [List.getD_eq_getElem?_getD, List.getElem?_set_self h]; rfl
theorem set_getD {xs : List Int} {i : Nat} : xs.set i (xs.getD i 0) = xs := by
  apply List.ext_getElem?
  intro j
  by_cases h : i = j
  · subst h
    by_cases hl : i < xs.length
    · rw [List.getElem?_set_self hl, List.getD_eq_getElem?_getD, List.getElem?_eq_getElem hl]; rfl
    · rw [List.getElem?_eq_none (by rw [List.length_set]; omega), List.getElem?_eq_none (by omega)]
  · rw [List.getElem?_set_ne h]
theorem prodV_set {mv iv : List Int} {t c i : Nat} {z : Int} : ∀ {fs : List Fac}, (∀ f, f ∈ fs → FacOk c i t f) → prodV (mv.set t z) iv fs = prodV mv iv fs
  | [], _ => rfl
  | f :: fs, h => by
    show facV (mv.set t z) iv f * prodV (mv.set t z) iv fs = facV mv iv f * prodV mv iv fs
    rw [prodV_set fun g hg => h g (List.mem_cons_of_mem _ hg)]
    have e : facV (mv.set t z) iv f = facV mv iv f := by
      cases f with
      | cell j => exact getD_set_ne (h _ List.mem_cons_self).2.symm
      | inp j => rfl
    rw [e]
theorem undo_add {m : Nat} {x k P : Int} (h0 : 0 ≤ x) (h1 : x < m) : ((x + k * P) % m + (((m : Int) - k) % m) * P) % m = x := by
  refine mod_is h0 h1 ?_
  obtain ⟨q1, e1⟩ := mod_ex m (x + k * P)
  obtain ⟨q2, e2⟩ := mod_ex m ((m : Int) - k)
  rw [e1, e2]
  exact ⟨P - q1 - q2 * P, by grind⟩
theorem undo_tab {m : Nat} {x g V : Int} (h0 : 0 ≤ x) (h1 : x < m) : ((x + g * V) % m + ((m : Int) - g) * V) % m = x := by
  refine mod_is h0 h1 ?_
  obtain ⟨q1, e1⟩ := mod_ex m (x + g * V)
  rw [e1]
  exact ⟨V - q1, by grind⟩
theorem undo_scale {m : Nat} {x u v : Int} (h0 : 0 ≤ x) (h1 : x < m) (h : v * u % m = 1) : (x * u % m) * v % m = x := by
  refine mod_is h0 h1 ?_
  obtain ⟨q1, e1⟩ := mod_ex m (x * u)
  obtain ⟨q2, e2⟩ := mod_ex m (v * u)
  rw [h] at e2
  rw [e1]
  exact ⟨x * q2 - q1 * v, by grind⟩
theorem stepF_back {m c i : Nat} {iv mv : List Int} {s s' : Stp} (hm : 1 ≤ m) (hv : Mem m c mv) (ok : StpOk m c i s) (h : IsBack m s s') : stepF m iv (stepF m iv mv s) s' = mv := by
  cases s with
  | add t k fs =>
    obtain rfl := h
    obtain ⟨o1, o2, o3, o4, o5⟩ := ok
    obtain ⟨z, gz, ez, z0, z1⟩ := hv.get o1
    have hl : t < mv.length := by rw [hv.len]; exact o1
    show (mv.set t ((mv.getD t 0 + k * prodV mv iv fs) % m)).set t (((mv.set t ((mv.getD t 0 + k * prodV mv iv fs) % m)).getD t 0 + (((m : Int) - k) % m) * prodV (mv.set t ((mv.getD t 0 + k * prodV mv iv fs) % m)) iv fs) % m) = mv
    rw [getD_set_eq hl, prodV_set o5, List.set_set, ez, undo_add z0 z1, ← ez, set_getD]
  | scale t u =>
    obtain ⟨v, rfl, v0, v1, hvu⟩ := h
    obtain ⟨o1, _⟩ := ok
    obtain ⟨z, gz, ez, z0, z1⟩ := hv.get o1
    have hl : t < mv.length := by rw [hv.len]; exact o1
    show (mv.set t (mv.getD t 0 * u % m)).set t ((mv.set t (mv.getD t 0 * u % m)).getD t 0 * v % m) = mv
    rw [getD_set_eq hl, List.set_set, ez, undo_scale z0 z1 hvu, ← ez, set_getD]
  | swap a b =>
    obtain rfl := h
    obtain ⟨o1, o2, o3⟩ := ok
    have ha : a < mv.length := by rw [hv.len]; exact o1
    have hb : b < mv.length := by rw [hv.len]; exact o2
    show (((mv.set a (mv.getD b 0)).set b (mv.getD a 0)).set a (((mv.set a (mv.getD b 0)).set b (mv.getD a 0)).getD b 0)).set b (((mv.set a (mv.getD b 0)).set b (mv.getD a 0)).getD a 0) = mv
    rw [getD_set_eq (by rw [List.length_set]; exact hb), getD_set_ne o3.symm, getD_set_eq ha, List.set_comm _ _ o3, List.set_set, List.set_comm _ _ o3.symm, List.set_set, set_getD, set_getD]
  | tab t g tb a b =>
    obtain rfl := h
    obtain ⟨o1, o2, o3, o4, o5, _⟩ := ok
    obtain ⟨z, gz, ez, z0, z1⟩ := hv.get o1
    have hl : t < mv.length := by rw [hv.len]; exact o1
    generalize hV : ItpV m tb (mv.getD a 0) (mv.getD b 0) = W
    show (mv.set t ((mv.getD t 0 + g * ItpV m tb (mv.getD a 0) (mv.getD b 0)) % m)).set t (((mv.set t ((mv.getD t 0 + g * ItpV m tb (mv.getD a 0) (mv.getD b 0)) % m)).getD t 0 + ((m : Int) - g) * ItpV m tb ((mv.set t ((mv.getD t 0 + g * ItpV m tb (mv.getD a 0) (mv.getD b 0)) % m)).getD a 0) ((mv.set t ((mv.getD t 0 + g * ItpV m tb (mv.getD a 0) (mv.getD b 0)) % m)).getD b 0)) % m) = mv
    rw [getD_set_eq hl, getD_set_ne o4, getD_set_ne o5, hV, List.set_set, ez, undo_tab z0 z1, ← ez, set_getD]
theorem unit_uniq {m : Nat} {u v w : Int} (h1 : v * u % m = 1) (h2 : w * u % m = 1) (v0 : 0 ≤ v) (v1 : v < m) (w0 : 0 ≤ w) (w1 : w < m) : v = w := by
  obtain ⟨q1, e1⟩ := mod_ex m (v * u)
  obtain ⟨q2, e2⟩ := mod_ex m (w * u)
  rw [h1] at e1
  rw [h2] at e2
  have e : v % m = w := mod_is w0 w1 ⟨w * q1 - v * q2, by grind⟩
  rw [← e, Int.emod_eq_of_lt v0 v1]
theorem IsBack.uniq {m : Nat} {s a b : Stp} (h1 : IsBack m s a) (h2 : IsBack m s b) : a = b := by
  cases s with
  | add => exact h1.trans h2.symm
  | swap => exact h1.trans h2.symm
  | tab => exact h1.trans h2.symm
  | scale t u =>
    obtain ⟨v, rfl, v0, v1, hv⟩ := h1
    obtain ⟨w, rfl, w0, w1, hw⟩ := h2
    rw [unit_uniq hv hw v0 v1 w0 w1]
theorem IsBack.symm {m c i : Nat} {s s' : Stp} (ok : StpOk m c i s) (h : IsBack m s s') : IsBack m s' s := by
  cases s with
  | add t k fs =>
    obtain rfl := h
    obtain ⟨o1, o2, o3, _⟩ := ok
    show Stp.add t k fs = .add t (((m : Int) - ((m : Int) - k) % m) % m) fs
    have e : ((m : Int) - ((m : Int) - k) % m) % m = k := by
      refine mod_is o2 o3 ?_
      obtain ⟨q, e⟩ := mod_ex m ((m : Int) - k)
      rw [e]
      exact ⟨q, by grind⟩
    rw [e]
  | scale t u =>
    obtain ⟨v, rfl, v0, v1, hv⟩ := h
    exact ⟨u, rfl, ok.2.1, ok.2.2.1, by rw [Int.mul_comm]; exact hv⟩
  | swap a b =>
    obtain rfl := h
    rfl
  | tab t g tb a b =>
    obtain rfl := h
    show Stp.tab t g tb a b = .tab t ((m : Int) - ((m : Int) - g)) tb a b
    rw [Int.sub_sub_self]
theorem IsBack.ok {m c i : Nat} {s s' : Stp} (hm : 2 ≤ m) (ok : StpOk m c i s) (h : IsBack m s s') : StpOk m c i s' := by
  cases s with
  | add t k fs =>
    obtain rfl := h
    obtain ⟨o1, o2, o3, o4, o5⟩ := ok
    exact ⟨o1, Int.emod_nonneg _ (by omega), Int.emod_lt_of_pos _ (by omega), o4, o5⟩
  | scale t u =>
    obtain ⟨v, rfl, v0, v1, hv⟩ := h
    refine ⟨ok.1, v0, v1, ?_⟩
    have h1 := Int.gcd_dvd_left (a := v) (b := (m : Int))
    have h2 := Int.gcd_dvd_right (a := v) (b := (m : Int))
    have h3 : ((Int.gcd v m : Nat) : Int) ∣ ((1 : Nat) : Int) := by
      obtain ⟨q, e⟩ := mod_ex m (v * u)
      rw [hv] at e
      obtain ⟨x, hx⟩ := h1
      obtain ⟨y, hy⟩ := h2
      generalize ((Int.gcd v m : Nat) : Int) = G at hx hy
      refine ⟨x * u - y * q, ?_⟩
      rw [Int.mul_sub, ← Int.mul_assoc, ← Int.mul_assoc, ← hx, ← hy]
      exact e
    exact Nat.dvd_one.mp (Int.ofNat_dvd.mp h3)
  | swap a b =>
    obtain rfl := h
    exact ok
  | tab t g tb a b =>
    obtain rfl := h
    obtain ⟨o1, o2, o3, o4, o5, o6, o7, o8, o9, o10⟩ := ok
    exact ⟨o1, o2, o3, o4, o5, o6, by omega, o8, o9, o10⟩
inductive BackOf (m : Nat) : List Stp → List Stp → Prop
  | nil : BackOf m [] []
  | cons {s s' : Stp} {ss ss' : List Stp} : IsBack m s s' → BackOf m ss ss' → BackOf m (s :: ss) (ss' ++ [s'])
theorem BackOf.snoc {m : Nat} {x y : Stp} {xs ys : List Stp} (h : BackOf m xs ys) (hb : IsBack m x y) : BackOf m (xs ++ [x]) (y :: ys) := by
  induction h with
  | nil => exact .cons (ss' := []) hb .nil
  | cons h1 _ ih => exact .cons (ss' := y :: _) h1 ih
theorem BackOf.len {m : Nat} {xs ys : List Stp} (h : BackOf m xs ys) : ys.length = xs.length := by
  induction h with
  | nil => rfl
  | cons h1 _ ih => rw [List.length_append, List.length_cons, ih]; rfl
theorem BackOf.symm {m c i : Nat} {xs ys : List Stp} (h : BackOf m xs ys) (ok : ∀ s, s ∈ xs → StpOk m c i s) : BackOf m ys xs := by
  induction h with
  | nil => exact .nil
  | cons h1 _ ih => exact (ih fun s hs => ok s (List.mem_cons_of_mem _ hs)).snoc (h1.symm (ok _ List.mem_cons_self))
theorem BackOf.oks {m c i : Nat} {xs ys : List Stp} (hm : 2 ≤ m) (h : BackOf m xs ys) (ok : ∀ s, s ∈ xs → StpOk m c i s) : ∀ s, s ∈ ys → StpOk m c i s := by
  induction h with
  | nil => exact ok
  | cons h1 _ ih =>
    intro s hs
    rcases List.mem_append.mp hs with h | h
    · exact ih (fun s hs => ok s (List.mem_cons_of_mem _ hs)) s h
    · rw [List.mem_singleton.mp h]
      exact h1.ok hm (ok _ List.mem_cons_self)
theorem BackOf.uniq {m : Nat} {xs ys : List Stp} (h : BackOf m xs ys) : ∀ {zs : List Stp}, BackOf m xs zs → ys = zs := by
  induction h with
  | nil => intro zs h; cases h; rfl
  | cons h1 _ ih =>
    intro zs h
    cases h with
    | cons h2 h3 => rw [ih h3, h1.uniq h2]
theorem runF_app {m : Nat} {iv : List Int} {xs ys : List Stp} {mv : List Int} : runF m iv (xs ++ ys) mv = runF m iv ys (runF m iv xs mv) := by
  unfold runF
  rw [List.foldl_append]
theorem runF_back {m c i : Nat} {iv : List Int} {xs ys : List Stp} (hm : 1 ≤ m) (h : BackOf m xs ys) : ∀ {mv : List Int}, Mem m c mv → (∀ s, s ∈ xs → StpOk m c i s) → runF m iv ys (runF m iv xs mv) = mv := by
  induction h with
  | nil => intro mv _ _; rfl
  | @cons s s' ss ss' h1 _ ih =>
    intro mv hv ok
    have oks := ok s List.mem_cons_self
    show runF m iv (ss' ++ [s']) (runF m iv ss (stepF m iv mv s)) = mv
    rw [runF_snoc, ih (stepF_mem hm hv oks) fun s hs => ok s (List.mem_cons_of_mem _ hs), stepF_back hm hv oks h1]
/-- two that are the same step -/
theorem FacAt.eqv2 {K : PySem.W.Frag} {H : Hp} {a b : Addr} {f : Fac} (h : FacAt H a f) (h' : FacAt H b f) : Eqv K H 2 (.ref a) (.ref b) := by
  cases f with
  | cell i =>
    refine Eqv.tup h h' rfl (Nat.le_of_ble_eq_true rfl) fun j x y e1 e2 => ?_
    rw [e1] at e2
    cases e2
    have hx := List.mem_of_getElem? e1
    have e : x = .str "cell" ∨ x = .int (i : Int) := by simpa using hx
    rcases e with rfl | rfl
    · exact .str
    · exact .int
  | inp i =>
    refine Eqv.tup h h' rfl (Nat.le_of_ble_eq_true rfl) fun j x y e1 e2 => ?_
    rw [e1] at e2
    cases e2
    have hx := List.mem_of_getElem? e1
    have e : x = .str "input" ∨ x = .int (i : Int) := by simpa using hx
    rcases e with rfl | rfl
    · exact .str
    · exact .int
theorem StpAt.eqv2 {K : PySem.W.Frag} {H : Hp} {a b : Addr} {m cells inputs : Nat} {s : Stp} (ok : StpOk m cells inputs s) (h : StpAt H a s) (h' : StpAt H b s) : Eqv K H 4 (.ref a) (.ref b) := by
  cases s with
  | add t c fs =>
    obtain ⟨f, as, h1, h2, h3, h4⟩ := h
    obtain ⟨f', as', h1', h2', h3', h4'⟩ := h'
    have hf : Eqv K H 3 (.ref f) (.ref f') := by
      refine Eqv.tup h2 h2' (by rw [List.length_map, List.length_map]; omega) (by rw [List.length_map, h3']; have := ok.2.2.2.1; omega) fun j x y e1 e2 => ?_
      obtain ⟨p, hp, rfl⟩ := map_getR e1
      obtain ⟨p', hp', rfl⟩ := map_getR e2
      have hl := (List.getElem?_eq_some_iff.mp hp).1
      have g := List.getElem?_eq_getElem (l := fs) (i := j) (by omega)
      exact (h4 j _ p g hp).eqv2 (h4' j _ p' g hp')
    refine Eqv.tup h1 h1' rfl (Nat.le_of_ble_eq_true rfl) fun j x y e1 e2 => ?_
    match j, e1, e2 with
    | 0, e1, e2 => cases e1; cases e2; exact .str
    | 1, e1, e2 => cases e1; cases e2; exact .int
    | 2, e1, e2 => cases e1; cases e2; exact .int
    | 3, e1, e2 => cases e1; cases e2; exact hf
    | j + 4, e1, _ => simp at e1
  | scale t u =>
    refine Eqv.tup h h' rfl (Nat.le_of_ble_eq_true rfl) fun j x y e1 e2 => ?_
    match j, e1, e2 with
    | 0, e1, e2 => cases e1; cases e2; exact .str
    | 1, e1, e2 => cases e1; cases e2; exact .int
    | 2, e1, e2 => cases e1; cases e2; exact .int
    | j + 3, e1, _ => simp at e1
  | swap i k =>
    refine Eqv.tup h h' rfl (Nat.le_of_ble_eq_true rfl) fun j x y e1 e2 => ?_
    match j, e1, e2 with
    | 0, e1, e2 => cases e1; cases e2; exact .str
    | 1, e1, e2 => cases e1; cases e2; exact .int
    | 2, e1, e2 => cases e1; cases e2; exact .int
    | j + 3, e1, _ => simp at e1
  | tab t g tb i k =>
    obtain ⟨c, h1, as, h2, h3, h4⟩ := h
    obtain ⟨c', h1', as', h2', h3', h4'⟩ := h'
    have hlen : tb.length ≤ 1000 := ok.2.2.2.2.2.2.2.2.1
    have hI : IsTab m tb := ok.2.2.2.2.2.2.2.1
    have hc : Eqv K H 3 (.ref c) (.ref c') := by
      refine Eqv.tup h2 h2' (by rw [List.length_map, List.length_map]; omega) (by rw [List.length_map, h3']; omega) fun j x y e1 e2 => ?_
      obtain ⟨p, hp, rfl⟩ := map_getR e1
      obtain ⟨p', hp', rfl⟩ := map_getR e2
      have hl := (List.getElem?_eq_some_iff.mp hp).1
      have hl2 : j < tb.length := by omega
      have gr := List.getElem?_eq_getElem hl2
      obtain ⟨hr, _⟩ := hI.rows j _ gr
      refine Eqv.tup (h4 j _ p gr hp) (h4' j _ p' gr hp') rfl (by rw [List.length_map, hr]; omega) fun j2 x y e1 e2 => ?_
      rw [e1] at e2
      cases e2
      obtain ⟨z, _, rfl⟩ := map_get e1
      exact .int
    refine Eqv.tup h1 h1' rfl (Nat.le_of_ble_eq_true rfl) fun j x y e1 e2 => ?_
    match j, e1, e2 with
    | 0, e1, e2 => cases e1; cases e2; exact .str
    | 1, e1, e2 => cases e1; cases e2; exact .int
    | 2, e1, e2 => cases e1; cases e2; exact .int
    | 3, e1, e2 => cases e1; cases e2; exact hc
    | 4, e1, e2 => cases e1; cases e2; exact .int
    | 5, e1, e2 => cases e1; cases e2; exact .int
    | j + 6, e1, _ => simp at e1
end Br

/-! ### max(xs, default=d) -/
namespace Br
open PySem PySem.Spec PyProof.Rows L2
theorem max_rawD {prog : Program} {w : World} {A : Around} {E : Value → Shared → Prop} {s : Shared} {l : Addr} {its : List Value} {ns : List Int} {d : Value} {Q : Value → Shared → Prop} (hh : A.handled = none) (hl : s.heap.IsList l its.toArray) (hi : IntsAre its ns)
    (h0 : ns = [] → ∀ h' tk, (∀ b o, s.heap.get? b = some o → h'.get? b = some o) → Q d { s with heap := h', toks := tk })
    (h : ∀ h' tk M t', (∀ b o, s.heap.get? b = some o → h'.get? b = some o) → M ∈ ns → (∀ a, a ∈ ns → a ≤ M) → Q (.int M t') { s with heap := h', toks := tk }) : wpAny (model prog w) A (call (.builtin "max") [.ref l] [(Str.ofString "default", d)]) Q E s := by
  obtain ⟨xs, e⟩ := hi.allInts.items
  have hn : numsOf (intItems xs).toList = ns := by rw [← e]; exact hi.numsOf
  rw [nums_intItems] at hn
  subst hn
  rw [e] at hl
  refine call_max_walkD (iter_intList hl fun s₂ e2 st hfp hlI => ?_)
  have keep : ∀ {s' : Shared}, Moved [s.heap.objs.size] (fun a b => b = a) s₂ s' → (∀ b o, s.heap.get? b = some o → s'.heap.get? b = some o) ∧ s' = { s with heap := s'.heap, toks := s'.toks } := by
    intro s' m
    subst e2
    refine ⟨fun b o eb => m.heap b o (fun hb => ?_) (Heap.get?_push_of_some _ eb), ?_⟩
    · have : b = s.heap.objs.size := by simpa using hb
      exact absurd (Heap.lt_size eb) (by rw [this]; exact Nat.lt_irrefl _)
    · have h1 := m.gens
      have h2 := m.drawn
      have h3 := m.os
      cases s'
      cases s
      simp at h1 h2 h3 ⊢
      exact ⟨h1, h2, h3⟩
  refine ⟨_, _, _, _, _, _, _, s.heap, fun i j => decide (numAt xs i > numAt xs j), rfl, (Walks.list (A := A.in1) hh _ l hlI (intItems xs)).toS, st, hfp, ?_, ?_, ?_, ?_⟩
  · intro b o eb hb
    have : b = s.heap.objs.size := by simpa using hb
    exact absurd (Heap.lt_size eb) (by rw [this]; exact Nat.lt_irrefl _)
  · intro b o eb
    subst e2
    exact Heap.get?_push_of_some _ eb
  · intro hz s' m
    obtain ⟨k1, k2⟩ := keep m
    rw [k2]
    refine h0 ?_ _ _ k1
    have : xs.size = 0 := by simpa [intItems] using hz
    have : xs = #[] := Array.eq_empty_of_size_eq_zero this
    rw [this]
    rfl
  · intro hz
    have hsz : 0 < xs.size := by simpa [intItems] using hz
    refine ⟨fun i j vi vj s' Q' E' _ h1 h2 h3 => CmpOf.ints_gt (numAt xs) (fun _ _ => intItems_at) i j vi vj s' Q' E' h1 h2 h3, fun v s' hP m => ?_⟩
    obtain ⟨k1, k2⟩ := keep m
    rw [k2]
    have hP : (intItems xs)[argBest (fun i j => decide (numAt xs i > numAt xs j)) (xs.size - 1)]? = some v := by simpa [intItems] using hP
    obtain ⟨t, rfl⟩ := intItems_at hP
    obtain ⟨h1, h2⟩ := argBest_gt (numAt xs) (xs.size - 1)
    refine h _ _ _ t k1 ?_ fun a ha => ?_
    · rw [numAt_eq]; exact PySem.getD_mem (by rw [List.length_map, Array.length_toList]; omega)
    · obtain ⟨j, hj, rfl⟩ := mem_getD ha
      rw [List.length_map, Array.length_toList] at hj
      rw [← numAt_eq]; exact h2 j (by omega)
/-- max(xs, default=z): z the default -/
def rMaxDf (K : PySem.W.Frag) : List V → List V → Hp → VK → Prop := fun vs zs H Q => ∃ (a : Addr) (ns : List Int) (d : Int), vs = [V.ref a] ∧ zs = [.int d] ∧ SqL K H a (ns.map V.int) ∧ (ns = [] → Q (.int d) H) ∧ ∀ m, m ∈ ns → (∀ y, y ∈ ns → y ≤ m) → Q (.int m) H
theorem cr_maxDf {X : Cx} (hc : X.calm = true) : CallRK X (.builtin "max") [Str.ofString "default"] (rMaxDf X.K) := by
  intro pins s σ H xs zs us ws Q I r1 r2 h
  obtain ⟨a, ns, d, rfl, rfl, hs, q0, q⟩ := h
  obtain ⟨its, rv, hl, _⟩ := I.list hs
  rw [Vals.ref1 r1]
  cases r2 with
  | cons rz rr =>
    cases rr
    exact max_rawD (I.ok.hd hc) hl.isList rv.ints (fun e h' tk hk => ⟨.int d, H, I.kept hk, rz, q0 e⟩) fun h' tk m t' hk h1 h2 => ⟨.int _, H, I.kept hk, ⟨_, rfl⟩, q m h1 h2⟩
theorem x_maxDf {K : PySem.W.Frag} {σ : L2.St} {H : Hp} {Q : VK} {t tk : TA} (h : t σ H fun vs H1 => tk σ H1 fun zs H2 => rMaxDf K vs zs H2 Q) : tCKw (rMaxDf K) t tk σ H Q := h
/-- what is walked within a comprehension, the written part named -/
theorem pi_tupK {X : Cx} {tg : Expr} {K2 : PySem.W.Frag} {l : Expr} {tl : TE} (hK : X.K = K2) (hl : PE X l tl) : PI X tg l (iTup K2 tl) := by
  subst hK
  exact pi_tup hl
theorem pi_listK {X : Cx} {tg : Expr} {K2 : PySem.W.Frag} {l : Expr} {tl : TE} (hK : X.K = K2) (hl : PE X l tl) : PI X tg l (iList K2 tl) := by
  subst hK
  exact pi_list hl
theorem x_maxDfP {K : PySem.W.Frag} {H : Hp} {Q : VK} {a : Addr} {ns : List Int} {d : Int} (hs : SqL K H a (ns.map V.int)) (h : ∀ m, (ns = [] ∧ m = d) ∨ (m ∈ ns ∧ ∀ y, y ∈ ns → y ≤ m) → Q (.int m) H) : rMaxDf K [.ref a] [.int d] H Q :=
  ⟨a, ns, d, rfl, rfl, hs, fun e => h d (.inl ⟨e, rfl⟩), fun m h1 h2 => h m (.inr ⟨h1, h2⟩)⟩
end Br

/-! ### data of any kind in the heap, apart from one list -/
namespace Br
open PySem PySem.Spec PyProof.Rows L2
mutual
inductive DAt (d : Addr) (H : Hp) : V → PyData → Prop
  | non : DAt d H .non .none
  | bl (b : Bool) : DAt d H (.bl b) (.bool b)
  | int (i : Int) : DAt d H (.int i) (.int i)
  | str (x : Str) : DAt d H (.str x) (.str x)
  | lst {a : Addr} {xs : List V} {ds : List PyData} (hd : a ≠ d) (h : H a = some (.lst xs)) (hs : DAts d H xs ds) : DAt d H (.ref a) (.list ds)
  | tup {a : Addr} {xs : List V} {ds : List PyData} (h : H a = some (.tup xs)) (hs : DAts d H xs ds) : DAt d H (.ref a) (.tuple ds)
inductive DAts (d : Addr) (H : Hp) : List V → List PyData → Prop
  | nil : DAts d H [] []
  | cons {v : V} {vs : List V} {e : PyData} {es : List PyData} (h : DAt d H v e) (hs : DAts d H vs es) : DAts d H (v :: vs) (e :: es)
end
section
variable {d : Addr} {H H' : Hp}
theorem DAts.len : ∀ {xs : List V} {ds : List PyData}, DAts d H xs ds → xs.length = ds.length
  | [], _, h => by cases h; rfl
  | _ :: xs, _, h => by
    cases h with
    | cons h hs => exact congrArg (· + 1) hs.len
theorem DAts.get : ∀ {xs : List V} {ds : List PyData}, DAts d H xs ds → ∀ {i : Nat} {x : V}, xs[i]? = some x → ∃ e, ds[i]? = some e ∧ DAt d H x e
  | [], _, _, i, x, e => by simp at e
  | v :: xs, _, h, i, x, e => by
    cases h with
    | cons h hs =>
      cases i with
      | zero => cases e; exact ⟨_, rfl, h⟩
      | succ i => exact hs.get (i := i) (by simpa using e)
theorem DAts.of : ∀ {xs : List V} {ds : List PyData}, xs.length = ds.length → (∀ (i : Nat) x e, xs[i]? = some x → ds[i]? = some e → DAt d H x e) → DAts d H xs ds
  | [], [], _, _ => .nil
  | v :: xs, e :: ds, hl, h => .cons (h 0 v e rfl rfl) (DAts.of (by simpa using hl) fun i x f h1 h2 => h (i + 1) x f (by simpa using h1) (by simpa using h2))
  | [], _ :: _, hl, _ => by simp at hl
  | _ :: _, [], hl, _ => by simp at hl
theorem DAts.snoc : ∀ {xs : List V} {ds : List PyData} {v : V} {e : PyData}, DAts d H xs ds → DAt d H v e → DAts d H (xs ++ [v]) (ds ++ [e])
  | [], _, v, e, h, h1 => by cases h; exact .cons h1 .nil
  | _ :: xs, _, v, e, h, h1 => by
    cases h with
    | cons h hs => exact .cons h (hs.snoc h1)
theorem DAts.app : ∀ {xs ys : List V} {ds es : List PyData}, DAts d H xs ds → DAts d H ys es → DAts d H (xs ++ ys) (ds ++ es)
  | [], _, _, _, h, h1 => by cases h; exact h1
  | _ :: xs, _, _, _, h, h1 => by
    cases h with
    | cons h hs => exact .cons h (hs.app h1)
mutual
theorem DAt.keep (hd : ∃ ys, H d = some (.lst ys)) (k : Keep d H H') : ∀ (e : PyData) {v : V}, DAt d H v e → DAt d H' v e
  | .none, _, h => by cases h; exact .non
  | .bool b, _, h => by cases h; exact .bl b
  | .int i, _, h => by cases h; exact .int i
  | .str x, _, h => by cases h; exact .str x
  | .list ds, _, h => by
    cases h with
    | lst hn h hs => exact .lst hn (k _ _ h hn) (DAts.keep hd k ds hs)
  | .tuple ds, _, h => by
    obtain ⟨ys, hd'⟩ := id hd
    cases h with
    | tup h hs => exact .tup (k _ _ h (ne_of h hd' (by intro z; cases z))) (DAts.keep hd k ds hs)
  | .dict _, _, h => by cases h
theorem DAts.keep (hd : ∃ ys, H d = some (.lst ys)) (k : Keep d H H') : ∀ (es : List PyData) {vs : List V}, DAts d H vs es → DAts d H' vs es
  | [], _, h => by cases h; exact .nil
  | e :: es, _, h => by
    cases h with
    | cons h hs => exact .cons (DAt.keep hd k e h) (DAts.keep hd k es hs)
end
mutual
theorem DAt.same (k : Same H H') : ∀ (e : PyData) {v : V}, DAt d H v e → DAt d H' v e
  | .none, _, h => by cases h; exact .non
  | .bool b, _, h => by cases h; exact .bl b
  | .int i, _, h => by cases h; exact .int i
  | .str x, _, h => by cases h; exact .str x
  | .list ds, _, h => by
    cases h with
    | lst hn h hs => exact .lst hn (k _ _ h) (DAts.same k ds hs)
  | .tuple ds, _, h => by
    cases h with
    | tup h hs => exact .tup (k _ _ h) (DAts.same k ds hs)
  | .dict _, _, h => by cases h
theorem DAts.same (k : Same H H') : ∀ (es : List PyData) {vs : List V}, DAts d H vs es → DAts d H' vs es
  | [], _, h => by cases h; exact .nil
  | e :: es, _, h => by
    cases h with
    | cons h hs => exact .cons (DAt.same k e h) (DAts.same k es hs)
end
theorem DAts.ints : ∀ {ns : List Int}, DAts d H (ns.map V.int) (ns.map PyData.int)
  | [] => .nil
  | i :: ns => .cons (.int i) DAts.ints
theorem DAts.bls : ∀ {bs : List Bool}, DAts d H (bs.map V.bl) (bs.map PyData.bool)
  | [] => .nil
  | b :: bs => .cons (.bl b) DAts.bls
/-- is it an integer from 0 to b - 1 -/
def isBD (b : Int) : PyData → Bool
  | .int i => decide (0 ≤ i) && decide (i < b)
  | _ => false
theorem isBD_iff {b : Int} {e : PyData} : isBD b e = true ↔ ∃ i, e = .int i ∧ 0 ≤ i ∧ i < b := by
  cases e with
  | int i =>
    show (decide (0 ≤ i) && decide (i < b)) = true ↔ _
    rw [Bool.and_eq_true, decide_eq_true_iff, decide_eq_true_iff]
    exact ⟨fun h => ⟨i, rfl, h⟩, fun ⟨j, e, h⟩ => by cases e; exact h⟩
  | _ => exact ⟨fun h => (by cases h), fun h => (by obtain ⟨_, h, _⟩ := h; cases h)⟩
def isBlD : PyData → Bool
  | .bool _ => true
  | _ => false
end
end Br

/-! ### gates as data, and what they do -/
namespace Br
open PySem PySem.Spec PyProof.Rows L2
abbrev Gt := Nat × List Nat
def perfG (bs : List Bool) (g : Gt) : List Bool := if g.2.all (fun c => bs.getD c false) then bs.set g.1 (!bs.getD g.1 false) else bs
def perfF (gs : List Gt) (bs : List Bool) : List Bool := gs.foldl perfG bs
structure GtOk (n : Nat) (g : Gt) : Prop where
  t : g.1 < n
  c : ∀ x, x ∈ g.2 → x < n
  ne : g.1 ∉ g.2
  up : g.2.Pairwise (· < ·)
theorem GtOk.mono {n m : Nat} {g : Gt} (h : GtOk n g) (l : n ≤ m) : GtOk m g := ⟨Nat.lt_of_lt_of_le h.t l, fun x hx => Nat.lt_of_lt_of_le (h.c x hx) l, h.ne, h.up⟩
theorem perfG_len {bs : List Bool} {g : Gt} : (perfG bs g).length = bs.length := by
  unfold perfG
  split
  · rw [List.length_set]
  · rfl
theorem perfF_len : ∀ {gs : List Gt} {bs : List Bool}, (perfF gs bs).length = bs.length
  | [], _ => rfl
  | g :: gs, bs => (perfF_len (gs := gs) (bs := perfG bs g)).trans perfG_len
theorem perfF_snoc {gs : List Gt} {g : Gt} {bs : List Bool} : perfF (gs ++ [g]) bs = perfG (perfF gs bs) g := by
  unfold perfF
  rw [List.foldl_append]
  rfl
theorem getD_setB {bs : List Bool} {i j : Nat} {b : Bool} (h : i ≠ j) : (bs.set i b).getD j false = bs.getD j false := by
  rw [List.getD_eq_getElem?_getD, List.getD_eq_getElem?_getD, List.getElem?_set_ne h]
theorem perfG_twice {n : Nat} {bs : List Bool} {g : Gt} (ok : GtOk n g) (hn : n ≤ bs.length) : perfG (perfG bs g) g = bs := by
  have ht := Nat.lt_of_lt_of_le ok.t hn
  by_cases h : g.2.all (fun c => bs.getD c false) = true
  · have e : perfG bs g = bs.set g.1 (!bs.getD g.1 false) := by unfold perfG; rw [if_pos h]
    rw [e]
    unfold perfG
    rw [if_pos]
    · apply List.ext_getElem?
      intro j
      by_cases hj : g.1 = j
      · subst hj
        have h1 : g.1 < (bs.set g.1 (!bs.getD g.1 false)).length := by rw [List.length_set]; exact ht
        rw [List.getElem?_set_self h1, List.getD_eq_getElem?_getD (l := bs.set _ _), List.getElem?_set_self ht, List.getD_eq_getElem?_getD, List.getElem?_eq_getElem ht]
        simp
      · rw [List.getElem?_set_ne hj, List.getElem?_set_ne hj]
    · rw [List.all_eq_true] at h ⊢
      intro c hc
      rw [getD_setB (fun e => ok.ne (by rw [e]; exact hc))]
      exact h c hc
  · have e : perfG bs g = bs := by unfold perfG; rw [if_neg h]
    rw [e, e]
theorem perfF_rev {n : Nat} : ∀ {gs : List Gt} {bs : List Bool}, (∀ g, g ∈ gs → GtOk n g) → n ≤ bs.length → perfF gs.reverse (perfF gs bs) = bs
  | [], _, _, _ => rfl
  | g :: gs, bs, ok, hn => by
    rw [List.reverse_cons, perfF_snoc]
    show perfG (perfF gs.reverse (perfF gs (perfG bs g))) g = bs
    rw [perfF_rev (fun x hx => ok x (List.mem_cons_of_mem _ hx)) (by rw [perfG_len]; exact hn)]
    exact perfG_twice (ok g List.mem_cons_self) hn
def cInts (cs : List Nat) : List V := cs.map fun (c : Nat) => V.int (c : Int)
def GtAt (H : Hp) (a : Addr) (g : Gt) : Prop := ∃ c : Addr, H a = some (.tup [.int (g.1 : Int), .ref c]) ∧ H c = some (.tup (cInts g.2))
def gtD (g : Gt) : PyData := .tuple [.int (g.1 : Int), .tuple (g.2.map fun (c : Nat) => PyData.int (c : Int))]
theorem GtAt.tups {H H' : Hp} {a : Addr} {g : Gt} (h : GtAt H a g) (k : ∀ b xs, H b = some (.tup xs) → H' b = some (.tup xs)) : GtAt H' a g := by
  obtain ⟨c, h1, h2⟩ := h
  exact ⟨c, k _ _ h1, k _ _ h2⟩
theorem cInts_at {d : Addr} {H : Hp} : ∀ {cs : List Nat}, DAts d H (cInts cs) (cs.map fun (c : Nat) => PyData.int (c : Int))
  | [] => .nil
  | c :: cs => .cons (.int _) cInts_at
theorem GtAt.dat {d a : Addr} {H : Hp} {g : Gt} (h : GtAt H a g) : DAt d H (.ref a) (gtD g) := by
  obtain ⟨c, h1, h2⟩ := h
  exact .tup h1 (.cons (.int _) (.cons (.tup h2 cInts_at) .nil))
/-- rising bits below 120, behind the last one -/
def risF : Int → List PyData → Bool
  | _, [] => true
  | l, .int i :: es => (decide (0 ≤ i) && decide (i < 120)) && (decide (l < i) && risF i es)
  | _, _ :: _ => false
def risD : PyData → Bool
  | .tuple es => risF (-1) es
  | _ => false
def hasD (e : PyData) (es : List PyData) : Bool := es.any fun x => match x, e with | .int i, .int j => decide (i = j) | _, _ => false
def gateD : PyData → Bool
  | .tuple [t, .tuple es] => isBD 120 t && (risF (-1) es && !hasD t es)
  | _ => false
def gatesD : PyData → Bool
  | .list es => decide (es.length ≤ 60000) && es.all gateD
  | _ => false
theorem risF_ok : ∀ {cs : List Nat} {l : Int}, cs.Pairwise (· < ·) → (∀ c, c ∈ cs → c < 120 ∧ l < (c : Int)) → risF l (cs.map fun (c : Nat) => PyData.int (c : Int)) = true
  | [], _, _, _ => rfl
  | c :: cs, l, hp, h => by
    obtain ⟨h1, h2⟩ := h c List.mem_cons_self
    show ((decide (0 ≤ (c : Int)) && decide ((c : Int) < 120)) && (decide (l < (c : Int)) && _)) = true
    rw [decide_eq_true (by omega), decide_eq_true (by omega), decide_eq_true h2]
    rw [List.pairwise_cons] at hp
    exact risF_ok hp.2 fun x hx => ⟨(h x (List.mem_cons_of_mem _ hx)).1, by have := hp.1 x hx; omega⟩
theorem gateD_ok {g : Gt} (ok : GtOk 120 g) : gateD (gtD g) = true := by
  show (isBD 120 (.int (g.1 : Int)) && (risF (-1) (g.2.map fun (c : Nat) => PyData.int (c : Int)) && !hasD (.int (g.1 : Int)) (g.2.map fun (c : Nat) => PyData.int (c : Int)))) = true
  have h1 : isBD 120 (.int (g.1 : Int)) = true := isBD_iff.mpr ⟨_, rfl, by omega, by have := ok.t; omega⟩
  have h2 := risF_ok (l := -1) ok.up fun c hc => ⟨ok.c c hc, by omega⟩
  have h3 : hasD (.int (g.1 : Int)) (g.2.map fun (c : Nat) => PyData.int (c : Int)) = false := by
    unfold hasD
    rw [List.any_eq_false]
    intro x hx
    obtain ⟨c, hc, rfl⟩ := List.mem_map.mp hx
    have hne : (c : Int) ≠ (g.1 : Int) := fun e => ok.ne (by have : c = g.1 := by omega
                                                             rw [← this]; exact hc)
    show ¬ decide ((c : Int) = (g.1 : Int)) = true
    rw [decide_eq_false hne]
    decide
  rw [h1, h2, h3]
  rfl
/-- the bits that a gate touches -/
def topG (g : Gt) : Nat := g.2.foldr max g.1 + 1
theorem foldr_max {cs : List Nat} {t : Nat} : t ≤ cs.foldr max t ∧ (∀ c, c ∈ cs → c ≤ cs.foldr max t) ∧ (cs.foldr max t = t ∨ cs.foldr max t ∈ cs) := by
  induction cs with
  | nil => exact ⟨Nat.le_refl _, fun c h => by simp at h, .inl rfl⟩
  | cons c cs ih =>
    obtain ⟨h1, h2, h3⟩ := ih
    show t ≤ max c _ ∧ _ ∧ _
    refine ⟨by omega, fun x hx => ?_, ?_⟩
    · rcases List.mem_cons.mp hx with rfl | hx
      · exact Nat.le_max_left _ _
      · exact Nat.le_trans (h2 x hx) (Nat.le_max_right _ _)
    · show max c _ = t ∨ max c _ ∈ _
      rcases Nat.le_total c (cs.foldr max t) with h | h
      · rw [Nat.max_eq_right h]
        rcases h3 with h3 | h3
        · exact .inl h3
        · exact .inr (List.mem_cons_of_mem _ h3)
      · rw [Nat.max_eq_left h]
        exact .inr List.mem_cons_self
theorem topG_le {n : Nat} {g : Gt} (ok : GtOk n g) : topG g ≤ n := by
  unfold topG
  rcases (foldr_max (cs := g.2) (t := g.1)).2.2 with h | h
  · rw [h]; exact ok.t
  · exact ok.c _ h
theorem up_len {n : Nat} : ∀ {cs : List Nat} {l : Nat}, cs.Pairwise (· < ·) → (∀ c, c ∈ cs → l ≤ c ∧ c < n) → cs.length ≤ n - l
  | [], _, _, _ => Nat.zero_le _
  | c :: cs, l, hp, h => by
    rw [List.pairwise_cons] at hp
    obtain ⟨h1, h2⟩ := h c List.mem_cons_self
    have := up_len (l := c + 1) hp.2 fun x hx => ⟨hp.1 x hx, (h x (List.mem_cons_of_mem _ hx)).2⟩
    rw [List.length_cons]
    omega
theorem GtOk.len {n : Nat} {g : Gt} (h : GtOk n g) : g.2.length ≤ n := by
  have := up_len (l := 0) h.up fun c hc => ⟨Nat.zero_le _, h.c c hc⟩
  omega
theorem cInts_get {cs : List Nat} {i : Nat} {x : V} (hx : (cInts cs)[i]? = some x) : ∃ m : Nat, cs[i]? = some m ∧ x = .int (m : Int) := by
  unfold cInts at hx
  rw [List.getElem?_map] at hx
  cases e : cs[i]? with
  | none => rw [e] at hx; cases hx
  | some n => rw [e] at hx; exact ⟨n, rfl, (Option.some.inj hx).symm⟩
end Br

/-! ### bits, many gates; comprehensions with a test -/
namespace Br
open PySem PySem.Spec PyProof.Rows L2
theorem x_max {σ : L2.St} {H : Hp} {Q : VK} {K : PySem.W.Frag} {p : Addr} {ns : List Int} (hp : SqL K H p (ns.map V.int)) (h0 : 0 < ns.length) (q : ∀ m, m ∈ ns → (∀ y, y ∈ ns → y ≤ m) → Q (.int m) H) : rMax K [.ref p] H Q := ⟨p, ns, rfl, hp, h0, q⟩
theorem cInts_eq {cs : List Nat} : cInts cs = (cs.map fun (c : Nat) => (c : Int)).map V.int := by
  unfold cInts
  rw [List.map_map]
  rfl
theorem x_listT {K : PySem.W.Frag} {H : Hp} {Q : VK} {p : Addr} {xs : List V} (hp : SqT K H p xs) (q : ∀ l, H l = none → Q (.ref l) (L2.upd H l (.lst xs))) : rListOf K [.ref p] H Q := ⟨p, xs, rfl, .inr hp, q⟩
def bls (bs : List Bool) : List V := bs.map V.bl
theorem bls_get {bs : List Bool} {i : Nat} (h : i < bs.length) : (bls bs)[i]? = some (.bl (bs.getD i false)) := by
  unfold bls
  rw [List.getElem?_map, List.getElem?_eq_getElem h, List.getD_eq_getElem?_getD, List.getElem?_eq_getElem h]
  rfl
theorem bls_set {bs : List Bool} {i : Nat} {b : Bool} : (bls bs).set i (.bl b) = bls (bs.set i b) := by
  unfold bls
  rw [List.map_set]
theorem bls_len {bs : List Bool} : (bls bs).length = bs.length := by unfold bls; rw [List.length_map]
/-- many gates -/
def GtsAt (H : Hp) (as : List Addr) (gs : List Gt) : Prop := as.length = gs.length ∧ ∀ (i : Nat) x b, gs[i]? = some x → as[i]? = some b → GtAt H b x
theorem GtsAt.tups {H H' : Hp} {as : List Addr} {gs : List Gt} (h : GtsAt H as gs) (k : ∀ b xs, H b = some (.tup xs) → H' b = some (.tup xs)) : GtsAt H' as gs := ⟨h.1, fun i x b e1 e2 => (h.2 i x b e1 e2).tups k⟩
theorem GtsAt.get {H : Hp} {as : List Addr} {gs : List Gt} (h : GtsAt H as gs) {i : Nat} {b : Addr} (e : as[i]? = some b) : ∃ x, gs[i]? = some x ∧ GtAt H b x := by
  have hl := (List.getElem?_eq_some_iff.mp e).1
  have hl2 : i < gs.length := by rw [← h.1]; exact hl
  exact ⟨_, List.getElem?_eq_getElem hl2, h.2 i _ b (List.getElem?_eq_getElem hl2) e⟩
theorem take_snocG {α : Type} {ss : List α} {i : Nat} {s : α} (h : ss[i]? = some s) : ss.take (i + 1) = ss.take i ++ [s] := by rw [List.take_add_one, h]; rfl
/-- a comprehension over a tuple, with a test, that keeps the items that meet it -/
theorem x_lcTT {K : PySem.W.Frag} {σ : L2.St} {H : Hp} {Q : VK} {ta : TE} {tt : TT} {te : TE} {j : Nat} {vs : List Nat} {a : Addr} (xs : List V) (P : Addr → Nat → Hp → Prop) (hn : ∀ R : V → Hp → Prop, R (.ref a) H → ta σ H R) (ha : SqT K H a xs) (h0 : ∀ p, H p = none → P p 0 (L2.upd H p (.lst [])))
    (hl : ∀ p i H', H p = none → i ≤ xs.length → P p i H' → SqT K H' a xs) (hw : ∀ x, wipe ((wipe σ vs).set j (some x)) vs = wipe σ vs)
    (hs : ∀ p (i : Nat) x H', H p = none → xs[i]? = some x → P p i H' → tt ((wipe σ vs).set j (some x)) H' fun b H3 => if b = true then te ((wipe σ vs).set j (some x)) H3 fun y H4 => ∃ acc, H4 p = some (.lst acc) ∧ acc.length < sizeLine ∧ P p (i + 1) (L2.upd H4 p (.lst (acc ++ [y]))) else P p (i + 1) H3)
    (hd : ∀ p H', H p = none → P p xs.length H' → Q (.ref p) H') : tLc (iTup K ta) (gName j) tt te vs σ H Q := by
  refine hn _ ⟨a, rfl, ⟨xs, ha⟩, fun p hp => ?_⟩
  refine lc_tup (xs := xs) (Qd := fun H' => Q (.ref p) H') (P p) (h0 p hp) (fun i H' hi q => hl p i H' hp hi q) (fun i x H' hi q => ?_) fun H' q => hd p H' hp q
  exact ⟨hw _, hs p i x H' hp hi q⟩
theorem x_lcPreT {σ : L2.St} {H : Hp} {Q : VK} {ta : TE} {j : Nat} {tt : TT} {te : TE} {vs : List Nat} (h : ta σ H fun v H1 => tLc (iRng1 (tCons (tC v) tNil)) (gName j) tt te vs σ H1 Q) : tLc (iRng1 (tCons ta tNil)) (gName j) tt te vs σ H Q := h
/-- a comprehension over a range, with a test -/
theorem x_lcRT {σ : L2.St} {H : Hp} {Q : VK} {ta : TE} {tt : TT} {j : Nat} {te : TE} {vs : List Nat} (n : Int) (P : Addr → Nat → Hp → Prop) (hn : ∀ R : V → Hp → Prop, R (.int n) H → ta σ H R) (h1 : -(2 ^ 62) ≤ n) (h2 : n < 2 ^ 62) (h0 : ∀ p, H p = none → P p 0 (L2.upd H p (.lst [])))
    (hw : ∀ x, wipe ((wipe σ vs).set j (some x)) vs = wipe σ vs)
    (hs : ∀ p (i : Nat) H', H p = none → (i : Int) < n → P p i H' → tt ((wipe σ vs).set j (some (.int (i : Int)))) H' fun b H3 => if b = true then te ((wipe σ vs).set j (some (.int (i : Int)))) H3 fun y H4 => ∃ acc, H4 p = some (.lst acc) ∧ acc.length < sizeLine ∧ P p (i + 1) (L2.upd H4 p (.lst (acc ++ [y]))) else P p (i + 1) H3)
    (hd : ∀ p H', H p = none → P p n.toNat H' → Q (.ref p) H') : tLc (iRng1 (tCons ta tNil)) (gName j) tt te vs σ H Q := by
  refine hn _ ⟨n, rfl, h1, h2, fun p hp => ?_⟩
  refine lc_range (lo := 0) (Qd := fun H' => Q (.ref p) H') (P p) (h0 p hp) (fun i H' hi q => ?_) fun H' q => hd p H' hp q
  have e : (0 : Int) + (i : Int) = (i : Int) := Int.zero_add _
  rw [e]
  exact ⟨hw _, hs p i H' hp (by omega) q⟩
theorem up_snoc {cs : List Nat} {i : Nat} (h : cs.Pairwise (· < ·)) (hc : ∀ c, c ∈ cs → c < i) : (cs ++ [i]).Pairwise (· < ·) := by
  rw [List.pairwise_append]
  exact ⟨h, List.pairwise_singleton _ _, fun a ha b hb => by rw [List.mem_singleton.mp hb]; exact hc a ha⟩
theorem cInts_snoc {cs : List Nat} {i : Nat} : cInts cs ++ [.int (i : Int)] = cInts (cs ++ [i]) := by unfold cInts; rw [List.map_append]; rfl
theorem cInts_len {cs : List Nat} : (cInts cs).length = cs.length := by unfold cInts; rw [List.length_map]
theorem bls_snoc {bs : List Bool} {b : Bool} : bls bs ++ [.bl b] = bls (bs ++ [b]) := by unfold bls; rw [List.map_append]; rfl
/-- a comprehension of values, item by item -/
theorem x_lcV {wi : TI} {te : TE} {vs : List Nat} {j : Nat} {Q : VK} {σ : L2.St} {H : Hp} {J : It} {G : Hp → Prop} {xs : List V} (f : Nat → V) (hw : ∀ R : It → Hp → Prop, R J H → wi σ H R) (w : Walk J xs.length G (YAt xs)) (hn : xs.length ≤ 100000)
    (hG : ∀ H', Same H H' → G H') (hv : ∀ x, wipe ((wipe σ vs).set j (some x)) vs = wipe σ vs)
    (he : ∀ (i : Nat) x H', Same H H' → xs[i]? = some x → ∀ R : VK, (∀ H2, Same H' H2 → R (f i) H2) → te ((wipe σ vs).set j (some x)) H' R)
    (hd : ∀ p H', H p = none → Same H H' → H' p = some (.lst ((List.range xs.length).map f)) → Q (.ref p) H') : tLc wi (gName j) tYes te vs σ H Q := by
  refine x_lcI hw w (fun p i H' => Same H H' ∧ H' p = some (.lst ((List.range i).map f))) (fun p hp => ⟨same_upd hp, upd_same⟩) (fun p i H' _ _ z => hG H' z.1) ?_ (fun x σ' H' R R' hr h => hr _ _ h) fun p H' hp z => hd p H' hp z.1 z.2
  rintro p i x H' H2 hi hp ⟨hs, hl⟩ ⟨rfl, hx⟩
  refine x_gName ⟨hv x, he i x _ hs hx _ fun H3 hs3 => ?_⟩
  refine ⟨_, hs3 _ _ hl, lt_line (by simp; omega), sput (hs.trans hs3) hp, ?_⟩
  rw [upd_same, List.range_succ, List.map_append]
  rfl
theorem range_map {α β : Type} {ds : List α} {f : α → β} {d : α} : ((List.range ds.length).map fun i => f (ds.getD i d)) = ds.map f := by
  apply List.ext_getElem?
  intro i
  rw [List.getElem?_map, List.getElem?_map]
  by_cases h : i < ds.length
  · rw [List.getElem?_range h, List.getElem?_eq_getElem h]
    show some (f (ds.getD i d)) = some (f ds[i])
    rw [List.getD_eq_getElem?_getD, List.getElem?_eq_getElem h]; rfl
  · rw [List.getElem?_eq_none (by simpa using h), List.getElem?_eq_none (by simpa using h)]
    rfl
theorem getDT {α : Type} {ds : List α} {i : Nat} {e d : α} (h : ds[i]? = some e) : ds.getD i d = e := by rw [List.getD_eq_getElem?_getD, h]; rfl
theorem GtsAt.snoc {H : Hp} {as : List Addr} {gs : List Gt} {b : Addr} {x : Gt} (h : GtsAt H as gs) (hx : GtAt H b x) : GtsAt H (as ++ [b]) (gs ++ [x]) := by
  refine ⟨by rw [List.length_append, List.length_append, h.1]; rfl, fun i y c e1 e2 => ?_⟩
  rcases snoc_at rfl e1 with ⟨h1, e1⟩ | ⟨h1, rfl⟩
  · rcases snoc_at rfl e2 with ⟨h2, e2⟩ | ⟨h2, rfl⟩
    · exact h.2 i y c e1 e2
    · have := h.1; omega
  · rcases snoc_at rfl e2 with ⟨h2, e2⟩ | ⟨h2, rfl⟩
    · have := h.1; omega
    · exact hx
theorem x_lcPreLT {K : PySem.W.Frag} {σ : L2.St} {H : Hp} {Q : VK} {te : TE} {ta : TE} {tt : TT} {j : Nat} {vs : List Nat} (h : ta σ H fun v H1 => tLc (iList K (tC v)) (gName j) tt te vs σ H1 Q) : tLc (iList K ta) (gName j) tt te vs σ H Q := h
/-- a comprehension over a list, with a test -/
theorem x_lcLT {K : PySem.W.Frag} {σ : L2.St} {H : Hp} {Q : VK} {ta : TE} {tt : TT} {te : TE} {j : Nat} {vs : List Nat} {a : Addr} (xs : List V) (P : Addr → Nat → Hp → Prop) (hn : ∀ R : V → Hp → Prop, R (.ref a) H → ta σ H R) (ha : SqL K H a xs) (h0 : ∀ p, H p = none → P p 0 (L2.upd H p (.lst [])))
    (hl : ∀ p i H', H p = none → i ≤ xs.length → P p i H' → SqL K H' a xs) (hw : ∀ x, wipe ((wipe σ vs).set j (some x)) vs = wipe σ vs)
    (hs : ∀ p (i : Nat) x H', H p = none → xs[i]? = some x → P p i H' → tt ((wipe σ vs).set j (some x)) H' fun b H3 => if b = true then te ((wipe σ vs).set j (some x)) H3 fun y H4 => ∃ acc, H4 p = some (.lst acc) ∧ acc.length < sizeLine ∧ P p (i + 1) (L2.upd H4 p (.lst (acc ++ [y]))) else P p (i + 1) H3)
    (hd : ∀ p H', H p = none → P p xs.length H' → Q (.ref p) H') : tLc (iList K ta) (gName j) tt te vs σ H Q := by
  refine hn _ ⟨a, rfl, ⟨xs, ha⟩, fun p hp => ?_⟩
  refine lc_list (xs := xs) (Qd := fun H' => Q (.ref p) H') (P p) (h0 p hp) (fun i H' hi q => hl p i H' hp hi q) (fun i x H' hi q => ?_) fun H' q => hd p H' hp q
  exact ⟨hw _, hs p i x H' hp hi q⟩
def bitsD (n : Int) : PyData → Bool
  | .list es => decide (n ≤ (es.length : Int)) && es.all isBlD
  | _ => false
def blsD (bs : List Bool) : PyData := .list (bs.map PyData.bool)
theorem bitsD_iff {n : Int} {e : PyData} : bitsD n e = true ↔ ∃ bs : List Bool, e = blsD bs ∧ n ≤ (bs.length : Int) := by
  constructor
  · intro h
    cases e with
    | list es =>
      have h : (decide (n ≤ (es.length : Int)) && es.all isBlD) = true := h
      rw [Bool.and_eq_true, decide_eq_true_iff] at h
      have : ∀ es : List PyData, es.all isBlD = true → ∃ bs : List Bool, es = bs.map PyData.bool := by
        intro es
        induction es with
        | nil => intro _; exact ⟨[], rfl⟩
        | cons e es ih =>
          intro h
          rw [List.all_cons, Bool.and_eq_true] at h
          obtain ⟨bs, rfl⟩ := ih h.2
          cases e with
          | bool b => exact ⟨b :: bs, rfl⟩
          | _ => cases h.1
      obtain ⟨bs, rfl⟩ := this es h.2
      exact ⟨bs, rfl, by have := h.1; rw [List.length_map] at this; exact this⟩
    | _ => cases h
  · rintro ⟨bs, rfl, h⟩
    show (decide (n ≤ ((bs.map PyData.bool).length : Int)) && (bs.map PyData.bool).all isBlD) = true
    rw [List.length_map, decide_eq_true h, Bool.true_and, List.all_eq_true]
    intro e he
    obtain ⟨b, _, rfl⟩ := List.mem_map.mp he
    rfl
theorem blsD_at {d : Addr} {H : Hp} {v : V} {bs : List Bool} (h : DAt d H v (blsD bs)) : ∃ a, v = .ref a ∧ H a = some (.lst (bls bs)) := by
  unfold blsD at h
  cases h with
  | lst hd h hs =>
    rename_i a xs
    refine ⟨a, rfl, ?_⟩
    have : ∀ {bs : List Bool} {xs : List V}, DAts d H xs (bs.map PyData.bool) → xs = bls bs := by
      intro bs
      induction bs with
      | nil => intro xs h; cases h; rfl
      | cons b bs ih =>
        intro xs h
        cases h with
        | cons h hs =>
          cases h
          rw [ih hs]
          rfl
    rw [h, this hs]
end Br

/-! ### words as data, and what they do -/
namespace Br
open PySem PySem.Spec PyProof.Rows L2
theorem cutV_to {xs : List V} {k : Nat} (h : k ≤ xs.length) : cutV xs none (some (k : Int)) = xs.take k := by
  unfold cutV
  rw [HT.sIx_none, HT.sIx_nat, Nat.min_eq_left h, List.drop_zero, Nat.sub_zero]
theorem cutV_from {xs : List V} {k : Nat} (h : k ≤ xs.length) : cutV xs (some (k : Int)) none = xs.drop k := by
  unfold cutV
  rw [HT.sIx_none, HT.sIx_nat, Nat.min_eq_left h]
  exact List.take_of_length_le (by rw [List.length_drop]; exact Nat.le_refl _)
/-! slices -/
section
variable {σ : L2.St} {H : Hp} {Q : VK} {R : Option Int → Hp → Prop}
theorem x_gTup3 {K : PySem.W.Frag} {σ : L2.St} {H : Hp} {p : Addr} {x y z : V} {i j k : Nat} {R : L2.St → Hp → Prop} (hp : SqT K H p [x, y, z]) (h : R (((σ.set i (some x)).set j (some y)).set k (some z)) H) : gTup K 3 (gCons (gName i) (gCons (gName j) (gCons (gName k) gNil))) (.ref p) σ H R :=
  ⟨p, [x, y, z], rfl, hp, rfl, x, [y, z], rfl, y, [z], rfl, z, [], rfl, rfl, h⟩
end
structure PmOk (p : List Nat) : Prop where
  len : p.length = 5
  lt : ∀ x, x ∈ p → x < 5
  nd : p.Nodup
abbrev Tr := Nat × List Nat × List Nat
def TrOk (t : Tr) : Prop := t.1 < 60 ∧ PmOk t.2.1 ∧ PmOk t.2.2
def pmD (p : List Nat) : PyData := .tuple (p.map fun (c : Nat) => PyData.int (c : Int))
def trD (t : Tr) : PyData := .tuple [.int (t.1 : Int), pmD t.2.1, pmD t.2.2]
def TrAt (H : Hp) (a : Addr) (t : Tr) : Prop := ∃ z o : Addr, H a = some (.tup [.int (t.1 : Int), .ref z, .ref o]) ∧ H z = some (.tup (cInts t.2.1)) ∧ H o = some (.tup (cInts t.2.2))
theorem TrAt.tups {H H' : Hp} {a : Addr} {t : Tr} (h : TrAt H a t) (k : ∀ b xs, H b = some (.tup xs) → H' b = some (.tup xs)) : TrAt H' a t := by
  obtain ⟨z, o, h1, h2, h3⟩ := h
  exact ⟨z, o, k _ _ h1, k _ _ h2, k _ _ h3⟩
theorem TrAt.dat {d a : Addr} {H : Hp} {t : Tr} (h : TrAt H a t) : DAt d H (.ref a) (trD t) := by
  obtain ⟨z, o, h1, h2, h3⟩ := h
  exact .tup h1 (.cons (.int _) (.cons (.tup h2 cInts_at) (.cons (.tup h3 cInts_at) .nil)))
/-- back from data -/
theorem cInts_of {d : Addr} {H : Hp} : ∀ {xs : List V} {cs : List Nat}, DAts d H xs (cs.map fun (c : Nat) => PyData.int (c : Int)) → xs = cInts cs
  | [], [], _ => rfl
  | v :: xs, c :: cs, h => by
    cases h with
    | cons h hs =>
      cases h
      rw [cInts_of hs]
      rfl
  | [], _ :: _, h => by cases h
  | _ :: _, [], h => by cases h
theorem pmD_at {d : Addr} {H : Hp} {v : V} {p : List Nat} (h : DAt d H v (pmD p)) : ∃ z, v = .ref z ∧ H z = some (.tup (cInts p)) := by
  unfold pmD at h
  cases h with
  | tup h hs =>
    rename_i a xs
    refine ⟨a, rfl, ?_⟩
    rw [h, cInts_of hs]
theorem trD_at {d : Addr} {H : Hp} {v : V} {t : Tr} (h : DAt d H v (trD t)) : ∃ a, v = .ref a ∧ TrAt H a t := by
  unfold trD at h
  cases h with
  | tup h hs =>
    rename_i a xs
    cases hs with
    | cons h1 hs =>
      cases h1
      cases hs with
      | cons h2 hs =>
        cases hs with
        | cons h3 hs =>
          cases hs
          obtain ⟨z, rfl, e2⟩ := pmD_at h2
          obtain ⟨o, rfl, e3⟩ := pmD_at h3
          exact ⟨a, rfl, z, o, h, e2, e3⟩
/-- the checks -/
def intD : PyData → Int
  | .int i => i
  | _ => 0
def permD : PyData → Bool
  | .tuple es => decide (es.length = 5) && (es.all (isBD 5) && decide (es.map intD).Nodup)
  | _ => false
def tripD : PyData → Bool
  | .tuple [k, z, o] => isBD 60 k && (permD z && permD o)
  | _ => false
def wordD : PyData → Bool
  | .list es => decide (es.length ≤ 20000) && es.all tripD
  | _ => false
theorem ints_nat : ∀ {es : List PyData} {b : Nat}, es.all (isBD (b : Int)) = true → ∃ cs : List Nat, es = cs.map (fun (c : Nat) => PyData.int (c : Int)) ∧ ∀ c, c ∈ cs → c < b
  | [], _, _ => ⟨[], rfl, fun c h => by simp at h⟩
  | e :: es, b, h => by
    rw [List.all_cons, Bool.and_eq_true] at h
    obtain ⟨i, rfl, i0, i1⟩ := isBD_iff.mp h.1
    obtain ⟨cs, rfl, hc⟩ := ints_nat h.2
    refine ⟨i.toNat :: cs, ?_, fun c hc' => ?_⟩
    · rw [List.map_cons]
      congr 2
      omega
    · rcases List.mem_cons.mp hc' with rfl | hc'
      · omega
      · exact hc c hc'
theorem map_intD {cs : List Nat} : (cs.map fun (c : Nat) => PyData.int (c : Int)).map intD = cs.map fun (c : Nat) => (c : Int) := by rw [List.map_map]; rfl
theorem nodup_cast {cs : List Nat} : (cs.map fun (c : Nat) => (c : Int)).Nodup ↔ cs.Nodup := by
  unfold List.Nodup
  rw [List.pairwise_map]
  exact ⟨fun h => h.imp fun hh e => hh (by rw [e]), fun h => h.imp fun hh e => hh (Int.ofNat.inj e)⟩
theorem permD_iff {e : PyData} : permD e = true ↔ ∃ p, e = pmD p ∧ PmOk p := by
  constructor
  · intro h
    cases e with
    | tuple es =>
      have h : (decide (es.length = 5) && (es.all (isBD 5) && decide (es.map intD).Nodup)) = true := h
      rw [Bool.and_eq_true, Bool.and_eq_true (es.all _), decide_eq_true_iff, decide_eq_true_iff] at h
      obtain ⟨h1, h2, h3⟩ := h
      obtain ⟨cs, rfl, hc⟩ := ints_nat (b := 5) h2
      rw [map_intD, nodup_cast] at h3
      exact ⟨cs, rfl, by rw [List.length_map] at h1; exact h1, hc, h3⟩
    | _ => cases h
  · rintro ⟨p, rfl, h⟩
    show (decide ((p.map _).length = 5) && ((p.map _).all (isBD 5) && decide ((p.map _).map intD).Nodup)) = true
    rw [map_intD, List.length_map, decide_eq_true h.len, decide_eq_true (nodup_cast.mpr h.nd), Bool.and_true, Bool.true_and, List.all_eq_true]
    intro x hx
    obtain ⟨c, hc, rfl⟩ := List.mem_map.mp hx
    exact isBD_iff.mpr ⟨_, rfl, by omega, by have := h.lt c hc; omega⟩
theorem tripD_iff {e : PyData} : tripD e = true ↔ ∃ t, e = trD t ∧ TrOk t := by
  constructor
  · intro h
    match e, h with
    | .tuple [k, z, o], h =>
      have h : (isBD 60 k && (permD z && permD o)) = true := h
      rw [Bool.and_eq_true, Bool.and_eq_true (permD z)] at h
      obtain ⟨i, rfl, i0, i1⟩ := isBD_iff.mp h.1
      obtain ⟨p, rfl, hp⟩ := permD_iff.mp h.2.1
      obtain ⟨p2, rfl, hp2⟩ := permD_iff.mp h.2.2
      refine ⟨(i.toNat, p, p2), ?_, by show i.toNat < 60; omega, hp, hp2⟩
      show PyData.tuple _ = .tuple [.int ((i.toNat : Nat) : Int), _, _]
      rw [show ((i.toNat : Nat) : Int) = i by omega]
  · rintro ⟨t, rfl, h1, h2, h3⟩
    show (isBD 60 (.int (t.1 : Int)) && (permD (pmD t.2.1) && permD (pmD t.2.2))) = true
    rw [isBD_iff.mpr ⟨_, rfl, by omega, by omega⟩, permD_iff.mpr ⟨_, rfl, h2⟩, permD_iff.mpr ⟨_, rfl, h3⟩]
    rfl
theorem trips_of : ∀ {es : List PyData}, es.all tripD = true → ∃ ws : List Tr, es = ws.map trD ∧ ∀ t, t ∈ ws → TrOk t
  | [], _ => ⟨[], rfl, fun t h => by simp at h⟩
  | e :: es, h => by
    rw [List.all_cons, Bool.and_eq_true] at h
    obtain ⟨t, rfl, ht⟩ := tripD_iff.mp h.1
    obtain ⟨ws, rfl, hw⟩ := trips_of h.2
    refine ⟨t :: ws, rfl, fun x hx => ?_⟩
    rcases List.mem_cons.mp hx with rfl | hx
    · exact ht
    · exact hw x hx
theorem wordD_iff {e : PyData} : wordD e = true ↔ ∃ ws : List Tr, e = .list (ws.map trD) ∧ ws.length ≤ 20000 ∧ ∀ t, t ∈ ws → TrOk t := by
  constructor
  · intro h
    cases e with
    | list es =>
      have h : (decide (es.length ≤ 20000) && es.all tripD) = true := h
      rw [Bool.and_eq_true, decide_eq_true_iff] at h
      obtain ⟨ws, rfl, hw⟩ := trips_of h.2
      exact ⟨ws, rfl, by have := h.1; rw [List.length_map] at this; exact this, hw⟩
    | _ => cases h
  · rintro ⟨ws, rfl, hl, hw⟩
    show (decide ((ws.map trD).length ≤ 20000) && (ws.map trD).all tripD) = true
    rw [List.length_map, decide_eq_true hl, Bool.true_and, List.all_eq_true]
    intro x hx
    obtain ⟨t, ht, rfl⟩ := List.mem_map.mp hx
    exact tripD_iff.mpr ⟨t, rfl, hw t ht⟩
/-- what a word does -/
def stepW (bs : List Bool) (p : Nat) (t : Tr) : Nat := (if bs.getD t.1 false then t.2.2 else t.2.1).getD p 0
def effF (ws : List Tr) (bs : List Bool) (p : Nat) : Nat := ws.foldl (stepW bs) p
theorem effF_snoc {ws : List Tr} {t : Tr} {bs : List Bool} {p : Nat} : effF (ws ++ [t]) bs p = stepW bs (effF ws bs p) t := by
  unfold effF
  rw [List.foldl_append]
  rfl
theorem pm_get {p : List Nat} (h : PmOk p) {i : Nat} (hi : i < 5) : p[i]? = some (p.getD i 0) ∧ p.getD i 0 < 5 := by
  have hl : i < p.length := by rw [h.len]; exact hi
  have e : p.getD i 0 = p[i] := by rw [List.getD_eq_getElem?_getD, List.getElem?_eq_getElem hl]; rfl
  rw [e]
  exact ⟨List.getElem?_eq_getElem hl, h.lt _ (List.getElem_mem hl)⟩
theorem effF_lt {bs : List Bool} : ∀ {ws : List Tr} {p : Nat}, (∀ t, t ∈ ws → TrOk t) → p < 5 → effF ws bs p < 5
  | [], _, _, hp => hp
  | t :: ws, p, h, hp => by
    have ht := h t List.mem_cons_self
    refine effF_lt (p := stepW bs p t) (fun x hx => h x (List.mem_cons_of_mem _ hx)) ?_
    unfold stepW
    split
    · exact (pm_get ht.2.2 hp).2
    · exact (pm_get ht.2.1 hp).2
/-- the bits that a word needs -/
def needW (ws : List Tr) : Nat := (ws.map fun t => t.1 + 1).foldr max 0
theorem needW_le {ws : List Tr} {t : Tr} (h : t ∈ ws) : t.1 + 1 ≤ needW ws := (foldr_max (cs := ws.map fun t => t.1 + 1) (t := 0)).2.1 _ (List.mem_map.mpr ⟨t, h, rfl⟩)
theorem needW_max {ws : List Tr} {m : Int} (h : (ws = [] ∧ m = 0) ∨ (m ∈ ws.map (fun t => ((t.1 : Int) + 1)) ∧ ∀ y, y ∈ ws.map (fun t => ((t.1 : Int) + 1)) → y ≤ m)) : m = (needW ws : Nat) := by
  rcases h with ⟨rfl, rfl⟩ | ⟨h1, h2⟩
  · rfl
  · obtain ⟨t, ht, rfl⟩ := List.mem_map.mp h1
    have k1 := needW_le ht
    have k2 : (needW ws : Int) ≤ (t.1 : Int) + 1 := by
      rcases (foldr_max (cs := ws.map fun t => t.1 + 1) (t := 0)).2.2 with e | e
      · have : needW ws = 0 := e
        omega
      · obtain ⟨u, hu, e⟩ := List.mem_map.mp e
        have := h2 _ (List.mem_map.mpr ⟨u, hu, rfl⟩)
        have e : u.1 + 1 = needW ws := e
        omega
    omega
theorem needW_60 {ws : List Tr} (h : ∀ t, t ∈ ws → TrOk t) : needW ws ≤ 60 := by
  rcases (foldr_max (cs := ws.map fun t => t.1 + 1) (t := 0)).2.2 with e | e
  · have : needW ws = 0 := e
    omega
  · obtain ⟨u, hu, e⟩ := List.mem_map.mp e
    have := (h u hu).1
    have e : u.1 + 1 = needW ws := e
    omega
end Br

/-! ### exceptions of the program: what a suite asks of the one it holds -/
namespace Br
open PySem PySem.Spec PyProof.Rows L2
theorem kit_ref {K : PySem.W.Frag} {D Y : Addr} {b : Bool} (hd : PySem.W.hasDictIn K Y = true) (ht : PySem.W.typeIn K (.ref Y) = some (.type "type")) (h : PySem.W.subIn K (.ref D) (.ref Y) = some b) (hs : PySem.W.subIn K (.ref Y) (.ref Y) = some true) : PySem.W.kitOne K (.ref D) (.ref Y) = some b := by
  unfold PySem.W.kitOne
  by_cases e : D = Y
  · subst e
    rw [h] at hs
    cases hs
    rw [if_pos (by simp)]
  · have hne : ((Value.ref D : Value) == Value.ref Y) = false := by
      rw [beq_eq_false_iff_ne]
      intro z
      cases z
      exact e rfl
    rw [hne, if_neg Bool.false_ne_true]
    obtain ⟨cd, hc, _⟩ := PySem.W.any_some hd
    have e2 : ((PySem.W.clsIn K Y).isSome && PySem.W.typeIn K (.ref Y) == some (.type "type")) = true := by rw [hc, ht]; rfl
    show (if ((PySem.W.clsIn K Y).isSome && PySem.W.typeIn K (.ref Y) == some (.type "type")) = true then PySem.W.subIn K (.ref D) (.ref Y) else none) = some b
    rw [if_pos e2]
    exact h
/-- isinstance(e, c), e what the suite holds, of whatever class -/
def rIsEQ (K : PySem.W.Frag) (a : Addr) (cls : Value) (d : Option Addr) : List V → Hp → VK → Prop := fun xs H Q => ∃ (D : Addr) (C : Addr) (b : Bool), cls = .ref D ∧ d = none ∧ ExcC K D ∧ xs = [.ref a, .ref C] ∧ PySem.W.kitOne K (.ref D) (.ref C) = some b ∧ Q (.bl b) H
theorem call_isEQ {X : Cx} {a : Addr} {oe : Obj} {cls : Value} {d : Option Addr} {pn : List (Addr × Obj)} {K : PySem.W.Frag} (hK : X.K = K) (hz : Zc cls d oe) (hf : ∃ vs, oe.data = .fields vs) : CallR (X.suite a ((a, oe) :: pn)) (.builtin "isinstance") (rIsEQ K a cls d) := by
  subst hK
  intro pins s σ H xs us Q I r h
  obtain ⟨D, C, b, rfl, rfl, hC, rfl, hk, q⟩ := h
  exact call_isE hC hz hf pins s σ H _ us Q I r ⟨.ref C, .ref C, b, rfl, fun u hu => hu, hk, q⟩
section
variable {σ : L2.St} {H : Hp} {D : Ends}
theorem x_callS {sp : Sp} {E : L2.St → XK} {t : TA} {Q : VK} (h : t σ H fun vs H1 => sp vs H1 Q (E σ)) : tCallS sp E t σ H Q := h
end
/-- a method's call within a try: what it raises is wished for at the slots as they stand -/
def tMethX (C : Addr) (m : Str) (sp : Sp) (E : L2.St → XK) (ta : TE) (t : TA) : TE := fun σ H Q => ta σ H fun x H1 => ∃ a dx fs, x = .ref a ∧ H1 a = some (.ins C dx fs) ∧ fs.lookup m = none ∧ t σ H1 fun vs H2 => sp (x :: vs) H2 Q (E σ)
theorem pe_methX {X : Cx} {CX : CXT} {k : Nat} {f C : Addr} {fd : FuncData} {ps : List Str} {sp : Sp} {E : L2.St → XK} {m : Str} {pos apos : Pos} {e o : Expr} {es : List Expr} {ta : TE} {t : TA} {pl : Sem Bool} (he : PE X o ta) (c : Cls X.K C) (hm : Meth X.K C m f)
    (F : FnOk X.prog X.w X.K X.mg X.base CX k f fd ps sp) (hr : Room k X.A) (hb : Binds X.K fd ps []) (hx : ∀ σ, PassesAt CX X σ (E σ)) (ha : PA X (e :: es) t)
    (hst : starEach (e :: es) X.env = (false, eval e X.env) :: starEach es X.env := by rfl) (hpl : (backTo pos (starEach es X.env)).any (·.1) = false := by rfl)
    (ht : eval (.Call (.Attribute o m apos) (e :: es) [] pos) X.env = (do
      let ov ← eval o X.env
      standAt apos.atName
      let (f, first) ← holding [ov] (getMethod ov m pl)
      callWith pos f first (backTo pos (starEach (e :: es) X.env)) (backToKw pos (keywordEach [] X.env))) := by rfl) :
    PE X (.Call (.Attribute o m apos) (e :: es) [] pos) (tMethX C m sp E ta t) := by
  refine ⟨fun pins s σ H Q I h => ?_⟩
  refine PySem.W.methodCall_KW (pl := pl) (thn (he.run pins s σ H _ I h) fun u s1 ⟨x, H1, I1, rx, a, dx, fs, ex, ea, l, q⟩ => ?_) ht
  subst ex
  obtain rfl : u = Value.ref a := rx
  refine getmeth_ok I1 ea c hm l ?_
  refine PySem.W.callWith_K (first := [.ref a]) (h₀ := X.base) I.ok.mod.kin hm.kp (thn (ha.run pos pins s1 σ H1 _ I1 q) fun us s2 ⟨vs, H2, I2, r, q2⟩ => ⟨I2.kIn, ?_⟩) hst hpl
  exact run_fnS (us := .ref a :: us) (vs := .ref a :: vs) F hr hb (hx σ) I2 (.cons rfl r) q2
theorem x_methX {C : Addr} {m : Str} {sp : Sp} {E : L2.St → XK} {ta : TE} {t : TA} {σ : L2.St} {H : Hp} {Q : VK} (h : ta σ H fun x H1 => ∃ a dx fs, x = .ref a ∧ H1 a = some (.ins C dx fs) ∧ fs.lookup m = none ∧ t σ H1 fun vs H2 => sp (x :: vs) H2 Q (E σ)) : tMethX C m sp E ta t σ H Q := h
/-! texts with numbers -/
theorem x_fmt {te : TE} {σ : L2.St} {H : Hp} {Q : VK} (h : te σ H fun x H1 => (∃ y : Str, x = .str y ∧ y.length ≤ sizeLine ∧ Q (.str y) H1) ∨ ∃ i : Int, x = .int i ∧ i.natAbs.log2 < 1920 ∧ Q (.str (toString i)) H1) : tFmt te σ H Q := h
theorem len_nat {n : Nat} (h : n < 10 ^ 10) : (Str.ofString (toString (n : Int))).length ≤ 10 := toString_length_le (Int.natCast_nonneg n) (by decide) (by exact_mod_cast h)
theorem log_nat {n : Nat} (h : n < 2 ^ 64) : ((n : Int)).natAbs.log2 < 1920 := by
  rw [Int.natAbs_natCast]
  by_cases h0 : n = 0
  · subst h0; decide
  · have := (Nat.log2_lt h0).mpr h
    omega
end Br
/-! isinstance(e, (C1, C2, ..)), e what the suite holds -/
namespace Br
open PySem PySem.Spec PyProof.Rows L2
def rIsEQT (K : PySem.W.Frag) (a : Addr) (cls : Value) (d : Option Addr) : List V → Hp → VK → Prop := fun xs H Q => ∃ (D tp : Addr) (cs : List V) (us : List Value) (b : Bool), cls = .ref D ∧ d = none ∧ ExcC K D ∧ xs = [.ref a, .ref tp] ∧ H tp = some (.tup cs) ∧ Paired ClsV cs us ∧ PySem.W.kitAny K (.ref D) us = some b ∧ Q (.bl b) H
theorem call_isEQT {X : Cx} {a : Addr} {oe : Obj} {cls : Value} {d : Option Addr} {pn : List (Addr × Obj)} {K : PySem.W.Frag} (hK : X.K = K) (hz : Zc cls d oe) (hf : ∃ vs, oe.data = .fields vs) : CallR (X.suite a ((a, oe) :: pn)) (.builtin "isinstance") (rIsEQT K a cls d) := by
  subst hK
  intro pins s σ H xs us Q I r h
  obtain ⟨D, tp, cs, ws, b, rfl, rfl, C, rfl, hT, k, e, q⟩ := h
  obtain ⟨u1, u2, rfl, rx, rt⟩ := vals2 r
  cases (show u2 = Value.ref tp from rt)
  cases (show u1 = Value.ref a from rx)
  obtain ⟨hget, _⟩ := I.pin (a, oe) (List.mem_append.mpr (.inl List.mem_cons_self))
  obtain ⟨vs, hv⟩ := hf
  have J : PySem.W.InstAt s.heap a oe D none := by
    obtain ⟨oc, od, oda, osl⟩ := oe
    obtain ⟨h1, h2⟩ := hz
    dsimp only at h1 h2 hv
    subst h1 h2 hv
    exact ⟨hget, rfl, rfl, trivial⟩
  obtain ⟨_, its, rv, o, h1, h2, n, h3⟩ := (show ObjOk _ _ H s.heap tp (.tup cs) from I.hok tp _ hT)
  have e3 := ClsV.all k rv
  subst e3
  obtain ⟨oc, od, dt, sl⟩ := o
  simp only at h2 h3
  subst h2 h3
  exact PySem.W.kia_tup (PySem.W.handS_kitx_exc C.hg C.hk C.hs C.hd C.ha C.hn C.ht C.hm) I.kIn J h1 e (fun z => nomatch z) fun tk => ⟨.bl b, H, I.kept (t' := tk) fun _ _ z => z, rfl, q⟩
end Br
namespace Br
open PySem PySem.Spec PyProof.Rows L2
/-! isinstance(e, ValueError), e what the suite holds -/
def rIsEV (K : PySem.W.Frag) (a : Addr) (cls : Value) (d : Option Addr) : List V → Hp → VK → Prop := fun xs H Q => ∃ (D : Addr) (T : String) (b : Bool), cls = .ref D ∧ d = none ∧ ExcC K D ∧ xs = [.ref a, .ty T] ∧ PySem.W.kitOne K (.ref D) (.type T) = some b ∧ Q (.bl b) H
theorem call_isEV {X : Cx} {a : Addr} {oe : Obj} {cls : Value} {d : Option Addr} {pn : List (Addr × Obj)} {K : PySem.W.Frag} (hK : X.K = K) (hz : Zc cls d oe) (hf : ∃ vs, oe.data = .fields vs) : CallR (X.suite a ((a, oe) :: pn)) (.builtin "isinstance") (rIsEV K a cls d) := by
  subst hK
  intro pins s σ H xs us Q I r h
  obtain ⟨D, T, b, rfl, rfl, hC, rfl, hk, q⟩ := h
  exact call_isE hC hz hf pins s σ H _ us Q I r ⟨.ty T, .type T, b, rfl, fun u hu => hu, hk, q⟩
theorem kit_val {K : PySem.W.Frag} {D : Addr} (h : PySem.W.subIn K (.ref D) (.type "ValueError") = some true) : PySem.W.kitOne K (.ref D) (.type "ValueError") = some true := by
  unfold PySem.W.kitOne
  rw [if_neg (by rw [show ((Value.ref D : Value) == Value.type "ValueError") = false from rfl]; decide)]
  show (if PySem.W.kitMeta "ValueError" = true then PySem.W.subIn K (.ref D) (.type "ValueError") else none) = some true
  rw [if_pos (by decide +kernel)]
  exact h
end Br

/-! ### data: changes elsewhere, changes of an item -/
namespace Br
open PySem PySem.Spec PyProof.Rows L2
section
variable {d c : Addr} {H H' : Hp}
mutual
theorem DAt.keep2 (hc : ∃ ys, H c = some (.lst ys)) (k : Keep c H H') : ∀ (e : PyData) {v : V}, DAt c H v e → DAt d H v e → DAt d H' v e
  | .none, _, _, h => by cases h; exact .non
  | .bool b, _, _, h => by cases h; exact .bl b
  | .int i, _, _, h => by cases h; exact .int i
  | .str x, _, _, h => by cases h; exact .str x
  | .list ds, _, h1, h => by
    cases h1 with
    | lst hn1 h1 hs1 =>
      cases h with
      | lst hn h hs =>
        rw [h] at h1
        cases h1
        exact .lst hn (k _ _ h hn1) (DAts.keep2 hc k ds hs1 hs)
  | .tuple ds, _, h1, h => by
    obtain ⟨ys, hc'⟩ := id hc
    cases h1 with
    | tup h1 hs1 =>
      cases h with
      | tup h hs =>
        rw [h] at h1
        cases h1
        exact .tup (k _ _ h (ne_of h hc' (by intro z; cases z))) (DAts.keep2 hc k ds hs1 hs)
  | .dict _, _, _, h => by cases h
theorem DAts.keep2 (hc : ∃ ys, H c = some (.lst ys)) (k : Keep c H H') : ∀ (es : List PyData) {vs : List V}, DAts c H vs es → DAts d H vs es → DAts d H' vs es
  | [], _, _, h => by cases h; exact .nil
  | e :: es, _, h1, h => by
    cases h1 with
    | cons h1 hs1 =>
      cases h with
      | cons h hs => exact .cons (DAt.keep2 hc k e h1 h) (DAts.keep2 hc k es hs1 hs)
end
theorem DAts.set : ∀ {xs : List V} {es : List PyData} {i : Nat} {v : V} {e : PyData}, DAts d H xs es → DAt d H v e → DAts d H (xs.set i v) (es.set i e)
  | [], _, _, _, _, h, _ => by cases h; exact .nil
  | x :: xs, _, i, v, e, h, h1 => by
    cases h with
    | cons h hs =>
      cases i with
      | zero => exact .cons h1 hs
      | succ i => exact .cons h (hs.set h1)
theorem DAts.take : ∀ {xs : List V} {es : List PyData} {n : Nat}, DAts d H xs es → DAts d H (xs.take n) (es.take n)
  | [], _, n, h => by cases h; cases n <;> exact .nil
  | x :: xs, _, 0, h => by cases h; exact .nil
  | x :: xs, _, n + 1, h => by
    cases h with
    | cons h hs => exact .cons h hs.take
theorem DAts.drop : ∀ {xs : List V} {es : List PyData} {n : Nat}, DAts d H xs es → DAts d H (xs.drop n) (es.drop n)
  | [], _, n, h => by cases h; cases n <;> exact .nil
  | x :: xs, _, 0, h => h
  | x :: xs, _, n + 1, h => by
    cases h with
    | cons h hs => exact hs.drop
/-- a value that needs no object -/
def FlatD (v : V) (e : PyData) : Prop := ∀ d H, DAt d H v e
/-- data apart from every list that stood before -/
def DNew (H0 H : Hp) (v : V) (e : PyData) : Prop := ∀ p, H0 p ≠ none → DAt p H v e
theorem FlatD.new {H0 H : Hp} {v : V} {e : PyData} (h : FlatD v e) : DNew H0 H v e := fun p _ => h p H
end
theorem x_andP {t u : TT} {σ : L2.St} {H : Hp} {QT : Bool → Hp → Prop} (b1 b2 : Bool) (h1 : ∀ R : Bool → Hp → Prop, R b1 H → t σ H R) (h2 : b1 = true → ∀ R : Bool → Hp → Prop, R b2 H → u σ H R) (h : QT (b1 && b2) H) : tAnd t u σ H QT := by
  refine h1 _ ?_
  cases b1 with
  | true => exact iteT (h2 rfl _ h)
  | false => exact iteF h
theorem x_orI {u : TT} {σ : L2.St} {H : Hp} {QT : Bool → Hp → Prop} {b1 : Bool} (b2 : Bool) (h2 : b1 = false → ∀ R : Bool → Hp → Prop, R b2 H → u σ H R) (h : QT (b1 || b2) H) : if b1 = true then QT true H else u σ H QT := by
  cases b1 with
  | true => exact iteT h
  | false => exact iteF (h2 rfl _ h)
theorem x_andI {u : TT} {σ : L2.St} {H : Hp} {QT : Bool → Hp → Prop} {b1 : Bool} (b2 : Bool) (h2 : b1 = true → ∀ R : Bool → Hp → Prop, R b2 H → u σ H R) (h : QT (b1 && b2) H) : if b1 = true then u σ H QT else QT false H := by
  cases b1 with
  | true => exact iteT (h2 rfl _ h)
  | false => exact iteF h
end Br

/-! ### what is a list of gates, read back -/
namespace Br
open PySem PySem.Spec PyProof.Rows L2
theorem risF_nat : ∀ {es : List PyData} {l : Int}, -1 ≤ l → risF l es = true → ∃ cs : List Nat, es = cs.map (fun (c : Nat) => PyData.int (c : Int)) ∧ cs.Pairwise (· < ·) ∧ ∀ c, c ∈ cs → c < 120 ∧ l < (c : Int)
  | [], _, _, _ => ⟨[], rfl, .nil, fun c h => by simp at h⟩
  | .int i :: es, l, hl, hr => by
    have hr : ((decide (0 ≤ i) && decide (i < 120)) && (decide (l < i) && risF i es)) = true := hr
    rw [Bool.and_eq_true, Bool.and_eq_true (decide (l < i)), Bool.and_eq_true, decide_eq_true_iff, decide_eq_true_iff, decide_eq_true_iff] at hr
    obtain ⟨⟨h0, h1⟩, h2, h3⟩ := hr
    obtain ⟨cs, rfl, hp, hc⟩ := risF_nat (by omega) h3
    obtain ⟨c, rfl⟩ : ∃ c : Nat, i = (c : Int) := ⟨i.toNat, by omega⟩
    refine ⟨c :: cs, rfl, List.pairwise_cons.mpr ⟨fun x hx => by have := (hc x hx).2; omega, hp⟩, fun x hx => ?_⟩
    rcases List.mem_cons.mp hx with rfl | hx
    · omega
    · have := hc x hx
      omega
  | .none :: _, _, _, hr => by cases hr
  | .bool _ :: _, _, _, hr => by cases hr
  | .str _ :: _, _, _, hr => by cases hr
  | .list _ :: _, _, _, hr => by cases hr
  | .tuple _ :: _, _, _, hr => by cases hr
  | .dict _ :: _, _, _, hr => by cases hr
theorem gateD_iff {e : PyData} : gateD e = true ↔ ∃ g, e = gtD g ∧ GtOk 120 g := by
  constructor
  · intro h
    match e, h with
    | .tuple [t, .tuple es], h =>
      have h : (isBD 120 t && (risF (-1) es && !hasD t es)) = true := h
      rw [Bool.and_eq_true, Bool.and_eq_true] at h
      obtain ⟨h1, h2, h3⟩ := h
      obtain ⟨i, rfl, i0, i1⟩ := isBD_iff.mp h1
      obtain ⟨cs, rfl, hp, hc⟩ := risF_nat (by decide) h2
      obtain ⟨t, rfl⟩ : ∃ c : Nat, i = (c : Int) := ⟨i.toNat, by omega⟩
      refine ⟨(t, cs), rfl, ⟨by show t < 120; omega, fun c hc2 => (hc c hc2).1, fun hm => ?_, hp⟩⟩
      have hf : hasD (.int (t : Int)) (cs.map fun (c : Nat) => PyData.int (c : Int)) = false := by simpa using h3
      unfold hasD at hf
      rw [List.any_eq_false] at hf
      exact hf (.int (t : Int)) (List.mem_map.mpr ⟨t, hm, rfl⟩) (by show decide ((t : Int) = (t : Int)) = true; exact decide_eq_true rfl)
  · rintro ⟨g, rfl, ok⟩
    exact gateD_ok ok
theorem gatesD_iff {e : PyData} : gatesD e = true ↔ ∃ gs : List Gt, e = .list (gs.map gtD) ∧ gs.length ≤ 60000 ∧ ∀ g, g ∈ gs → GtOk 120 g := by
  constructor
  · intro h
    cases e with
    | list es =>
      have h : (decide (es.length ≤ 60000) && es.all gateD) = true := h
      rw [Bool.and_eq_true, decide_eq_true_iff] at h
      have : ∀ es : List PyData, es.all gateD = true → ∃ gs : List Gt, es = gs.map gtD ∧ ∀ g, g ∈ gs → GtOk 120 g := by
        intro es
        induction es with
        | nil => intro _; exact ⟨[], rfl, fun g h => by simp at h⟩
        | cons e es ih =>
          intro h
          rw [List.all_cons, Bool.and_eq_true] at h
          obtain ⟨gs, rfl, hg⟩ := ih h.2
          obtain ⟨g, rfl, ok⟩ := gateD_iff.mp h.1
          refine ⟨g :: gs, rfl, fun x hx => ?_⟩
          rcases List.mem_cons.mp hx with rfl | hx
          · exact ok
          · exact hg x hx
      obtain ⟨gs, rfl, hg⟩ := this es h.2
      exact ⟨gs, rfl, by have := h.1; rw [List.length_map] at this; exact this, hg⟩
    | _ => cases h
  · rintro ⟨gs, rfl, hl, ok⟩
    show (decide ((gs.map gtD).length ≤ 60000) && (gs.map gtD).all gateD) = true
    rw [List.length_map, decide_eq_true hl, Bool.true_and, List.all_eq_true]
    intro e he
    obtain ⟨g, hg, rfl⟩ := List.mem_map.mp he
    exact gateD_ok (ok g hg)
/-- the bits that gates need -/
def needG (gs : List Gt) : Nat := (gs.map topG).foldr max 0
theorem needG_max {gs : List Gt} {m : Int} (h : (gs.map fun g => ((topG g : Nat) : Int)) = [] ∧ m = 0 ∨ m ∈ (gs.map fun g => ((topG g : Nat) : Int)) ∧ ∀ y, y ∈ (gs.map fun g => ((topG g : Nat) : Int)) → y ≤ m) : m = ((needG gs : Nat) : Int) := by
  obtain ⟨f1, f2, f3⟩ := foldr_max (cs := gs.map topG) (t := 0)
  rcases h with ⟨h, rfl⟩ | ⟨h, hle⟩
  · rw [List.map_eq_nil_iff.mp h]; rfl
  · obtain ⟨g, hg, rfl⟩ := List.mem_map.mp h
    have k1 := f2 _ (List.mem_map.mpr ⟨g, hg, rfl⟩)
    have k2 : ((needG gs : Nat) : Int) ≤ ((topG g : Nat) : Int) := by
      rcases f3 with f3 | f3
      · unfold needG; rw [f3]; omega
      · obtain ⟨g2, hg2, e2⟩ := List.mem_map.mp f3
        have := hle _ (List.mem_map.mpr ⟨g2, hg2, rfl⟩)
        unfold needG
        rw [← e2]
        exact this
    have k3 : topG g ≤ needG gs := k1
    omega
theorem needG_le {gs : List Gt} {n : Nat} (h : ∀ g, g ∈ gs → GtOk n g) : needG gs ≤ n := by
  rcases (foldr_max (cs := gs.map topG) (t := 0)).2.2 with e | e
  · unfold needG; rw [e]; exact Nat.zero_le _
  · obtain ⟨g, hg, e2⟩ := List.mem_map.mp e
    unfold needG
    rw [← e2]
    exact topG_le (h g hg)
theorem needG_ge {gs : List Gt} {g : Gt} (h : g ∈ gs) : topG g ≤ needG gs := (foldr_max (cs := gs.map topG) (t := 0)).2.1 _ (List.mem_map.mpr ⟨g, h, rfl⟩)
theorem GtOk.top {n m : Nat} {g : Gt} (ok : GtOk n g) (h : topG g ≤ m) : GtOk m g := by
  obtain ⟨f1, f2, _⟩ := foldr_max (cs := g.2) (t := g.1)
  have h : g.2.foldr max g.1 + 1 ≤ m := h
  exact ⟨by omega, fun c hc => by have := f2 c hc; omega, ok.ne, ok.up⟩
theorem gtD_inj : Function.Injective gtD := fun a b hab => by
  obtain ⟨t, cs⟩ := a
  obtain ⟨u, ds⟩ := b
  have h := PyData.tuple.inj hab
  obtain ⟨h1, h2⟩ := List.cons.inj h
  have h2 := PyData.tuple.inj (List.cons.inj h2).1
  have h1 : (t : Int) = (u : Int) := PyData.int.inj h1
  have h2 : cs = ds := (List.map_inj_right (fun _ _ z => Int.ofNat.inj (PyData.int.inj z))).mp h2
  rw [h2, Int.ofNat.inj h1]
theorem gts_inj {a b : List Gt} (h : a.map gtD = b.map gtD) : a = b := (List.map_inj_right gtD_inj).mp h
theorem gtD_at {d : Addr} {H : Hp} {v : V} {g : Gt} (h : DAt d H v (gtD g)) : ∃ a, v = .ref a ∧ GtAt H a g := by
  unfold gtD at h
  cases h with
  | tup h hs =>
    rename_i a xs
    cases hs with
    | cons h1 hs =>
      cases hs with
      | cons h2 hs =>
        cases hs
        cases h1
        cases h2 with
        | tup h2 hs2 =>
          rename_i c ys
          have : ∀ {cs : List Nat} {ys : List V}, DAts d H ys (cs.map fun (c : Nat) => PyData.int (c : Int)) → ys = cInts cs := by
            intro cs
            induction cs with
            | nil => intro ys h; cases h; rfl
            | cons c cs ih =>
              intro ys h
              cases h with
              | cons h hs => cases h; rw [ih hs]; rfl
          exact ⟨a, rfl, c, h, by rw [h2, this hs2]⟩
theorem DAts.gts {d : Addr} {H : Hp} {xs : List V} {gs : List Gt} (h : DAts d H xs (gs.map gtD)) : ∃ as : List Addr, xs = as.map V.ref ∧ GtsAt H as gs := by
  induction gs generalizing xs with
  | nil => cases h; exact ⟨[], rfl, rfl, fun i x b h _ => by simp at h⟩
  | cons g gs ih =>
    cases h with
    | cons h hs =>
      obtain ⟨a, rfl, ha⟩ := gtD_at h
      obtain ⟨as, rfl, hl, hat⟩ := ih hs
      refine ⟨a :: as, rfl, congrArg (· + 1) hl, fun i x b h1 h2 => ?_⟩
      cases i with
      | zero => cases h1; cases h2; exact ha
      | succ i => exact hat i x b (by simpa using h1) (by simpa using h2)
theorem GtsAt.dats {d : Addr} {H : Hp} {as : List Addr} {gs : List Gt} (h : GtsAt H as gs) : DAts d H (as.map V.ref) (gs.map gtD) := by
  refine DAts.of (by rw [List.length_map, List.length_map, h.1]) fun i x e h1 h2 => ?_
  obtain ⟨b, hb, rfl⟩ := map_getR h1
  obtain ⟨g, hg, hat⟩ := h.get hb
  rw [List.getElem?_map, hg] at h2
  cases h2
  exact hat.dat
/-- what is no list of rising bits -/
theorem risF_bad : ∀ {es : List PyData} {l : Int} {e : PyData}, e ∈ es → isBD 120 e = false → risF l es = false
  | [], _, _, h, _ => by simp at h
  | .int i :: es, l, e, h, hb => by
    show ((decide (0 ≤ i) && decide (i < 120)) && (decide (l < i) && risF i es)) = false
    rcases List.mem_cons.mp h with rfl | h
    · rw [show (decide (0 ≤ i) && decide (i < 120)) = false from hb]; rfl
    · rw [risF_bad h hb, Bool.and_false, Bool.and_false]
  | .none :: _, _, _, _, _ => rfl
  | .bool _ :: _, _, _, _, _ => rfl
  | .str _ :: _, _, _, _, _ => rfl
  | .list _ :: _, _, _, _, _ => rfl
  | .tuple _ :: _, _, _, _, _ => rfl
  | .dict _ :: _, _, _, _, _ => rfl
theorem risF_two : ∀ {xs ys : List PyData} {l a b : Int}, b ≤ a → risF l (xs ++ .int a :: .int b :: ys) = false
  | [], ys, l, a, b, h => by
    show ((decide (0 ≤ a) && decide (a < 120)) && (decide (l < a) && ((decide (0 ≤ b) && decide (b < 120)) && (decide (a < b) && risF b ys)))) = false
    rw [decide_eq_false (show ¬ a < b by omega), Bool.false_and, Bool.and_false, Bool.and_false, Bool.and_false]
  | .int i :: xs, ys, l, a, b, h => by
    show ((decide (0 ≤ i) && decide (i < 120)) && (decide (l < i) && risF i (xs ++ .int a :: .int b :: ys))) = false
    rw [risF_two h, Bool.and_false, Bool.and_false]
  | .none :: _, _, _, _, _, _ => rfl
  | .bool _ :: _, _, _, _, _, _ => rfl
  | .str _ :: _, _, _, _, _, _ => rfl
  | .list _ :: _, _, _, _, _, _ => rfl
  | .tuple _ :: _, _, _, _, _, _ => rfl
  | .dict _ :: _, _, _, _, _, _ => rfl
theorem gateD_ris {t : PyData} {es : List PyData} (h : risF (-1) es = false) : gateD (.tuple [t, .tuple es]) = false := by
  show (isBD 120 t && (risF (-1) es && _)) = false
  rw [h, Bool.false_and, Bool.and_false]
theorem gateD_tgt {t c : PyData} (h : isBD 120 t = false) : gateD (.tuple [t, c]) = false := by
  cases c with
  | tuple es =>
    show (isBD 120 t && _) = false
    rw [h, Bool.false_and]
  | _ => rfl
theorem gateD_has {t : Int} {es : List PyData} (h : PyData.int t ∈ es) : gateD (.tuple [.int t, .tuple es]) = false := by
  show (isBD 120 (.int t) && (risF (-1) es && !hasD (.int t) es)) = false
  have : hasD (.int t) es = true := by
    unfold hasD
    rw [List.any_eq_true]
    exact ⟨_, h, decide_eq_true rfl⟩
  rw [this, Bool.not_true, Bool.and_false, Bool.and_false]
theorem mem_setI {α : Type} {xs : List α} {i : Nat} {e : α} (h : i < xs.length) : e ∈ xs.set i e := List.mem_of_getElem? (List.getElem?_set_self h)
theorem gatesD_set {gs : List Gt} {i : Nat} {e : PyData} (hi : i < gs.length) (h : gateD e = false) : gatesD (.list ((gs.map gtD).set i e)) = false := by
  show (decide _ && ((gs.map gtD).set i e).all gateD) = false
  have : ((gs.map gtD).set i e).all gateD = false := List.all_eq_false.mpr ⟨e, mem_setI (by rw [List.length_map]; exact hi), by rw [h]; decide⟩
  rw [this, Bool.and_false]
theorem bitsD_set {bs : List Bool} {i : Nat} {e : PyData} {n : Int} (hi : i < bs.length) (h : isBlD e = false) : bitsD n (.list ((bs.map PyData.bool).set i e)) = false := by
  show (decide _ && ((bs.map PyData.bool).set i e).all isBlD) = false
  have : ((bs.map PyData.bool).set i e).all isBlD = false := List.all_eq_false.mpr ⟨e, mem_setI (by rw [List.length_map]; exact hi), by rw [h]; decide⟩
  rw [this, Bool.and_false]
theorem bitsD_short {bs : List Bool} {n : Int} (h : (bs.length : Int) < n) : bitsD n (blsD bs) = false := by
  show (decide (n ≤ ((bs.map PyData.bool).length : Int)) && _) = false
  rw [List.length_map, decide_eq_false (by omega), Bool.false_and]
end Br

/-! ### gates that are spread -/
namespace Br
open PySem PySem.Spec PyProof.Rows L2
theorem atI_back {α : Type} {xs : List α} {j : Nat} {v : α} (hj : j < xs.length) (h : xs[xs.length - 1 - j]? = some v) : atI xs (-1 - (j : Int)) = some v := by
  unfold atI ixN
  rw [if_neg (by omega), if_pos (by omega)]
  show xs[(-1 - (j : Int) + (xs.length : Int)).toNat]? = some v
  rw [show (-1 - (j : Int) + (xs.length : Int)).toNat = xs.length - 1 - j by omega]
  exact h
theorem atI_m1 {α : Type} {xs : List α} {v : α} (hj : 0 < xs.length) (h : xs[xs.length - 1]? = some v) : atI xs (-1) = some v := atI_back (j := 0) hj h
def two (t a b : Nat) : Gt := (t, if a < b then [a, b] else [b, a])
/-- what the borrowed bits must be -/
def borD (ns : List Int) (n : Int) : PyData → Bool
  | .list es => decide ((es.length : Int) = n) && (es.all (isBD 120) && decide ((ns ++ es.map intD).Nodup))
  | _ => false
def natsD (cs : List Nat) : List PyData := cs.map fun (c : Nat) => PyData.int (c : Int)
theorem natsD_of : ∀ {es : List PyData}, es.all (isBD 120) = true → ∃ bs : List Nat, es = natsD bs ∧ ∀ b, b ∈ bs → b < 120
  | [], _ => ⟨[], rfl, fun b h => by simp at h⟩
  | e :: es, h => by
    rw [List.all_cons, Bool.and_eq_true] at h
    obtain ⟨i, rfl, i0, i1⟩ := isBD_iff.mp h.1
    obtain ⟨bs, rfl, hb⟩ := natsD_of h.2
    obtain ⟨b, rfl⟩ : ∃ b : Nat, i = (b : Int) := ⟨i.toNat, by omega⟩
    refine ⟨b :: bs, rfl, fun x hx => ?_⟩
    rcases List.mem_cons.mp hx with rfl | hx
    · omega
    · exact hb x hx
theorem natsD_int {bs : List Nat} : (natsD bs).map intD = bs.map fun (c : Nat) => (c : Int) := by unfold natsD; rw [List.map_map]; rfl
theorem natsD_all {bs : List Nat} (h : ∀ b, b ∈ bs → b < 120) : (natsD bs).all (isBD 120) = true := by
  rw [List.all_eq_true]
  intro e he
  obtain ⟨b, hb, rfl⟩ := List.mem_map.mp he
  have := h b hb
  exact isBD_iff.mpr ⟨_, rfl, by omega, by omega⟩
theorem nodup_nat {ns : List Nat} : (ns.map fun (c : Nat) => (c : Int)).Nodup ↔ ns.Nodup := by
  constructor
  · intro h
    exact (List.pairwise_map.mp h).imp fun h e => h (by rw [e])
  · intro h
    exact List.pairwise_map.mpr (h.imp fun h e => h (by omega))
theorem borD_iff {t n : Nat} {cs : List Nat} {e : PyData} : borD ((t : Int) :: cs.map fun (c : Nat) => (c : Int)) (n : Int) e = true ↔ ∃ bs : List Nat, e = .list (natsD bs) ∧ bs.length = n ∧ (∀ b, b ∈ bs → b < 120) ∧ (t :: cs ++ bs).Nodup := by
  constructor
  · intro h
    cases e with
    | list es =>
      have h : (decide ((es.length : Int) = n) && (es.all (isBD 120) && decide ((((t : Int) :: cs.map fun (c : Nat) => (c : Int)) ++ es.map intD).Nodup))) = true := h
      rw [Bool.and_eq_true, Bool.and_eq_true, decide_eq_true_iff, decide_eq_true_iff] at h
      obtain ⟨h1, h2, h3⟩ := h
      obtain ⟨bs, rfl, hb⟩ := natsD_of h2
      rw [natsD_int] at h3
      refine ⟨bs, rfl, by unfold natsD at h1; rw [List.length_map] at h1; omega, hb, nodup_nat.mp ?_⟩
      rw [List.map_append]
      exact h3
    | _ => cases h
  · rintro ⟨bs, rfl, hl, hb, hn⟩
    show (decide (((natsD bs).length : Int) = n) && ((natsD bs).all (isBD 120) && decide ((((t : Int) :: cs.map fun (c : Nat) => (c : Int)) ++ (natsD bs).map intD).Nodup))) = true
    rw [natsD_all hb, natsD_int, Bool.true_and]
    have h1 : (natsD bs).length = n := by unfold natsD; rw [List.length_map]; exact hl
    have h2 := nodup_nat.mpr hn
    rw [List.map_append] at h2
    have h2 : (((t : Int) :: cs.map fun (c : Nat) => (c : Int)) ++ bs.map fun (c : Nat) => (c : Int)).Nodup := h2
    rw [decide_eq_true (by omega), decide_eq_true h2]
    rfl
def turnF (t : Nat) (bs : List Nat) : List Nat := t :: bs.reverse
def downF (t : Nat) (cs bs : List Nat) : List Gt := (List.range bs.length).map fun j => two ((turnF t bs).getD j 0) ((turnF t bs).getD (j + 1) 0) (cs.getD (cs.length - 1 - j) 0)
def lastF (t : Nat) (cs bs : List Nat) : Gt := ((turnF t bs).getD bs.length 0, cs.take 2)
def spreadF (t : Nat) (cs bs : List Nat) : List Gt := if bs = [] then [(t, cs)] else downF t cs bs ++ [lastF t cs bs] ++ (downF t cs bs).reverse ++ (downF t cs bs).drop 1 ++ [lastF t cs bs] ++ ((downF t cs bs).drop 1).reverse
theorem turn_len {t : Nat} {bs : List Nat} : (turnF t bs).length = bs.length + 1 := by unfold turnF; rw [List.length_cons, List.length_reverse]
theorem down_len {t : Nat} {cs bs : List Nat} : (downF t cs bs).length = bs.length := by unfold downF; rw [List.length_map, List.length_range]
theorem down_get {t k : Nat} {cs bs : List Nat} (h : k < bs.length) : (downF t cs bs)[k]? = some (two ((turnF t bs).getD k 0) ((turnF t bs).getD (k + 1) 0) (cs.getD (cs.length - 1 - k) 0)) := by
  unfold downF
  rw [List.getElem?_map, List.getElem?_range h]
  rfl
theorem cInts_at2 {cs : List Nat} {i : Nat} (h : i < cs.length) : (cInts cs)[i]? = some (.int ((cs.getD i 0 : Nat) : Int)) := by
  unfold cInts
  rw [List.getElem?_map, List.getElem?_eq_getElem h, List.getD_eq_getElem?_getD, List.getElem?_eq_getElem h]
  rfl
theorem cInts_rev {cs : List Nat} : (cInts cs).reverse = cInts cs.reverse := by unfold cInts; rw [List.map_reverse]
theorem cInts_app {cs ds : List Nat} : cInts cs ++ cInts ds = cInts (cs ++ ds) := by unfold cInts; rw [List.map_append]
theorem cInts_take {cs : List Nat} {n : Nat} : (cInts cs).take n = cInts (cs.take n) := by unfold cInts; rw [List.map_take]
theorem GtsAt.rev {H : Hp} {as : List Addr} {gs : List Gt} (h : GtsAt H as gs) : GtsAt H as.reverse gs.reverse := by
  refine ⟨by rw [List.length_reverse, List.length_reverse, h.1], fun i x b e1 e2 => ?_⟩
  have h1 := (List.getElem?_eq_some_iff.mp e1).1
  have h2 := (List.getElem?_eq_some_iff.mp e2).1
  rw [List.length_reverse] at h1 h2
  rw [List.getElem?_reverse h1] at e1
  rw [List.getElem?_reverse h2, h.1] at e2
  exact h.2 _ x b e1 e2
theorem GtsAt.app {H : Hp} {as bs : List Addr} {gs hs : List Gt} (h : GtsAt H as gs) (h2 : GtsAt H bs hs) : GtsAt H (as ++ bs) (gs ++ hs) := by
  refine ⟨by rw [List.length_append, List.length_append, h.1, h2.1], fun i x b e1 e2 => ?_⟩
  by_cases hi : i < gs.length
  · rw [List.getElem?_append_left hi] at e1
    rw [List.getElem?_append_left (by rw [h.1]; exact hi)] at e2
    exact h.2 i x b e1 e2
  · rw [List.getElem?_append_right (by omega)] at e1
    rw [List.getElem?_append_right (by rw [h.1]; omega), h.1] at e2
    exact h2.2 _ x b e1 e2
theorem GtsAt.drop {H : Hp} {as : List Addr} {gs : List Gt} (h : GtsAt H as gs) {n : Nat} : GtsAt H (as.drop n) (gs.drop n) :=
  ⟨by rw [List.length_drop, List.length_drop, h.1], fun i x b e1 e2 => h.2 (n + i) x b (by rw [← List.getElem?_drop]; exact e1) (by rw [← List.getElem?_drop]; exact e2)⟩
theorem GtsAt.one {H : Hp} {a : Addr} {g : Gt} (h : GtAt H a g) : GtsAt H [a] [g] := ⟨rfl, fun i x b e1 e2 => by
  cases i with
  | zero => cases e1; cases e2; exact h
  | succ i => simp at e1⟩
end Br

/-! ### len(set(xs)), any ints -/
namespace Br
open PySem PySem.Spec PyProof.Rows L2
theorem nodup_le : ∀ {ks ns : List Int}, ks.Nodup → (∀ k, k ∈ ks → k ∈ ns) → ks.length ≤ ns.length
  | [], _, _, _ => Nat.zero_le _
  | k :: ks, ns, hn, hs => by
    rw [List.nodup_cons] at hn
    have hk := hs k List.mem_cons_self
    have h := nodup_le (ns := ns.erase k) hn.2 fun x hx => by
      have hx2 := hs x (List.mem_cons_of_mem _ hx)
      exact (List.mem_erase_of_ne (fun e => hn.1 (by rw [← e]; exact hx))).mpr hx2
    rw [List.length_erase_of_mem hk] at h
    have := List.length_pos_of_mem hk
    rw [List.length_cons]
    omega
theorem dup_at : ∀ {ns : List Int}, ¬ ns.Nodup → ∃ x, x ∈ ns ∧ x ∈ ns.erase x
  | [], h => absurd List.nodup_nil h
  | x :: r, h => by
    by_cases hx : x ∈ r
    · exact ⟨x, List.mem_cons_self, by rw [List.erase_cons_head]; exact hx⟩
    · have hr : ¬ r.Nodup := fun hr => h (List.nodup_cons.mpr ⟨hx, hr⟩)
      obtain ⟨y, h1, h2⟩ := dup_at hr
      have hne : x ≠ y := fun e => hx (by rw [e]; exact h1)
      refine ⟨y, List.mem_cons_of_mem _ h1, ?_⟩
      rw [List.erase_cons_tail (by simpa using hne)]
      exact List.mem_cons_of_mem _ h2
theorem card_iff {ks ns : List Int} (hn : ks.Nodup) (h : ∀ k, k ∈ ks ↔ k ∈ ns) : (ks.length = ns.length ↔ ns.Nodup) ∧ ks.length ≤ ns.length := by
  have hle := nodup_le hn fun k hk => (h k).mp hk
  refine ⟨⟨fun e => ?_, fun hs => ?_⟩, hle⟩
  · by_cases hd : ns.Nodup
    · exact hd
    · exfalso
      obtain ⟨x, h1, h2⟩ := dup_at hd
      have := nodup_le (ns := ns.erase x) hn fun k hk => by
        by_cases e : k = x
        · rw [e]; exact h2
        · exact (List.mem_erase_of_ne e).mpr ((h k).mp hk)
      rw [List.length_erase_of_mem h1] at this
      have := List.length_pos_of_mem h1
      omega
  · have := nodup_le hs fun k hk => (h k).mpr hk
    omega
theorem step_nodup {ks : List Int} {k : Int} (h : ks.Nodup) : (step_dedup ks k).Nodup ∧ ∀ x, x ∈ step_dedup ks k ↔ x ∈ ks ∨ x = k := by
  unfold step_dedup
  split
  · rename_i hb
    obtain ⟨y, hy, e⟩ := List.any_eq_true.mp hb
    have : y = k := by simpa using e
    subst this
    refine ⟨h, fun x => ⟨.inl, fun z => z.elim id fun e => by rw [e]; exact hy⟩⟩
  · rename_i hb
    have hk : k ∉ ks := fun hk => hb (List.any_eq_true.mpr ⟨k, hk, by simp⟩)
    refine ⟨List.nodup_append.mpr ⟨h, by simp, fun a ha b hb e => hk (by rw [← List.mem_singleton.mp hb, ← e]; exact ha)⟩, fun x => by simp⟩
theorem firstMet_spec {ns : List Int} : ∀ i, i ≤ ns.length → (firstMet (fun i => ns.getD i 0) i).Nodup ∧ ∀ x, x ∈ firstMet (fun i => ns.getD i 0) i ↔ x ∈ ns.take i
  | 0, _ => ⟨List.nodup_nil, fun x => by show x ∈ [] ↔ x ∈ ns.take 0; simp⟩
  | i + 1, hi => by
    obtain ⟨h1, h2⟩ := firstMet_spec (ns := ns) i (Nat.le_of_lt hi)
    obtain ⟨k1, k2⟩ := step_nodup (k := ns.getD i 0) h1
    rw [firstMet_succ]
    refine ⟨k1, fun x => ?_⟩
    have e : ns.getD i 0 = ns[i] := by rw [List.getD_eq_getElem?_getD, List.getElem?_eq_getElem hi]; rfl
    have e2 : ns.take (i + 1) = ns.take i ++ [ns[i]] := by rw [List.take_add_one, List.getElem?_eq_getElem hi]; rfl
    rw [k2, h2, e, e2, List.mem_append, List.mem_singleton]
def tLenSet (K : PySem.W.Frag) (ta : TE) : TE := fun σ H Q => ta σ H fun x H1 => ∃ (l : Addr) (ns : List Int), x = V.ref l ∧ (SqL K H1 l (ns.map V.int) ∨ SqT K H1 l (ns.map V.int)) ∧ ns.length ≤ 4000 ∧ ∀ c : Nat, (c = ns.length ↔ ns.Nodup) → c ≤ ns.length → Q (.int (c : Nat)) H1
theorem pe_lenSetA {X : Cx} {a : Expr} {ta : TE} {p p2 q pos : Pos} (hg : Gl X "len") (hm : X.mg "len" = none) (hg2 : Gl X "set") (hm2 : X.mg "set" = none) (ha : PE X a ta) (hc : X.calm = true := by rfl)
    (na : starEach [a] X.env = (false, eval a X.env) :: starEach [] X.env := by rfl) : PE X (.Call (.Name "len" p) [.Call (.Name "set" p2) [a] [] q] [] pos) (tLenSet X.K ta) := by
  refine ⟨fun pins s σ H Q I h => ?_⟩
  refine Call_ (ld_blt I hg hm PySem.boot_len ?_)
  refine PyProof.Rows.callWith_builtin1 (PyProof.Rows.args_cons ?_ rfl) rfl rfl
  refine Call_ (ld_blt I hg2 hm2 PyProof.Rows.boot_set ?_)
  refine PyProof.Rows.callWith_type1 (PyProof.Rows.args_cons (thn (ha.run pins s σ H _ I h) fun v s1 ⟨x, H1, I1, r1, q1⟩ => PyProof.Rows.args_nil ?_) na) na rfl
  obtain ⟨l, ns, rfl, hq, hl, q1⟩ := q1
  cases r1
  rcases hq with hq | hq
  · obtain ⟨its, r, pl, hz⟩ := I1.list hq
    have hlen : its.toArray.size = ns.length := by rw [List.size_toArray, ← r.length, List.length_map]
    refine call_set_list (I1.ok.hd hc) pl.isList (ns := ns) (by simpa using r.ints) (by rw [hlen]; unfold scanBound; omega) fun h' tk hS hk => ?_
    rw [hlen] at hS
    obtain ⟨f1, f2⟩ := firstMet_spec (ns := ns) ns.length (Nat.le_refl _)
    rw [List.take_length] at f2
    obtain ⟨c1, c2⟩ := card_iff f1 f2
    refine PyProof.Rows.args_nil ?_
    obtain ⟨o, es, ep, t, ho, hex, hd, _, _, _, hf, hn⟩ := hS
    have I2 : Inv X pins σ H1 { s1 with heap := h', toks := tk } := I1.kept fun b o e => hk b o (Heap.lt_size e) e
    refine call_len_set ho hex hd hf (by rw [hn]; omega) ⟨.int ((es.size : Nat) : Int), H1, I2.tok _, ⟨_, rfl⟩, by rw [hn]; exact q1 _ c1 c2⟩
  · obtain ⟨its, r, pl, hz⟩ := I1.tuple hq
    refine call_set_tupI ns (I1.ok.hd hc) pl (by simpa using r.ints) (by unfold scanBound; omega) fun h' tk c hS _ hk => ?_
    refine PyProof.Rows.args_nil ?_
    obtain ⟨o, es, ep, t, ho, hex, hd, _, hnd, hS, _, hf, hn, _⟩ := hS
    obtain ⟨c1, c2⟩ := card_iff (ns := ns) hnd fun k => by rw [← hS k]; simp
    have hsz : (es.toList.map keyOf).length = c := by rw [List.length_map, Array.length_toList, hn]
    rw [hsz] at c1 c2
    have I2 : Inv X pins σ H1 { s1 with heap := h', toks := tk } := I1.kept hk
    refine call_len_set ho hex hd hf (by rw [hn]; omega) ⟨.int ((es.size : Nat) : Int), H1, I2.tok _, ⟨_, rfl⟩, by rw [hn]; exact q1 c c1 c2⟩
end Br

/-! ### what spread gates do -/
namespace Br
open PySem PySem.Spec PyProof.Rows L2
def ups : List Nat → List Nat → List Gt
  | T :: T' :: Ts, C :: Cs => two T T' C :: ups (T' :: Ts) Cs
  | _, _ => []
theorem ups_get : ∀ {Ts Cs : List Nat} {j : Nat}, j + 1 < Ts.length → j < Cs.length → (ups Ts Cs)[j]? = some (two (Ts.getD j 0) (Ts.getD (j + 1) 0) (Cs.getD j 0))
  | T :: T' :: Ts, C :: Cs, 0, _, _ => rfl
  | T :: T' :: Ts, C :: Cs, j + 1, h1, h2 => by
    show (ups (T' :: Ts) Cs)[j]? = _
    rw [ups_get (by simpa using h1) (by simpa using h2)]
    rfl
  | [], _, _, h, _ => by simp at h
  | [_], _, _, h, _ => by simp at h
  | _ :: _ :: _, [], _, _, h => by simp at h
theorem ups_len : ∀ {Ts Cs : List Nat}, Ts.length ≤ Cs.length + 1 → (ups Ts Cs).length = Ts.length - 1
  | [], _, _ => by simp [ups]
  | [_], _, _ => by simp [ups]
  | T :: T' :: Ts, C :: Cs, h => by
    show (ups (T' :: Ts) Cs).length + 1 = _
    rw [ups_len (by simpa using h)]
    simp
  | _ :: _ :: _, [], h => by simp at h
theorem down_ups {t : Nat} {cs bs : List Nat} (h : bs.length + 1 ≤ cs.length) : downF t cs bs = ups (turnF t bs) cs.reverse := by
  apply List.ext_getElem?
  intro j
  by_cases hj : j < bs.length
  · rw [down_get hj, ups_get (by rw [turn_len]; omega) (by rw [List.length_reverse]; omega)]
    congr 2
    rw [List.getD_eq_getElem?_getD, List.getD_eq_getElem?_getD, List.getElem?_reverse (by omega)]
  · rw [List.getElem?_eq_none (by rw [down_len]; omega), List.getElem?_eq_none (by rw [ups_len (by rw [turn_len, List.length_reverse]; omega), turn_len]; omega)]
theorem perfG_two {bs : List Bool} {t a b : Nat} : perfG bs (two t a b) = if bs.getD a false && bs.getD b false then bs.set t (!bs.getD t false) else bs := by
  unfold perfG two
  by_cases h : a < b
  · rw [if_pos h]
    simp only [List.all_cons, List.all_nil, Bool.and_true]
  · rw [if_neg h]
    simp only [List.all_cons, List.all_nil, Bool.and_true]
    rw [Bool.and_comm]
theorem getD_tog {bs : List Bool} {t x : Nat} {c : Bool} (ht : t < bs.length) : (if c then bs.set t (!bs.getD t false) else bs).getD x false = (bs.getD x false ^^ (decide (x = t) && c)) := by
  cases c with
  | false => rw [if_neg (by decide), Bool.and_false, Bool.xor_false]
  | true =>
    rw [if_pos rfl, Bool.and_true]
    by_cases e : x = t
    · subst e
      rw [decide_eq_true rfl, List.getD_eq_getElem?_getD (l := bs.set _ _), List.getElem?_set_self ht]
      simp
    · rw [decide_eq_false e, Bool.xor_false, getD_setB (fun h => e h.symm)]
/-- by what the bits are turned over -/
def markF (b : Nat → Bool) (q : Bool) : List Nat → List Nat → Nat → Bool
  | T :: Ts, Cs, x => if x = T then q && (Cs.take Ts.length).all b else markF b q Ts Cs.tail x
  | [], _, _ => false
theorem mark_none {b : Nat → Bool} {q : Bool} : ∀ {Ts Cs : List Nat} {x : Nat}, x ∉ Ts → markF b q Ts Cs x = false
  | [], _, _, _ => rfl
  | T :: Ts, Cs, x, h => by
    show (if x = T then _ else _) = false
    rw [if_neg (fun e => h (by rw [e]; exact List.mem_cons_self))]
    exact mark_none fun hx => h (List.mem_cons_of_mem _ hx)
theorem mark_congr {b c : Nat → Bool} {q : Bool} : ∀ {Ts Cs : List Nat} {x : Nat}, (∀ y, y ∈ Cs → b y = c y) → markF b q Ts Cs x = markF c q Ts Cs x
  | [], _, _, _ => rfl
  | T :: Ts, Cs, x, h => by
    show (if x = T then q && (Cs.take Ts.length).all b else _) = (if x = T then q && (Cs.take Ts.length).all c else _)
    have e : (Cs.take Ts.length).all b = (Cs.take Ts.length).all c := by
      rw [Bool.eq_iff_iff, List.all_eq_true, List.all_eq_true]
      exact ⟨fun z y hy => by rw [← h y (List.mem_of_mem_take hy)]; exact z y hy, fun z y hy => by rw [h y (List.mem_of_mem_take hy)]; exact z y hy⟩
    rw [e, mark_congr (Ts := Ts) fun y hy => h y (List.mem_of_mem_tail hy)]
theorem half_ok {c0 c1 : Nat} : ∀ {Ts Cs : List Nat} {bs : List Bool} {z : Nat}, Ts.getLast? = some z → Ts.Nodup → (∀ x, x ∈ Ts → x < bs.length) → Ts.length ≤ Cs.length + 1 → (∀ x, x ∈ Ts → x ∉ Cs ∧ x ≠ c0 ∧ x ≠ c1) →
    ∀ x, (perfF (ups Ts Cs ++ [(z, [c0, c1])] ++ (ups Ts Cs).reverse) bs).getD x false = (bs.getD x false ^^ markF (fun y => bs.getD y false) (bs.getD c0 false && bs.getD c1 false) Ts Cs x)
  | [], _, _, _, h, _, _, _, _ => by cases h
  | [T], Cs, bs, z, hz, _, hb, _, _ => by
    intro x
    have e : z = T := (Option.some.inj hz).symm
    subst e
    show (perfG bs (z, [c0, c1])).getD x false = _
    have e : perfG bs (z, [c0, c1]) = if bs.getD c0 false && bs.getD c1 false then bs.set z (!bs.getD z false) else bs := by
      unfold perfG
      simp only [List.all_cons, List.all_nil, Bool.and_true]
    rw [e, getD_tog (hb z List.mem_cons_self)]
    congr 1
    show _ = if x = z then (bs.getD c0 false && bs.getD c1 false) && true else false
    by_cases hx : x = z
    · rw [if_pos hx, decide_eq_true hx, Bool.true_and, Bool.and_true]
    · rw [if_neg hx, decide_eq_false hx, Bool.false_and]
  | T :: T' :: Ts, C :: Cs, bs, z, hz, hn, hb, hl, hd => by
    intro x
    rw [List.nodup_cons] at hn
    have hT := hb T List.mem_cons_self
    obtain ⟨hTC, hT0, hT1⟩ := hd T List.mem_cons_self
    obtain ⟨hT'C, hT'0, hT'1⟩ := hd T' (List.mem_cons_of_mem _ List.mem_cons_self)
    have hTT' : T ≠ T' := fun e => hn.1 (by rw [e]; exact List.mem_cons_self)
    have hTc : T ≠ C := fun e => hTC (by rw [e]; exact List.mem_cons_self)
    have hT'c : T' ≠ C := fun e => hT'C (by rw [e]; exact List.mem_cons_self)
    have e0 : perfF (ups (T :: T' :: Ts) (C :: Cs) ++ [(z, [c0, c1])] ++ (ups (T :: T' :: Ts) (C :: Cs)).reverse) bs = perfG (perfF (ups (T' :: Ts) Cs ++ [(z, [c0, c1])] ++ (ups (T' :: Ts) Cs).reverse) (perfG bs (two T T' C))) (two T T' C) := by
      show perfF (two T T' C :: ups (T' :: Ts) Cs ++ [(z, [c0, c1])] ++ (two T T' C :: ups (T' :: Ts) Cs).reverse) bs = _
      rw [List.reverse_cons, ← List.append_assoc, perfF_snoc]
      rfl
    rw [e0]
    -- behind the first gate
    have g1 : ∀ y, (perfG bs (two T T' C)).getD y false = (bs.getD y false ^^ (decide (y = T) && (bs.getD T' false && bs.getD C false))) := fun y => by rw [perfG_two, getD_tog hT]
    have l1 : (perfG bs (two T T' C)).length = bs.length := perfG_len
    generalize perfG bs (two T T' C) = b1 at g1 l1
    have g1n : ∀ y, y ≠ T → b1.getD y false = bs.getD y false := fun y hy => by rw [g1, decide_eq_false hy, Bool.false_and, Bool.xor_false]
    have g2 := half_ok (c0 := c0) (c1 := c1) (Ts := T' :: Ts) (Cs := Cs) (bs := b1) (z := z) hz hn.2 (fun y hy => by rw [l1]; exact hb y (List.mem_cons_of_mem _ hy)) (by simpa using hl) (fun y hy => ⟨fun h => (hd y (List.mem_cons_of_mem _ hy)).1 (List.mem_cons_of_mem _ h), (hd y (List.mem_cons_of_mem _ hy)).2⟩)
    have l2 : (perfF (ups (T' :: Ts) Cs ++ [(z, [c0, c1])] ++ (ups (T' :: Ts) Cs).reverse) b1).length = bs.length := by rw [perfF_len, l1]
    generalize perfF (ups (T' :: Ts) Cs ++ [(z, [c0, c1])] ++ (ups (T' :: Ts) Cs).reverse) b1 = b2 at g2 l2
    have em : ∀ y, markF (fun y => b1.getD y false) (b1.getD c0 false && b1.getD c1 false) (T' :: Ts) Cs y = markF (fun y => bs.getD y false) (bs.getD c0 false && bs.getD c1 false) (T' :: Ts) Cs y := fun y => by
      rw [g1n c0 (fun e => hT0 e.symm), g1n c1 (fun e => hT1 e.symm)]
      exact mark_congr fun w hw => g1n w fun e => hTC (by rw [← e]; exact List.mem_cons_of_mem _ hw)
    have g2 : ∀ y, b2.getD y false = (b1.getD y false ^^ markF (fun y => bs.getD y false) (bs.getD c0 false && bs.getD c1 false) (T' :: Ts) Cs y) := fun y => by rw [g2, em]
    have hqT' : markF (fun y => bs.getD y false) (bs.getD c0 false && bs.getD c1 false) (T' :: Ts) Cs T' = ((bs.getD c0 false && bs.getD c1 false) && (Cs.take Ts.length).all fun y => bs.getD y false) := if_pos rfl
    rw [perfG_two, getD_tog (by rw [l2]; exact hT), g2, g2 T', g2 C, g1n T' (fun e => hTT' e.symm), g1n C (fun e => hTc e.symm), hqT']
    have hCn : C ∉ T' :: Ts := fun h => (hd C (List.mem_cons_of_mem _ h)).1 List.mem_cons_self
    rw [mark_none (x := C) hCn, Bool.xor_false]
    show _ = (_ ^^ (if x = T then (bs.getD c0 false && bs.getD c1 false) && ((C :: Cs).take (Ts.length + 1)).all (fun y => bs.getD y false) else markF _ _ (T' :: Ts) Cs x))
    by_cases hx : x = T
    · subst hx
      rw [g1, decide_eq_true rfl, if_pos rfl, mark_none hn.1, List.take_succ_cons, List.all_cons]
      cases bs.getD x false <;> cases bs.getD T' false <;> cases bs.getD C false <;> cases bs.getD c0 false <;> cases bs.getD c1 false <;> cases ((Cs.take Ts.length).all fun y => bs.getD y false) <;> rfl
    · rw [g1n x hx, decide_eq_false hx, if_neg hx, Bool.false_and, Bool.xor_false]
  | _ :: _ :: _, [], _, _, _, _, _, hl, _ => by simp at hl
theorem bits_ext {a b : List Bool} (hl : a.length = b.length) (h : ∀ x, a.getD x false = b.getD x false) : a = b := by
  apply List.ext_getElem hl
  intro i h1 h2
  have := h i
  rw [List.getD_eq_getElem?_getD, List.getD_eq_getElem?_getD, List.getElem?_eq_getElem h1, List.getElem?_eq_getElem h2] at this
  exact this
theorem perfF_app {gs hs : List Gt} {bs : List Bool} : perfF (gs ++ hs) bs = perfF hs (perfF gs bs) := by
  unfold perfF
  rw [List.foldl_append]
theorem ups_drop : ∀ {Ts Cs : List Nat}, (ups Ts Cs).drop 1 = ups Ts.tail Cs.tail
  | [], Cs => by cases Cs <;> rfl
  | [_], Cs => by cases Cs <;> rfl
  | T :: T' :: Ts, C :: Cs => rfl
  | _ :: T' :: Ts, [] => by cases Ts <;> rfl
theorem turn_last {t : Nat} {bs : List Nat} : (turnF t bs).getLast? = some ((turnF t bs).getD bs.length 0) := by
  rw [List.getLast?_eq_getElem?, turn_len, List.getD_eq_getElem?_getD, Nat.add_sub_cancel, List.getElem?_eq_getElem (by rw [turn_len]; omega)]
  rfl
/-- together they do what the gate does -/
theorem spread_ok {t : Nat} {cs bs : List Nat} {bits : List Bool} (hl : bs.length = cs.length - 2) (hnd : (t :: cs ++ bs).Nodup) (hb : ∀ x, x ∈ t :: cs ++ bs → x < bits.length) : perfF (spreadF t cs bs) bits = perfG bits (t, cs) := by
  unfold spreadF
  by_cases h0 : bs = []
  · rw [if_pos h0]; rfl
  rw [if_neg h0]
  have hbl : 0 < bs.length := List.length_pos_iff.mpr h0
  obtain ⟨c0, c1, cr, rfl⟩ : ∃ c0 c1 cr, cs = c0 :: c1 :: cr := by
    match cs, hl with
    | [], hl => simp at hl; exact absurd hl h0
    | [_], hl => simp at hl; exact absurd hl h0
    | c0 :: c1 :: cr, _ => exact ⟨c0, c1, cr, rfl⟩
  have hcl : cr.length = bs.length := by simp at hl; omega
  have eD := down_ups (t := t) (cs := c0 :: c1 :: cr) (bs := bs) (by simp; omega)
  have eL : lastF t (c0 :: c1 :: cr) bs = ((turnF t bs).getD bs.length 0, [c0, c1]) := rfl
  rw [eD, eL, ups_drop]
  have hzl := turn_last (t := t) (bs := bs)
  generalize (turnF t bs).getD bs.length 0 = z at hzl
  obtain ⟨b0, br, hbr⟩ : ∃ b0 br, bs.reverse = b0 :: br := by
    cases h : bs.reverse with
    | nil => exact absurd (List.reverse_eq_nil_iff.mp h) h0
    | cons b0 br => exact ⟨b0, br, rfl⟩
  have eT : turnF t bs = t :: b0 :: br := by unfold turnF; rw [hbr]
  have hmem : ∀ x, x ∈ b0 :: br ↔ x ∈ bs := fun x => by rw [← hbr]; exact List.mem_reverse
  rw [List.nodup_append, List.nodup_cons] at hnd
  obtain ⟨⟨htc, hcn⟩, hbn, hdis⟩ := hnd
  have hTn : (t :: b0 :: br).Nodup := by
    rw [List.nodup_cons, ← hbr]
    exact ⟨fun h => hdis t List.mem_cons_self t (List.mem_reverse.mp h) rfl, List.pairwise_reverse.mpr (hbn.imp fun h => h.symm)⟩
  have hTb : ∀ x, x ∈ t :: b0 :: br → x < bits.length := fun x hx => by
    rcases List.mem_cons.mp hx with rfl | hx
    · exact hb x (by simp)
    · exact hb x (List.mem_append.mpr (.inr ((hmem x).mp hx)))
  have hTd : ∀ x, x ∈ t :: b0 :: br → x ∉ (c0 :: c1 :: cr).reverse ∧ x ≠ c0 ∧ x ≠ c1 := fun x hx => by
    have : x ∉ c0 :: c1 :: cr := by
      rcases List.mem_cons.mp hx with rfl | hx
      · exact htc
      · exact fun h => hdis x (List.mem_cons_of_mem _ h) x ((hmem x).mp hx) rfl
    exact ⟨fun h => this (List.mem_reverse.mp h), fun e => this (by rw [e]; exact List.mem_cons_self), fun e => this (by rw [e]; exact List.mem_cons_of_mem _ List.mem_cons_self)⟩
  have hrl : (c0 :: c1 :: cr).reverse.length = bs.length + 2 := by rw [List.length_reverse]; simp; omega
  have hbl2 : (b0 :: br).length = bs.length := by rw [← hbr, List.length_reverse]
  rw [eT] at hzl ⊢
  rw [List.append_assoc (ups (t :: b0 :: br) (c0 :: c1 :: cr).reverse ++ [(z, [c0, c1])] ++ (ups (t :: b0 :: br) (c0 :: c1 :: cr).reverse).reverse), List.append_assoc (ups (t :: b0 :: br) (c0 :: c1 :: cr).reverse ++ [(z, [c0, c1])] ++ (ups (t :: b0 :: br) (c0 :: c1 :: cr).reverse).reverse), perfF_app]
  have g1 := half_ok (c0 := c0) (c1 := c1) (Ts := t :: b0 :: br) (Cs := (c0 :: c1 :: cr).reverse) (bs := bits) (z := z) hzl hTn hTb (by rw [hrl, List.length_cons, hbl2]; omega) hTd
  have l1 : (perfF (ups (t :: b0 :: br) (c0 :: c1 :: cr).reverse ++ [(z, [c0, c1])] ++ (ups (t :: b0 :: br) (c0 :: c1 :: cr).reverse).reverse) bits).length = bits.length := perfF_len
  generalize perfF (ups (t :: b0 :: br) (c0 :: c1 :: cr).reverse ++ [(z, [c0, c1])] ++ (ups (t :: b0 :: br) (c0 :: c1 :: cr).reverse).reverse) bits = b1 at g1 l1
  show perfF (ups (b0 :: br) (c0 :: c1 :: cr).reverse.tail ++ [(z, [c0, c1])] ++ (ups (b0 :: br) (c0 :: c1 :: cr).reverse.tail).reverse) b1 = _
  have g2 := half_ok (c0 := c0) (c1 := c1) (Ts := b0 :: br) (Cs := (c0 :: c1 :: cr).reverse.tail) (bs := b1) (z := z) hzl (List.nodup_cons.mp hTn).2 (fun x hx => by rw [l1]; exact hTb x (List.mem_cons_of_mem _ hx)) (by rw [List.length_tail, hrl, hbl2]; omega) (fun x hx => ⟨fun h => (hTd x (List.mem_cons_of_mem _ hx)).1 (List.mem_of_mem_tail h), (hTd x (List.mem_cons_of_mem _ hx)).2⟩)
  have same : ∀ y, y ∉ t :: b0 :: br → b1.getD y false = bits.getD y false := fun y hy => by rw [g1, mark_none hy, Bool.xor_false]
  have hc0 : c0 ∉ t :: b0 :: br := fun h => (hTd c0 h).2.1 rfl
  have hc1 : c1 ∉ t :: b0 :: br := fun h => (hTd c1 h).2.2 rfl
  have em : ∀ y, markF (fun y => b1.getD y false) (b1.getD c0 false && b1.getD c1 false) (b0 :: br) (c0 :: c1 :: cr).reverse.tail y = markF (fun y => bits.getD y false) (bits.getD c0 false && bits.getD c1 false) (b0 :: br) (c0 :: c1 :: cr).reverse.tail y := fun y => by
    rw [same c0 hc0, same c1 hc1]
    exact mark_congr fun w hw => same w fun h => (hTd w h).1 (List.mem_of_mem_tail hw)
  apply bits_ext (by rw [perfF_len, l1, perfG_len])
  intro x
  rw [g2, em, g1]
  have eG : perfG bits (t, c0 :: c1 :: cr) = if (c0 :: c1 :: cr).all (fun c => bits.getD c false) then bits.set t (!bits.getD t false) else bits := rfl
  rw [eG, getD_tog (hTb t List.mem_cons_self)]
  show ((_ ^^ (if x = t then _ else markF _ _ (b0 :: br) (c0 :: c1 :: cr).reverse.tail x)) ^^ markF _ _ (b0 :: br) (c0 :: c1 :: cr).reverse.tail x) = _
  by_cases hx : x = t
  · subst hx
    rw [if_pos rfl, mark_none (List.nodup_cons.mp hTn).1, Bool.xor_false, decide_eq_true rfl, Bool.true_and]
    congr 1
    rw [hbl2]
    have e1 : (c0 :: c1 :: cr).reverse.take bs.length = cr.reverse := by
      rw [List.reverse_cons, List.reverse_cons, List.append_assoc, List.take_append_of_le_length (by rw [List.length_reverse]; omega)]
      exact List.take_of_length_le (by rw [List.length_reverse]; omega)
    rw [e1, List.all_reverse, List.all_cons, List.all_cons, Bool.and_assoc]
  · rw [if_neg hx, decide_eq_false hx, Bool.false_and, Bool.xor_false, Bool.xor_assoc, Bool.xor_self, Bool.xor_false]
end Br
namespace Br
open PySem PySem.Spec PyProof.Rows L2
theorem two_2 {t a b : Nat} (h : a ≠ b) : ∃ x y, (two t a b).2 = [x, y] ∧ x < y ∧ ((x = a ∧ y = b) ∨ (x = b ∧ y = a)) := by
  unfold two
  by_cases hh : a < b
  · rw [if_pos hh]; exact ⟨a, b, rfl, hh, .inl ⟨rfl, rfl⟩⟩
  · rw [if_neg hh]; exact ⟨b, a, rfl, by omega, .inr ⟨rfl, rfl⟩⟩
/-- a gate with two controls among so many bits -/
structure TwoOk (U : List Nat) (g : Gt) : Prop where
  ex : ∃ x y, g.2 = [x, y] ∧ x < y ∧ g.1 ≠ x ∧ g.1 ≠ y ∧ g.1 ∈ U ∧ x ∈ U ∧ y ∈ U
theorem TwoOk.gt {U : List Nat} {n : Nat} {g : Gt} (h : TwoOk U g) (hU : ∀ x, x ∈ U → x < n) : GtOk n g := by
  obtain ⟨x, y, e, h1, h2, h3, h4, h5, h6⟩ := h.ex
  refine ⟨hU _ h4, fun c hc => ?_, fun hm => ?_, ?_⟩
  · rw [e] at hc
    simp only [List.mem_cons, List.not_mem_nil, or_false] at hc
    rcases hc with rfl | rfl
    · exact hU _ h5
    · exact hU _ h6
  · rw [e] at hm
    simp only [List.mem_cons, List.not_mem_nil, or_false] at hm
    rcases hm with hm | hm
    · exact h2 hm
    · exact h3 hm
  · rw [e]
    simp [h1]
theorem getD_mem2 {xs : List Nat} {i : Nat} (h : i < xs.length) : xs.getD i 0 ∈ xs := by
  rw [List.getD_eq_getElem?_getD, List.getElem?_eq_getElem h]
  exact List.getElem_mem _
theorem getD_ne {xs : List Nat} {i j : Nat} (hn : xs.Nodup) (hi : i < xs.length) (hj : j < xs.length) (h : i ≠ j) : xs.getD i 0 ≠ xs.getD j 0 := by
  rw [List.getD_eq_getElem?_getD, List.getD_eq_getElem?_getD, List.getElem?_eq_getElem hi, List.getElem?_eq_getElem hj]
  intro e
  have e : xs[i] = xs[j] := e
  rcases Nat.lt_or_gt_of_ne h with hlt | hlt
  · exact List.pairwise_iff_getElem.mp hn i j hi hj hlt e
  · exact List.pairwise_iff_getElem.mp hn j i hj hi hlt e.symm
theorem spread_two {t : Nat} {cs bs : List Nat} (hl : bs.length = cs.length - 2) (h3 : 3 ≤ cs.length) (hup : cs.Pairwise (· < ·)) (hnd : (t :: cs ++ bs).Nodup) : (spreadF t cs bs).length = 4 * (cs.length - 2) ∧ ∀ g, g ∈ spreadF t cs bs → TwoOk (t :: cs ++ bs) g := by
  have h0 : bs ≠ [] := fun e => by rw [e] at hl; simp at hl; omega
  rw [List.nodup_append, List.nodup_cons] at hnd
  obtain ⟨⟨htc, hcn⟩, hbn, hdis⟩ := hnd
  have hTn : (turnF t bs).Nodup := by
    unfold turnF
    rw [List.nodup_cons]
    exact ⟨fun h => hdis t List.mem_cons_self t (List.mem_reverse.mp h) rfl, List.pairwise_reverse.mpr (hbn.imp fun h => h.symm)⟩
  have hTU : ∀ x, x ∈ turnF t bs → x ∈ t :: cs ++ bs ∧ x ∉ cs := fun x hx => by
    rcases List.mem_cons.mp hx with rfl | hx
    · exact ⟨by simp, htc⟩
    · have hx := List.mem_reverse.mp hx
      exact ⟨List.mem_append.mpr (.inr hx), fun h => hdis x (List.mem_cons_of_mem _ h) x hx rfl⟩
  have hD : ∀ g, g ∈ downF t cs bs → TwoOk (t :: cs ++ bs) g := fun g hg => by
    obtain ⟨j, hj, rfl⟩ := List.mem_map.mp hg
    have hj := List.mem_range.mp hj
    have a1 := getD_mem2 (xs := turnF t bs) (i := j) (by rw [turn_len]; omega)
    have a2 := getD_mem2 (xs := turnF t bs) (i := j + 1) (by rw [turn_len]; omega)
    have a3 := getD_mem2 (xs := cs) (i := cs.length - 1 - j) (by omega)
    have n1 := getD_ne (i := j) (j := j + 1) hTn (by rw [turn_len]; omega) (by rw [turn_len]; omega) (by omega)
    generalize (turnF t bs).getD j 0 = x at a1 n1
    generalize (turnF t bs).getD (j + 1) 0 = y at a2 n1
    generalize cs.getD (cs.length - 1 - j) 0 = c at a3
    obtain ⟨u1, u2⟩ := hTU x a1
    obtain ⟨v1, v2⟩ := hTU y a2
    have hxc : x ≠ c := fun e => u2 (by rw [e]; exact a3)
    have hyc : y ≠ c := fun e => v2 (by rw [e]; exact a3)
    have cU : c ∈ t :: cs ++ bs := by simp [a3]
    obtain ⟨p, q, e, hpq, h⟩ := two_2 (t := x) hyc
    refine ⟨p, q, e, hpq, ?_⟩
    rcases h with ⟨rfl, rfl⟩ | ⟨rfl, rfl⟩
    · exact ⟨n1, hxc, u1, v1, cU⟩
    · exact ⟨hxc, n1, u1, cU, v1⟩
  have hL : TwoOk (t :: cs ++ bs) (lastF t cs bs) := by
    have a1 := getD_mem2 (xs := turnF t bs) (i := bs.length) (by rw [turn_len]; omega)
    obtain ⟨u1, u2⟩ := hTU _ a1
    match cs, h3 with
    | c0 :: c1 :: cr, _ =>
      refine ⟨c0, c1, rfl, (List.pairwise_cons.mp hup).1 c1 List.mem_cons_self, fun e => u2 (by rw [← e]; exact List.mem_cons_self), fun e => u2 (by rw [← e]; exact List.mem_cons_of_mem _ List.mem_cons_self), u1, by simp, by simp⟩
  unfold spreadF
  rw [if_neg h0]
  constructor
  · simp only [List.length_append, List.length_reverse, List.length_drop, List.length_cons, List.length_nil, down_len]
    have := List.length_pos_iff.mpr h0
    omega
  · intro g hg
    simp only [List.mem_append, List.mem_reverse, List.mem_cons, List.not_mem_nil, or_false] at hg
    rcases hg with ((((h | h) | h) | h) | h) | h
    · exact hD g h
    · rw [h]; exact hL
    · exact hD g h
    · exact hD g (List.mem_of_mem_drop h)
    · rw [h]; exact hL
    · exact hD g (List.mem_of_mem_drop h)
end Br

/-! ### programs with the modulus 2 as gates -/
namespace Br
open PySem PySem.Spec PyProof.Rows L2 Br.F
def facB (i : Nat) : Fac → Nat
  | .cell k => i + k
  | .inp k => k
/-- the gates of a step; bits of cells behind those of inputs -/
def GtsOf (i : Nat) : Stp → List Gt → Prop
  | .add t c fs, gs => (c = 0 ∧ gs = []) ∨ (c ≠ 0 ∧ ∃ cs : List Nat, cs.Pairwise (· < ·) ∧ (∀ x, x ∈ cs ↔ x ∈ fs.map (facB i)) ∧ gs = [(i + t, cs)])
  | .scale _ _, gs => gs = []
  | .swap a b, gs => gs = [(i + a, [i + b]), (i + b, [i + a]), (i + a, [i + b])]
  | .tab _ _ _ _ _, _ => False
inductive GtsAll (i : Nat) : List Stp → List Gt → Prop
  | nil : GtsAll i [] []
  | snoc {ss : List Stp} {s : Stp} {gs hs : List Gt} : GtsAll i ss gs → GtsOf i s hs → GtsAll i (ss ++ [s]) (gs ++ hs)
theorem GtsOf.len {i : Nat} {s : Stp} {gs : List Gt} (h : GtsOf i s gs) : gs.length ≤ 3 := by
  cases s with
  | add t c fs =>
    rcases h with ⟨_, rfl⟩ | ⟨_, cs, _, _, rfl⟩
    · exact Nat.zero_le _
    · show 1 ≤ 3; decide
  | scale t u => obtain rfl := h; exact Nat.zero_le _
  | swap a b => obtain rfl := h; show 3 ≤ 3; decide
  | tab t g tb a b => exact h.elim
theorem GtsAll.len {i : Nat} {ss : List Stp} {gs : List Gt} (h : GtsAll i ss gs) : gs.length ≤ 3 * ss.length := by
  induction h with
  | nil => exact Nat.le_refl _
  | snoc h g ih =>
    have := g.len
    rw [List.length_append, List.length_append, List.length_singleton]
    omega
theorem facB_lt {c i t : Nat} {f : Fac} (h : FacOk c i t f) : facB i f < i + c ∧ facB i f ≠ i + t := by
  cases f with
  | cell k => exact ⟨by show i + k < _; have := h.1; omega, by show i + k ≠ _; have := h.2; omega⟩
  | inp k =>
    have h : k < i := h
    exact ⟨by show k < _; omega, by show k ≠ _; omega⟩
theorem GtsOf.oks {m c i : Nat} {s : Stp} {gs : List Gt} (ok : StpOk m c i s) (h : GtsOf i s gs) : ∀ g, g ∈ gs → GtOk (i + c) g := by
  have one : ∀ {a b : Nat}, a < c → b < c → a ≠ b → GtOk (i + c) (i + a, [i + b]) := fun {a b} ha hb hne =>
    ⟨by show i + a < _; omega, fun x hx => by rw [List.mem_singleton.mp hx]; omega, fun hx => by have := List.mem_singleton.mp hx; omega, List.pairwise_singleton _ _⟩
  cases s with
  | add t u fs =>
    obtain ⟨o1, _, _, _, o5⟩ := ok
    rcases h with ⟨_, rfl⟩ | ⟨_, cs, hup, hmem, rfl⟩
    · exact fun g hg => by simp at hg
    · intro g hg
      rw [List.mem_singleton.mp hg]
      refine ⟨by show i + t < _; omega, fun x hx => ?_, fun hx => ?_, hup⟩
      · obtain ⟨f, hf, rfl⟩ := List.mem_map.mp ((hmem x).mp hx)
        exact (facB_lt (o5 f hf)).1
      · obtain ⟨f, hf, e⟩ := List.mem_map.mp ((hmem _).mp hx)
        exact (facB_lt (o5 f hf)).2 e
  | scale t u => obtain rfl := h; exact fun g hg => by simp at hg
  | swap a b =>
    obtain rfl := h
    obtain ⟨ha, hb, hne⟩ := ok
    intro g hg
    have e : g = (i + a, [i + b]) ∨ g = (i + b, [i + a]) := by
      simp only [List.mem_cons, List.not_mem_nil, or_false] at hg
      rcases hg with h | h | h
      · exact .inl h
      · exact .inr h
      · exact .inl h
    rcases e with rfl | rfl
    · exact one ha hb hne
    · exact one hb ha hne.symm
  | tab t g tb a b => exact h.elim
theorem GtsAll.oks {m c i : Nat} {ss : List Stp} {gs : List Gt} (h : GtsAll i ss gs) : (∀ s, s ∈ ss → StpOk m c i s) → ∀ g, g ∈ gs → GtOk (i + c) g := by
  induction h with
  | nil => exact fun _ g hg => by simp at hg
  | snoc h g ih =>
    intro ok x hx
    rcases List.mem_append.mp hx with hx | hx
    · exact ih (fun s hs => ok s (List.mem_append_left _ hs)) x hx
    · exact g.oks (ok _ (List.mem_append_right _ List.mem_cons_self)) x hx
/-- numbers as bits -/
def bitF (zs : List Int) : List Bool := zs.map fun z => decide (z = 1)
theorem bitF_len {zs : List Int} : (bitF zs).length = zs.length := by unfold bitF; rw [List.length_map]
theorem bitF_get {zs : List Int} {x : Nat} : (bitF zs).getD x false = decide (zs.getD x 0 = 1) := by
  unfold bitF
  rw [List.getD_eq_getElem?_getD, List.getD_eq_getElem?_getD, List.getElem?_map]
  cases zs[x]? <;> rfl
theorem bitF_set {zs : List Int} {x : Nat} {z : Int} : bitF (zs.set x z) = (bitF zs).set x (decide (z = 1)) := by unfold bitF; rw [List.map_set]
theorem app_getL {iv mv : List Int} {k : Nat} (h : k < iv.length) : (iv ++ mv).getD k 0 = iv.getD k 0 := by
  rw [List.getD_eq_getElem?_getD, List.getD_eq_getElem?_getD, List.getElem?_append_left h]
theorem app_getR {iv mv : List Int} {k : Nat} : (iv ++ mv).getD (iv.length + k) 0 = mv.getD k 0 := by
  rw [List.getD_eq_getElem?_getD, List.getD_eq_getElem?_getD, List.getElem?_append_right (by omega), Nat.add_sub_cancel_left]
theorem app_setR {iv mv : List Int} {k : Nat} {z : Int} : iv ++ mv.set k z = (iv ++ mv).set (iv.length + k) z := by
  rw [List.set_append_right _ _ (by omega), Nat.add_sub_cancel_left]
theorem fac_all {c i t : Nat} {mv iv : List Int} {f : Fac} (hi : iv.length = i) (h : FacOk c i t f) : facV mv iv f = (iv ++ mv).getD (facB i f) 0 := by
  subst hi
  cases f with
  | cell k => exact app_getR.symm
  | inp k => exact (app_getL h).symm
theorem two_val {z : Int} (h0 : 0 ≤ z) (h1 : z < ((2 : Nat) : Int)) : z = 0 ∨ z = 1 := by omega
theorem prod_bits {mv iv : List Int} : ∀ {fs : List Fac}, (∀ f, f ∈ fs → facV mv iv f = 0 ∨ facV mv iv f = 1) → (prodV mv iv fs = 1 ∧ ∀ f, f ∈ fs → facV mv iv f = 1) ∨ (prodV mv iv fs = 0 ∧ ∃ f, f ∈ fs ∧ facV mv iv f = 0)
  | [], _ => .inl ⟨rfl, fun f h => by simp at h⟩
  | f :: fs, h => by
    have h0 := h f List.mem_cons_self
    have ih := prod_bits fun g hg => h g (List.mem_cons_of_mem _ hg)
    show (facV mv iv f * prodV mv iv fs = 1 ∧ _) ∨ (facV mv iv f * prodV mv iv fs = 0 ∧ _)
    rcases h0 with h0 | h0
    · exact .inr ⟨by rw [h0, Int.zero_mul], f, List.mem_cons_self, h0⟩
    · rcases ih with ⟨e, ha⟩ | ⟨e, g, hg, hz⟩
      · refine .inl ⟨by rw [h0, e]; rfl, fun g hg => ?_⟩
        rcases List.mem_cons.mp hg with rfl | hg
        · exact h0
        · exact ha g hg
      · exact .inr ⟨by rw [e, Int.mul_zero], g, List.mem_cons_of_mem _ hg, hz⟩
theorem perfG_get {bs : List Bool} {t c x : Nat} (ht : t < bs.length) : (perfG bs (t, [c])).getD x false = (bs.getD x false ^^ (decide (x = t) && bs.getD c false)) := by
  have e : perfG bs (t, [c]) = if bs.getD c false then bs.set t (!bs.getD t false) else bs := by
    unfold perfG
    simp only [List.all_cons, List.all_nil, Bool.and_true]
  rw [e]
  exact getD_tog ht
theorem GtsOf.run {c i : Nat} {s : Stp} {gs : List Gt} {mv iv : List Int} (ok : StpOk 2 c i s) (h : GtsOf i s gs) (mm : Mem 2 c mv) (mi : Mem 2 i iv) : perfF gs (bitF (iv ++ mv)) = bitF (iv ++ stepF 2 iv mv s) := by
  have hil := mi.len
  cases s with
  | add t u fs =>
    obtain ⟨o1, o2, o3, _, o5⟩ := ok
    obtain ⟨z, gz, ez, z0, z1⟩ := mm.get o1
    show _ = bitF (iv ++ mv.set t ((mv.getD t 0 + u * prodV mv iv fs) % ((2 : Nat) : Int)))
    rw [ez]
    rcases h with ⟨rfl, rfl⟩ | ⟨hu, cs, hup, hmem, rfl⟩
    · rw [Int.zero_mul, Int.add_zero, Int.emod_eq_of_lt z0 z1, ← ez, set_getD]
      rfl
    · obtain rfl : u = 1 := by omega
      rw [Int.one_mul]
      have fv : ∀ f, f ∈ fs → facV mv iv f = 0 ∨ facV mv iv f = 1 := fun f hf => by
        have hok := o5 f hf
        cases f with
        | cell k =>
          obtain ⟨y, _, ey, y0, y1⟩ := mm.get hok.1
          show mv.getD k 0 = 0 ∨ mv.getD k 0 = 1
          rw [ey]; exact two_val y0 y1
        | inp k =>
          obtain ⟨y, _, ey, y0, y1⟩ := mi.get (show k < i from hok)
          show iv.getD k 0 = 0 ∨ iv.getD k 0 = 1
          rw [ey]; exact two_val y0 y1
      have hbit : (bitF (iv ++ mv)).getD (i + t) false = decide (z = 1) := by
        rw [bitF_get, ← hil, app_getR, ez]
      show perfG (bitF (iv ++ mv)) (i + t, cs) = _
      unfold perfG
      rcases prod_bits fv with ⟨e, ha⟩ | ⟨e, f, hf, hz⟩
      · have hall : cs.all (fun c => (bitF (iv ++ mv)).getD c false) = true := by
          rw [List.all_eq_true]
          intro x hx
          obtain ⟨f, hf, rfl⟩ := List.mem_map.mp ((hmem x).mp hx)
          rw [bitF_get, ← fac_all hil (o5 f hf), ha f hf]
          rfl
        rw [if_pos hall, e, app_setR, bitF_set, hil]
        show (bitF (iv ++ mv)).set (i + t) (!(bitF (iv ++ mv)).getD (i + t) false) = _
        rw [hbit]
        rcases two_val z0 z1 with rfl | rfl <;> rfl
      · have hall : ¬ cs.all (fun c => (bitF (iv ++ mv)).getD c false) = true := by
          rw [List.all_eq_true]
          intro hx
          have h1 := hx (facB i f) ((hmem _).mpr (List.mem_map.mpr ⟨f, hf, rfl⟩))
          rw [bitF_get, ← fac_all hil (o5 f hf), hz] at h1
          cases h1
        rw [if_neg hall, e, Int.add_zero, Int.emod_eq_of_lt z0 z1, ← ez, set_getD]
  | scale t u =>
    obtain rfl := h
    obtain ⟨o1, o2, o3, o4⟩ := ok
    obtain ⟨z, gz, ez, z0, z1⟩ := mm.get o1
    have hu : u = 1 := by
      rcases two_val o2 o3 with rfl | h
      · exact absurd o4 (by decide)
      · exact h
    show bitF (iv ++ mv) = bitF (iv ++ mv.set t (mv.getD t 0 * u % ((2 : Nat) : Int)))
    rw [ez, hu, Int.mul_one, Int.emod_eq_of_lt z0 z1, ← ez, set_getD]
  | swap a b =>
    obtain rfl := h
    obtain ⟨ha, hb, hne⟩ := ok
    have hl : (bitF (iv ++ mv)).length = i + c := by rw [bitF_len, List.length_append, hil, mm.len]
    show perfG (perfG (perfG (bitF (iv ++ mv)) (i + a, [i + b])) (i + b, [i + a])) (i + a, [i + b]) = bitF (iv ++ (mv.set a (mv.getD b 0)).set b (mv.getD a 0))
    refine bits_ext ?_ fun x => ?_
    · rw [perfG_len, perfG_len, perfG_len, hl, bitF_len, List.length_append, List.length_set, List.length_set, hil, mm.len]
    · have l0 : i + a < (bitF (iv ++ mv)).length := by omega
      have l1 : i + b < (perfG (bitF (iv ++ mv)) (i + a, [i + b])).length := by rw [perfG_len]; omega
      have l2 : i + a < (perfG (perfG (bitF (iv ++ mv)) (i + a, [i + b])) (i + b, [i + a])).length := by rw [perfG_len, perfG_len]; omega
      rw [app_setR, app_setR, hil, bitF_set, bitF_set]
      have ea : (bitF (iv ++ mv)).getD (i + a) false = decide (mv.getD a 0 = 1) := by rw [bitF_get, ← hil, app_getR]
      have eb : (bitF (iv ++ mv)).getD (i + b) false = decide (mv.getD b 0 = 1) := by rw [bitF_get, ← hil, app_getR]
      rw [← ea, ← eb]
      generalize bitF (iv ++ mv) = B at *
      rw [perfG_get l2, perfG_get l1, perfG_get l1, perfG_get l0, perfG_get l0, perfG_get l0]
      have nab : i + b ≠ i + a := by omega
      by_cases hxb : x = i + b
      · subst hxb
        rw [List.getD_eq_getElem?_getD (l := (B.set _ _).set _ _), List.getElem?_set_self (by rw [List.length_set]; omega)]
        rw [decide_eq_false nab, decide_eq_true (rfl : i + b = i + b), decide_eq_true (rfl : i + a = i + a)]
        cases B.getD (i + a) false <;> cases B.getD (i + b) false <;> rfl
      · rw [getD_setB (fun e => hxb e.symm)]
        by_cases hxa : x = i + a
        · subst hxa
          rw [List.getD_eq_getElem?_getD (l := B.set _ _), List.getElem?_set_self l0]
          rw [show decide (i + a = i + b) = false from decide_eq_false hxb, decide_eq_true (rfl : i + a = i + a), decide_eq_true (rfl : i + b = i + b), decide_eq_false nab]
          cases B.getD (i + a) false <;> cases B.getD (i + b) false <;> rfl
        · rw [getD_setB (fun e => hxa e.symm), decide_eq_false hxa, decide_eq_false hxb]
          cases B.getD x false <;> rfl
  | tab t g tb a b => exact h.elim
theorem GtsAll.run {c i : Nat} {ss : List Stp} {gs : List Gt} {mv iv : List Int} (h : GtsAll i ss gs) : (∀ s, s ∈ ss → StpOk 2 c i s) → Mem 2 c mv → Mem 2 i iv → perfF gs (bitF (iv ++ mv)) = bitF (iv ++ runF 2 iv ss mv) := by
  induction h with
  | nil => exact fun _ _ _ => rfl
  | snoc h g ih =>
    intro ok mm mi
    have ok1 := fun s hs => ok s (List.mem_append_left _ hs)
    rw [perfF_app, ih ok1 mm mi, runF_snoc]
    exact g.run (ok _ (List.mem_append_right _ List.mem_cons_self)) (runF_mem (by decide) mm ok1) mi
theorem up_uniq : ∀ {xs ys : List Nat}, xs.Pairwise (· < ·) → ys.Pairwise (· < ·) → (∀ z, z ∈ xs ↔ z ∈ ys) → xs = ys
  | [], [], _, _, _ => rfl
  | [], y :: ys, _, _, h => by have := (h y).mpr List.mem_cons_self; simp at this
  | x :: xs, [], _, _, h => by have := (h x).mp List.mem_cons_self; simp at this
  | x :: xs, y :: ys, hx, hy, h => by
    rw [List.pairwise_cons] at hx hy
    have e : x = y := by
      rcases List.mem_cons.mp ((h x).mp List.mem_cons_self) with e | e
      · exact e
      · rcases List.mem_cons.mp ((h y).mpr List.mem_cons_self) with e2 | e2
        · exact e2.symm
        · have := hy.1 x e
          have := hx.1 y e2
          omega
    subst e
    refine congrArg (x :: ·) (up_uniq hx.2 hy.2 fun z => ⟨fun hz => ?_, fun hz => ?_⟩)
    · rcases List.mem_cons.mp ((h z).mp (List.mem_cons_of_mem _ hz)) with e | e
      · have := hx.1 z hz; omega
      · exact e
    · rcases List.mem_cons.mp ((h z).mpr (List.mem_cons_of_mem _ hz)) with e | e
      · have := hy.1 z hz; omega
      · exact e
theorem GtsOf.uniq {i : Nat} {s : Stp} {gs hs : List Gt} (h : GtsOf i s gs) (g : GtsOf i s hs) : gs = hs := by
  cases s with
  | add t c fs =>
    rcases h with ⟨h0, rfl⟩ | ⟨h0, cs, h1, h2, rfl⟩
    · rcases g with ⟨_, rfl⟩ | ⟨g0, _⟩
      · rfl
      · exact absurd h0 g0
    · rcases g with ⟨g0, _⟩ | ⟨_, ds, g1, g2, rfl⟩
      · exact absurd g0 h0
      · rw [up_uniq h1 g1 fun z => (h2 z).trans (g2 z).symm]
  | scale => exact h.trans g.symm
  | swap => exact h.trans g.symm
  | tab => exact h.elim
theorem GtsAll.uniq {i : Nat} {ss : List Stp} {gs : List Gt} (h : GtsAll i ss gs) : ∀ {hs : List Gt}, GtsAll i ss hs → gs = hs := by
  induction h with
  | nil =>
    intro hs g
    generalize e : ([] : List Stp) = ss at g
    cases g with
    | nil => rfl
    | snoc => simp at e
  | @snoc ss s gs hs h1 h2 ih =>
    intro ks g
    generalize e : ss ++ [s] = tt at g
    cases g with
    | nil => simp at e
    | snoc g1 g2 =>
      obtain ⟨rfl, e2⟩ := List.append_inj' e rfl
      cases e2
      rw [ih g1, h2.uniq g2]
end Br









namespace Br
open PySem PySem.Spec PyProof.Rows L2
def topS (i : Nat) : Stmt := PySem.Challenge.pw_brimful_k34_programs_become_gates.main.body.getD i (.Pass ⟨0, 0, 0, 0⟩)
abbrev s_is_below : Stmt := topS 9
abbrev N_is_below : List Str := ["value", "bound"]
theorem sc_is_below : FnScope N_is_below ["value", "bound"] (defScope s_is_below) := ⟨rfl, rfl, rfl, by decide +kernel, rfl, by decide +kernel, by decide +kernel⟩
abbrev s_is_modulus : Stmt := topS 10
abbrev N_is_modulus : List Str := ["value"]
theorem sc_is_modulus : FnScope N_is_modulus ["value"] (defScope s_is_modulus) := ⟨rfl, rfl, rfl, by decide +kernel, rfl, by decide +kernel, by decide +kernel⟩
abbrev s_is_prime : Stmt := topS 11
abbrev N_is_prime : List Str := ["n", "divisor"]
theorem sc_is_prime : FnScope N_is_prime ["n"] (defScope s_is_prime) := ⟨rfl, rfl, rfl, by decide +kernel, rfl, by decide +kernel, by decide +kernel⟩
abbrev s_gates_of : Stmt := topS 14
abbrev N_gates_of : List Str := ["program", "gates", "step"]
theorem sc_gates_of : FnScope N_gates_of ["program"] (defScope s_gates_of) := ⟨rfl, rfl, rfl, by decide +kernel, rfl, by decide +kernel, by decide +kernel⟩
abbrev s_gates_of_step : Stmt := topS 15
abbrev N_gates_of_step : List Str := ["step", "inputs", "target", "factors", "controls", "a", "b", "there", "back", "place", "at"]
theorem sc_gates_of_step : FnScope N_gates_of_step ["step", "inputs"] (defScope s_gates_of_step) := ⟨rfl, rfl, rfl, by decide +kernel, rfl, by decide +kernel, by decide +kernel⟩
abbrev s_is_step : Stmt := topS 18
abbrev N_is_step : List Str := ["step", "modulus", "cells", "inputs", "target", "coefficient", "factors", "unit", "a", "b", "sign", "table"]
theorem sc_is_step : FnScope N_is_step ["step", "modulus", "cells", "inputs"] (defScope s_is_step) := ⟨rfl, rfl, rfl, by decide +kernel, rfl, by decide +kernel, by decide +kernel⟩
abbrev s_are_factors : Stmt := topS 19
abbrev N_are_factors : List Str := ["factors", "target", "cells", "inputs", "factor"]
theorem sc_are_factors : FnScope N_are_factors ["factors", "target", "cells", "inputs"] (defScope s_are_factors) := ⟨rfl, rfl, rfl, by decide +kernel, rfl, by decide +kernel, by decide +kernel⟩
abbrev s_is_factor : Stmt := topS 20
abbrev N_is_factor : List Str := ["factor", "target", "cells", "inputs", "at"]
theorem sc_is_factor : FnScope N_is_factor ["factor", "target", "cells", "inputs"] (defScope s_is_factor) := ⟨rfl, rfl, rfl, by decide +kernel, rfl, by decide +kernel, by decide +kernel⟩
abbrev s_are_three_cells : Stmt := topS 21
abbrev N_are_three_cells : List Str := ["target", "a", "b", "cells", "cell"]
theorem sc_are_three_cells : FnScope N_are_three_cells ["target", "a", "b", "cells"] (defScope s_are_three_cells) := ⟨rfl, rfl, rfl, by decide +kernel, rfl, by decide +kernel, by decide +kernel⟩
abbrev s_is_sign : Stmt := topS 22
abbrev N_is_sign : List Str := ["sign", "modulus"]
theorem sc_is_sign : FnScope N_is_sign ["sign", "modulus"] (defScope s_is_sign) := ⟨rfl, rfl, rfl, by decide +kernel, rfl, by decide +kernel, by decide +kernel⟩
abbrev s_is_table : Stmt := topS 23
abbrev N_is_table : List Str := ["table", "modulus", "row"]
theorem sc_is_table : FnScope N_is_table ["table", "modulus"] (defScope s_is_table) := ⟨rfl, rfl, rfl, by decide +kernel, rfl, by decide +kernel, by decide +kernel⟩
abbrev s_is_row : Stmt := topS 24
abbrev N_is_row : List Str := ["row", "size", "modulus", "value"]
theorem sc_is_row : FnScope N_is_row ["row", "size", "modulus"] (defScope s_is_row) := ⟨rfl, rfl, rfl, by decide +kernel, rfl, by decide +kernel, by decide +kernel⟩
abbrev s_check_sizes : Stmt := topS 31
abbrev N_check_sizes : List Str := ["modulus", "cells", "inputs"]
theorem sc_check_sizes : FnScope N_check_sizes ["modulus", "cells", "inputs"] (defScope s_check_sizes) := ⟨rfl, rfl, rfl, by decide +kernel, rfl, by decide +kernel, by decide +kernel⟩
abbrev s_check_steps : Stmt := topS 32
abbrev N_check_steps : List Str := ["steps", "modulus", "cells", "inputs", "at", "step"]
theorem sc_check_steps : FnScope N_check_steps ["steps", "modulus", "cells", "inputs"] (defScope s_check_steps) := ⟨rfl, rfl, rfl, by decide +kernel, rfl, by decide +kernel, by decide +kernel⟩
abbrev s_law_mixed : Stmt := topS 34
abbrev N_law_mixed : List Str := ["number", "k", "step"]
theorem sc_law_mixed : FnScope N_law_mixed ["number", "k"] (defScope s_law_mixed) := ⟨rfl, rfl, rfl, by decide +kernel, rfl, by decide +kernel, by decide +kernel⟩
abbrev s_law_numbers : Stmt := topS 35
abbrev N_law_numbers : List Str := ["script", "numbers", "cell", "rest", "k"]
theorem sc_law_numbers : FnScope N_law_numbers ["script"] (defScope s_law_numbers) := ⟨rfl, rfl, rfl, by decide +kernel, rfl, by decide +kernel, by decide +kernel⟩
abbrev s_law_draw : Stmt := topS 36
abbrev N_law_draw : List Str := ["draws", "at", "first"]
theorem sc_law_draw : FnScope N_law_draw ["draws"] (defScope s_law_draw) := ⟨rfl, rfl, rfl, by decide +kernel, rfl, by decide +kernel, by decide +kernel⟩
abbrev s_law_equal : Stmt := topS 37
abbrev N_law_equal : List Str := ["actual", "due"]
theorem sc_law_equal : FnScope N_law_equal ["actual", "due"] (defScope s_law_equal) := ⟨rfl, rfl, rfl, by decide +kernel, rfl, by decide +kernel, by decide +kernel⟩
abbrev s_law_all_equal : Stmt := topS 38
abbrev N_law_all_equal : List Str := ["actual", "due", "k"]
theorem sc_law_all_equal : FnScope N_law_all_equal ["actual", "due"] (defScope s_law_all_equal) := ⟨rfl, rfl, rfl, by decide +kernel, rfl, by decide +kernel, by decide +kernel⟩
abbrev s_law_gcd : Stmt := topS 39
abbrev N_law_gcd : List Str := ["a", "b", "k", "c"]
theorem sc_law_gcd : FnScope N_law_gcd ["a", "b"] (defScope s_law_gcd) := ⟨rfl, rfl, rfl, by decide +kernel, rfl, by decide +kernel, by decide +kernel⟩
abbrev s_law_factors : Stmt := topS 40
abbrev N_law_factors : List Str := ["draws", "cells", "inputs", "target", "factors", "k"]
theorem sc_law_factors : FnScope N_law_factors ["draws", "cells", "inputs", "target"] (defScope s_law_factors) := ⟨rfl, rfl, rfl, by decide +kernel, rfl, by decide +kernel, by decide +kernel⟩
abbrev s_law_number : Stmt := topS 41
abbrev N_law_number : List Str := ["draws", "modulus", "pick"]
theorem sc_law_number : FnScope N_law_number ["draws", "modulus"] (defScope s_law_number) := ⟨rfl, rfl, rfl, by decide +kernel, rfl, by decide +kernel, by decide +kernel⟩
abbrev s_law_step : Stmt := topS 42
abbrev N_law_step : List Str := ["draws", "modulus", "cells", "inputs", "target", "pick", "unit"]
theorem sc_law_step : FnScope N_law_step ["draws", "modulus", "cells", "inputs"] (defScope s_law_step) := ⟨rfl, rfl, rfl, by decide +kernel, rfl, by decide +kernel, by decide +kernel⟩
abbrev s_law_rising : Stmt := topS 43
abbrev N_law_rising : List Str := ["row", "rising", "bit"]
theorem sc_law_rising : FnScope N_law_rising ["row"] (defScope s_law_rising) := ⟨rfl, rfl, rfl, by decide +kernel, rfl, by decide +kernel, by decide +kernel⟩
abbrev s_law_gates : Stmt := topS 44
abbrev N_law_gates : List Str := ["step", "inputs", "bits", "kind", "at", "a", "b"]
theorem sc_law_gates : FnScope N_law_gates ["step", "inputs"] (defScope s_law_gates) := ⟨rfl, rfl, rfl, by decide +kernel, rfl, by decide +kernel, by decide +kernel⟩
abbrev s_law_refused : Stmt := topS 45
abbrev N_law_refused : List Str := ["program", "e"]
theorem sc_law_refused : FnScope N_law_refused ["program"] (defScope s_law_refused) := ⟨rfl, rfl, rfl, by decide +kernel, rfl, by decide +kernel, by decide +kernel⟩
abbrev s_law : Stmt := topS 46
abbrev N_law : List Str := ["script", "draws", "cells", "inputs", "steps", "due", "step", "program", "told", "modulus", "at", "look", "k"]
theorem sc_law : FnScope N_law ["script"] (defScope s_law) := ⟨rfl, rfl, rfl, by decide +kernel, rfl, by decide +kernel, by decide +kernel⟩
abbrev s_Program___init : Stmt := inClass (topS 30) 0
abbrev N_Program___init : List Str := ["self", "modulus", "cells", "inputs", "steps"]
theorem sc_Program___init : FnScope N_Program___init ["self", "modulus", "cells", "inputs", "steps"] (defScope s_Program___init) := ⟨rfl, rfl, rfl, by decide +kernel, rfl, by decide +kernel, by decide +kernel⟩
structure Txt (K : PySem.W.Frag) (mg : Str → Option Value) where
  a_is_below : Addr
  fd_is_below : FuncData
  F_is_below : Fun K "is_below" "is_below" s_is_below a_is_below fd_is_below
  b_is_below : Binds K fd_is_below ["value", "bound"] []
  g_is_below : mg "is_below" = some (.ref a_is_below)
  a_is_modulus : Addr
  fd_is_modulus : FuncData
  F_is_modulus : Fun K "is_modulus" "is_modulus" s_is_modulus a_is_modulus fd_is_modulus
  b_is_modulus : Binds K fd_is_modulus ["value"] []
  g_is_modulus : mg "is_modulus" = some (.ref a_is_modulus)
  a_is_prime : Addr
  fd_is_prime : FuncData
  F_is_prime : Fun K "is_prime" "is_prime" s_is_prime a_is_prime fd_is_prime
  b_is_prime : Binds K fd_is_prime ["n"] []
  g_is_prime : mg "is_prime" = some (.ref a_is_prime)
  a_gates_of : Addr
  fd_gates_of : FuncData
  F_gates_of : Fun K "gates_of" "gates_of" s_gates_of a_gates_of fd_gates_of
  b_gates_of : Binds K fd_gates_of ["program"] []
  g_gates_of : mg "gates_of" = some (.ref a_gates_of)
  a_gates_of_step : Addr
  fd_gates_of_step : FuncData
  F_gates_of_step : Fun K "_gates_of_step" "_gates_of_step" s_gates_of_step a_gates_of_step fd_gates_of_step
  b_gates_of_step : Binds K fd_gates_of_step ["step", "inputs"] []
  g_gates_of_step : mg "_gates_of_step" = some (.ref a_gates_of_step)
  a_is_step : Addr
  fd_is_step : FuncData
  F_is_step : Fun K "is_step" "is_step" s_is_step a_is_step fd_is_step
  b_is_step : Binds K fd_is_step ["step", "modulus", "cells", "inputs"] []
  g_is_step : mg "is_step" = some (.ref a_is_step)
  a_are_factors : Addr
  fd_are_factors : FuncData
  F_are_factors : Fun K "_are_factors" "_are_factors" s_are_factors a_are_factors fd_are_factors
  b_are_factors : Binds K fd_are_factors ["factors", "target", "cells", "inputs"] []
  g_are_factors : mg "_are_factors" = some (.ref a_are_factors)
  a_is_factor : Addr
  fd_is_factor : FuncData
  F_is_factor : Fun K "_is_factor" "_is_factor" s_is_factor a_is_factor fd_is_factor
  b_is_factor : Binds K fd_is_factor ["factor", "target", "cells", "inputs"] []
  g_is_factor : mg "_is_factor" = some (.ref a_is_factor)
  a_are_three_cells : Addr
  fd_are_three_cells : FuncData
  F_are_three_cells : Fun K "_are_three_cells" "_are_three_cells" s_are_three_cells a_are_three_cells fd_are_three_cells
  b_are_three_cells : Binds K fd_are_three_cells ["target", "a", "b", "cells"] []
  g_are_three_cells : mg "_are_three_cells" = some (.ref a_are_three_cells)
  a_is_sign : Addr
  fd_is_sign : FuncData
  F_is_sign : Fun K "_is_sign" "_is_sign" s_is_sign a_is_sign fd_is_sign
  b_is_sign : Binds K fd_is_sign ["sign", "modulus"] []
  g_is_sign : mg "_is_sign" = some (.ref a_is_sign)
  a_is_table : Addr
  fd_is_table : FuncData
  F_is_table : Fun K "is_table" "is_table" s_is_table a_is_table fd_is_table
  b_is_table : Binds K fd_is_table ["table", "modulus"] []
  g_is_table : mg "is_table" = some (.ref a_is_table)
  a_is_row : Addr
  fd_is_row : FuncData
  F_is_row : Fun K "_is_row" "_is_row" s_is_row a_is_row fd_is_row
  b_is_row : Binds K fd_is_row ["row", "size", "modulus"] []
  g_is_row : mg "_is_row" = some (.ref a_is_row)
  a_check_sizes : Addr
  fd_check_sizes : FuncData
  F_check_sizes : Fun K "_check_sizes" "_check_sizes" s_check_sizes a_check_sizes fd_check_sizes
  b_check_sizes : Binds K fd_check_sizes ["modulus", "cells", "inputs"] []
  g_check_sizes : mg "_check_sizes" = some (.ref a_check_sizes)
  a_check_steps : Addr
  fd_check_steps : FuncData
  F_check_steps : Fun K "_check_steps" "_check_steps" s_check_steps a_check_steps fd_check_steps
  b_check_steps : Binds K fd_check_steps ["steps", "modulus", "cells", "inputs"] []
  g_check_steps : mg "_check_steps" = some (.ref a_check_steps)
  a_law_mixed : Addr
  fd_law_mixed : FuncData
  F_law_mixed : Fun K "_law_mixed" "_law_mixed" s_law_mixed a_law_mixed fd_law_mixed
  b_law_mixed : Binds K fd_law_mixed ["number", "k"] []
  g_law_mixed : mg "_law_mixed" = some (.ref a_law_mixed)
  a_law_numbers : Addr
  fd_law_numbers : FuncData
  F_law_numbers : Fun K "_law_numbers" "_law_numbers" s_law_numbers a_law_numbers fd_law_numbers
  b_law_numbers : Binds K fd_law_numbers ["script"] []
  g_law_numbers : mg "_law_numbers" = some (.ref a_law_numbers)
  a_law_draw : Addr
  fd_law_draw : FuncData
  F_law_draw : Fun K "_law_draw" "_law_draw" s_law_draw a_law_draw fd_law_draw
  b_law_draw : Binds K fd_law_draw ["draws"] []
  g_law_draw : mg "_law_draw" = some (.ref a_law_draw)
  a_law_equal : Addr
  fd_law_equal : FuncData
  F_law_equal : Fun K "_law_equal" "_law_equal" s_law_equal a_law_equal fd_law_equal
  b_law_equal : Binds K fd_law_equal ["actual", "due"] []
  g_law_equal : mg "_law_equal" = some (.ref a_law_equal)
  a_law_all_equal : Addr
  fd_law_all_equal : FuncData
  F_law_all_equal : Fun K "_law_all_equal" "_law_all_equal" s_law_all_equal a_law_all_equal fd_law_all_equal
  b_law_all_equal : Binds K fd_law_all_equal ["actual", "due"] []
  g_law_all_equal : mg "_law_all_equal" = some (.ref a_law_all_equal)
  a_law_gcd : Addr
  fd_law_gcd : FuncData
  F_law_gcd : Fun K "_law_gcd" "_law_gcd" s_law_gcd a_law_gcd fd_law_gcd
  b_law_gcd : Binds K fd_law_gcd ["a", "b"] []
  g_law_gcd : mg "_law_gcd" = some (.ref a_law_gcd)
  a_law_factors : Addr
  fd_law_factors : FuncData
  F_law_factors : Fun K "_law_factors" "_law_factors" s_law_factors a_law_factors fd_law_factors
  b_law_factors : Binds K fd_law_factors ["draws", "cells", "inputs", "target"] []
  g_law_factors : mg "_law_factors" = some (.ref a_law_factors)
  a_law_number : Addr
  fd_law_number : FuncData
  F_law_number : Fun K "_law_number" "_law_number" s_law_number a_law_number fd_law_number
  b_law_number : Binds K fd_law_number ["draws", "modulus"] []
  g_law_number : mg "_law_number" = some (.ref a_law_number)
  a_law_step : Addr
  fd_law_step : FuncData
  F_law_step : Fun K "_law_step" "_law_step" s_law_step a_law_step fd_law_step
  b_law_step : Binds K fd_law_step ["draws", "modulus", "cells", "inputs"] []
  g_law_step : mg "_law_step" = some (.ref a_law_step)
  a_law_rising : Addr
  fd_law_rising : FuncData
  F_law_rising : Fun K "_law_rising" "_law_rising" s_law_rising a_law_rising fd_law_rising
  b_law_rising : Binds K fd_law_rising ["row"] []
  g_law_rising : mg "_law_rising" = some (.ref a_law_rising)
  a_law_gates : Addr
  fd_law_gates : FuncData
  F_law_gates : Fun K "_law_gates" "_law_gates" s_law_gates a_law_gates fd_law_gates
  b_law_gates : Binds K fd_law_gates ["step", "inputs"] []
  g_law_gates : mg "_law_gates" = some (.ref a_law_gates)
  a_law_refused : Addr
  fd_law_refused : FuncData
  F_law_refused : Fun K "_law_refused" "_law_refused" s_law_refused a_law_refused fd_law_refused
  b_law_refused : Binds K fd_law_refused ["program"] []
  g_law_refused : mg "_law_refused" = some (.ref a_law_refused)
  a_law : Addr
  fd_law : FuncData
  F_law : Fun K "law" "law" s_law a_law fd_law
  b_law : Binds K fd_law ["script"] []
  g_law : mg "law" = some (.ref a_law)
  a_Program___init : Addr
  fd_Program___init : FuncData
  F_Program___init : Fun K "__init__" "Program.__init__" s_Program___init a_Program___init fd_Program___init
  b_Program___init : Binds K fd_Program___init ["self", "modulus", "cells", "inputs", "steps"] []
  C_Program : Addr
  cl_Program : Cls K C_Program
  gc_Program : mg "Program" = some (.ref C_Program)
  na_Program_modulus : NoAttr K C_Program "modulus"
  na_Program_cells : NoAttr K C_Program "cells"
  na_Program_inputs : NoAttr K C_Program "inputs"
  na_Program_steps : NoAttr K C_Program "steps"
  mk_Program : Mk K C_Program a_Program___init
  E_BrimfulError : Addr
  gE_BrimfulError : mg "BrimfulError" = some (.ref E_BrimfulError)
  xE_BrimfulError : PySem.W.excIn K E_BrimfulError [.type "ValueError", .type "Exception", .type "BaseException", .type "object"] "ValueError.__new__" = true
  kE_BrimfulError : PySem.W.keepIn K (.ref E_BrimfulError) = true
  bE_BrimfulError : PySem.W.subIn K (.ref E_BrimfulError) (.type "BaseException") = some true
  tE_BrimfulError : PySem.W.typeIn K (.ref E_BrimfulError) = some (.type "type")
  dE_BrimfulError : PySem.W.hasDictIn K E_BrimfulError = true
  cE_BrimfulError : L2.ExcC K E_BrimfulError
  E_BadStep : Addr
  gE_BadStep : mg "BadStep" = some (.ref E_BadStep)
  xE_BadStep : PySem.W.excIn K E_BadStep [.type "ValueError", .type "Exception", .type "BaseException", .type "object"] "ValueError.__new__" = true
  kE_BadStep : PySem.W.keepIn K (.ref E_BadStep) = true
  bE_BadStep : PySem.W.subIn K (.ref E_BadStep) (.type "BaseException") = some true
  tE_BadStep : PySem.W.typeIn K (.ref E_BadStep) = some (.type "type")
  dE_BadStep : PySem.W.hasDictIn K E_BadStep = true
  cE_BadStep : L2.ExcC K E_BadStep
  E_BadGate : Addr
  gE_BadGate : mg "BadGate" = some (.ref E_BadGate)
  xE_BadGate : PySem.W.excIn K E_BadGate [.type "ValueError", .type "Exception", .type "BaseException", .type "object"] "ValueError.__new__" = true
  kE_BadGate : PySem.W.keepIn K (.ref E_BadGate) = true
  bE_BadGate : PySem.W.subIn K (.ref E_BadGate) (.type "BaseException") = some true
  tE_BadGate : PySem.W.typeIn K (.ref E_BadGate) = some (.type "type")
  dE_BadGate : PySem.W.hasDictIn K E_BadGate = true
  cE_BadGate : L2.ExcC K E_BadGate
  E_BadMemory : Addr
  gE_BadMemory : mg "BadMemory" = some (.ref E_BadMemory)
  xE_BadMemory : PySem.W.excIn K E_BadMemory [.type "ValueError", .type "Exception", .type "BaseException", .type "object"] "ValueError.__new__" = true
  kE_BadMemory : PySem.W.keepIn K (.ref E_BadMemory) = true
  bE_BadMemory : PySem.W.subIn K (.ref E_BadMemory) (.type "BaseException") = some true
  tE_BadMemory : PySem.W.typeIn K (.ref E_BadMemory) = some (.type "type")
  dE_BadMemory : PySem.W.hasDictIn K E_BadMemory = true
  cE_BadMemory : L2.ExcC K E_BadMemory
  sE_BrimfulError_BrimfulError : PySem.W.subIn K (.ref E_BrimfulError) (.ref E_BrimfulError) = some true
  sE_BrimfulError_BadStep : PySem.W.subIn K (.ref E_BrimfulError) (.ref E_BadStep) = some false
  sE_BrimfulError_BadGate : PySem.W.subIn K (.ref E_BrimfulError) (.ref E_BadGate) = some false
  sE_BrimfulError_BadMemory : PySem.W.subIn K (.ref E_BrimfulError) (.ref E_BadMemory) = some false
  sE_BadStep_BrimfulError : PySem.W.subIn K (.ref E_BadStep) (.ref E_BrimfulError) = some true
  sE_BadStep_BadStep : PySem.W.subIn K (.ref E_BadStep) (.ref E_BadStep) = some true
  sE_BadStep_BadGate : PySem.W.subIn K (.ref E_BadStep) (.ref E_BadGate) = some false
  sE_BadStep_BadMemory : PySem.W.subIn K (.ref E_BadStep) (.ref E_BadMemory) = some false
  sE_BadGate_BrimfulError : PySem.W.subIn K (.ref E_BadGate) (.ref E_BrimfulError) = some true
  sE_BadGate_BadStep : PySem.W.subIn K (.ref E_BadGate) (.ref E_BadStep) = some false
  sE_BadGate_BadGate : PySem.W.subIn K (.ref E_BadGate) (.ref E_BadGate) = some true
  sE_BadGate_BadMemory : PySem.W.subIn K (.ref E_BadGate) (.ref E_BadMemory) = some false
  sE_BadMemory_BrimfulError : PySem.W.subIn K (.ref E_BadMemory) (.ref E_BrimfulError) = some true
  sE_BadMemory_BadStep : PySem.W.subIn K (.ref E_BadMemory) (.ref E_BadStep) = some false
  sE_BadMemory_BadGate : PySem.W.subIn K (.ref E_BadMemory) (.ref E_BadGate) = some false
  sE_BadMemory_BadMemory : PySem.W.subIn K (.ref E_BadMemory) (.ref E_BadMemory) = some true
  m_all : mg "all" = none
  m_any : mg "any" = none
  m_bool : mg "bool" = none
  m_enumerate : mg "enumerate" = none
  m_int : mg "int" = none
  m_isinstance : mg "isinstance" = none
  m_len : mg "len" = none
  m_list : mg "list" = none
  m_range : mg "range" = none
  m_set : mg "set" = none
  m_sorted : mg "sorted" = none
  m_str : mg "str" = none
  m_tuple : mg "tuple" = none
  m_gcd : mg "gcd" = some (.builtin "math.gcd")
  m_isqrt : mg "isqrt" = some (.builtin "math.isqrt")
  t_GREATEST_MODULUS : Tok
  c_GREATEST_MODULUS : mg "GREATEST_MODULUS" = some (.int 1000000000 t_GREATEST_MODULUS)
  t_MOST_CELLS : Tok
  c_MOST_CELLS : mg "MOST_CELLS" = some (.int 60 t_MOST_CELLS)
  t_MOST_FACTORS : Tok
  c_MOST_FACTORS : mg "MOST_FACTORS" = some (.int 3 t_MOST_FACTORS)
  t_MOST_INPUTS : Tok
  c_MOST_INPUTS : mg "MOST_INPUTS" = some (.int 60 t_MOST_INPUTS)
  t_MOST_STEPS : Tok
  c_MOST_STEPS : mg "MOST_STEPS" = some (.int 20000 t_MOST_STEPS)
end Br
namespace Br
open PySem PySem.Spec PyProof.Rows L2
local macro_rules | `(tactic| walk_at "x1") => `(tactic| (with_reducible first
  | refine Br.x_seq ?_ | refine Br.x_set ?_ | refine Br.x_asg ?_ | refine Br.x_next ?_ | refine Br.x_ret ?_ | refine Br.x_retN ?_ | refine Br.x_drop ?_ | refine Br.x_if ?_ | refine Br.x_brk ?_ | refine Br.x_cont ?_
  | refine Br.x_c ?_ | refine Br.x_op ?_ | refine Br.x_un ?_ | refine Br.x_I0 ?_ | refine Br.x_U ?_ | refine Br.x_EqI ?_ | refine Br.x_NeI ?_ | refine Br.x_EqB ?_ | refine Br.x_iN ?_ | refine Br.x_int1 ?_ | refine Br.x_min2 ?_ | refine Br.x_max2 ?_ | refine Br.x_nN ?_ | refine Br.x_ifE ?_
  | refine Br.x_test (b := ()) ?_ | refine Br.x_tB ?_ | refine Br.x_bl ?_ | refine Br.x_and ?_ | refine Br.x_or ?_ | refine Br.x_not ?_ | refine Br.x_andV ?_ | refine Br.x_orV ?_ | refine Br.x_notV ?_ | refine Br.x_blP ?_
  | refine Br.x_nil ?_ | refine Br.x_cons ?_ | refine Br.x_call ?_ | refine Br.x_CB ?_ | refine Br.x_BM ?_ | refine Br.x_tup ?_ | refine Br.x_lst ?_ | refine Br.x_chain ?_ | refine Br.x_par ?_ | refine Br.x_gSub ?_ | refine Br.x_gName ?_ | refine Br.x_fld ?_ | refine Br.x_fldS ?_ | refine Br.x_match ?_ | refine Br.x_else ?_ | refine Br.x_noCase ?_))
local macro_rules | `(tactic| walk_at "xv") => `(tactic| ((with_reducible refine' Br.x_var ?hvar ?_); (case hvar => rfl)))
local macro_rules | `(tactic| walk_at "xd") => `(tactic| (dsimp only [List.set_cons_zero, List.set_cons_succ, List.cons_append, List.nil_append, List.append_nil]))
local macro_rules | `(tactic| walk_at "xi") => `(tactic| ((with_reducible refine Br.x_I ?hside ?_); (case hside => first | exact Br.mul_r (by decide) (by decide) | exact Br.mul_l (by decide) (by decide) | exact Br.mul_l (by omega) (by omega) | exact Br.mul_r (by omega) (by omega) | (show (0 : Int) < _; first | decide | omega) | exact ⟨by decide, by decide⟩ | exact ⟨by omega, by omega⟩ | exact ⟨by decide, by decide, by decide⟩)))
local macro_rules | `(tactic| walk_at "x") => `(tactic| (repeat (first | walk_at "x1" | walk_at "xv" | walk_at "xi" | walk_at "xd")))
local macro_rules | `(tactic| walk_at "start") => `(tactic| (simp only [L2.start, List.map_cons, List.map_nil, List.length_cons, List.length_nil, Nat.reduceAdd, Nat.reduceSub, List.replicate, List.cons_append, List.nil_append, List.append_nil]))
local macro_rules | `(tactic| walk_at "isi") => `(tactic| first
  | refine Br.x_isi (b := true) (.base (.int _)) (by decide +kernel) ?_ | refine Br.x_isi (b := false) (.base (.int _)) (by decide +kernel) ?_
  | refine Br.x_isi (b := true) (.base (.bl _)) (by decide +kernel) ?_ | refine Br.x_isi (b := false) (.base (.bl _)) (by decide +kernel) ?_
  | refine Br.x_isi (b := false) (.base .non) (by decide +kernel) ?_
  | refine Br.x_isi (b := true) (.base (.str _)) (by decide +kernel) ?_ | refine Br.x_isi (b := false) (.base (.str _)) (by decide +kernel) ?_
  | refine Br.x_isi (b := true) (.base (.tup (by assumption))) (by decide +kernel) ?_ | refine Br.x_isi (b := false) (.base (.tup (by assumption))) (by decide +kernel) ?_
  | refine Br.x_isi (b := true) (.base (.lst (by assumption))) (by decide +kernel) ?_ | refine Br.x_isi (b := false) (.base (.lst (by assumption))) (by decide +kernel) ?_)
local macro_rules | `(tactic| walk_at "f") => `(tactic| (refine L2.iteF ?_; walk_at "x"))
local macro_rules | `(tactic| walk_at "t") => `(tactic| (refine L2.iteT ?_; walk_at "x"))
local macro_rules | `(tactic| walk_at "is") => `(tactic| (walk_at "isi"; walk_at "x"))
local macro_rules | `(tactic| walk_at "xb") => `(tactic| (simp only [Br.bindS, List.set_cons_zero, List.set_cons_succ]; walk_at "x"))

section
variable {P : Program} {w : World} {K : PySem.W.Frag} {mg : Str → Option Value} {base : Heap}

/-! ### the draws -/
/-- the draws at d: a list of a list of numbers (at n) and a place -/
def Dr (H : Hp) (d n : Addr) : Prop := ∃ (ns : List Int) (k : Int), H d = some (.lst [.ref n, .int k]) ∧ H n = some (.lst (ns.map V.int)) ∧ Rg 0 1000000 ns ∧ 0 ≤ k ∧ ns.length ≤ 3780
theorem Dr.ne {H : Hp} {d n : Addr} (h : Dr H d n) : H d ≠ none := by
  obtain ⟨_, _, h, _⟩ := h
  rw [h]
  exact fun z => nomatch z
theorem Dr.new {H : Hp} {d n p : Addr} (h : Dr H d n) (hp : H p = none) : p ≠ d := fun e => h.ne (e ▸ hp)
theorem Dr.newN {H : Hp} {d n p : Addr} (h : Dr H d n) (hp : H p = none) : p ≠ n := fun e => by
  obtain ⟨_, _, _, h2, _⟩ := h
  rw [← e, hp] at h2
  cases h2
theorem Dr.dn {H : Hp} {d n : Addr} (h : Dr H d n) : d ≠ n := by
  obtain ⟨ns, k, h1, h2, _⟩ := h
  exact ne_of h1 h2 (by
    intro e
    have e1 : [V.ref n, V.int k] = ns.map V.int := HO.lst.inj e
    cases ns with
    | nil => cases e1
    | cons x r => cases (List.cons.inj e1).1)
/-- changes elsewhere -/
theorem Dr.upd {H : Hp} {d n p : Addr} {o : HO} (h : Dr H d n) (hd : p ≠ d) (hn : p ≠ n) : Dr (upd H p o) d n := by
  obtain ⟨ns, k, h1, h2, h3⟩ := h
  exact ⟨ns, k, by rw [upd_ne hd.symm]; exact h1, by rw [upd_ne hn.symm]; exact h2, h3⟩
theorem Dr.upd0 {H : Hp} {d n p : Addr} {o : HO} (h : Dr H d n) (hp : H p = none) : Dr (L2.upd H p o) d n := h.upd (h.new hp) (h.newN hp)
theorem Dr.same {H H' : Hp} {d n : Addr} (h : Dr H d n) (s : Same H H') : Dr H' d n := by
  obtain ⟨ns, k, h1, h2, h3⟩ := h
  exact ⟨ns, k, s _ _ h1, s _ _ h2, h3⟩
/-- what is fresh behind was fresh ahead -/
theorem Keep.free {H H' : Hp} {d n p : Addr} (s : Keep d H H') (h : Dr H' d n) (hp : H' p = none) : H p = none := by
  cases e : H p with
  | none => rfl
  | some o =>
    by_cases hd : p = d
    · rw [hd] at hp
      exact absurd hp h.ne
    · rw [s p o e hd] at hp
      cases hp
theorem Dr.mk {H : Hp} {d n : Addr} {ns : List Int} (hn : H n = some (.lst (ns.map V.int))) (hr : Rg 0 1000000 ns) (hl : ns.length ≤ 3780) (hd : H d = none) : Dr (L2.upd H d (.lst [.ref n, .int 0])) d n :=
  ⟨ns, 0, upd_same, by rw [upd_ne (ne_of_none hn hd)]; exact hn, hr, Int.le_refl _, hl⟩
/-- what a def that draws gives: a value of which P, the draws moved on -/
abbrev RetD (d n : Addr) (P : V → Prop) (H : Hp) (Q : VK) : Prop := ∀ v H', P v → Dr H' d n → Keep d H H' → Q v H'
abbrev RetG (d n : Addr) (P : V → Hp → Prop) (H : Hp) (Q : VK) : Prop := ∀ v H', P v H' → Dr H' d n → Keep d H H' → Q v H'
abbrev IsI (lo hi : Int) : V → Prop := fun v => ∃ z : Int, v = .int z ∧ lo ≤ z ∧ z < hi

def sp_law_mixed (K : PySem.W.Frag) : Sp := fun vs H Q _ => ∃ i k : Int, vs = [.int i, .int k] ∧ ∀ r : Int, 0 ≤ r → r < 2147483647 → Q (.int r) H
theorem ok_law_mixed (T : Txt K mg) : FnOk P w K mg base CX0 1 T.a_law_mixed T.fd_law_mixed ["number", "k"] (sp_law_mixed K) := by
  refine T.F_law_mixed.ok sc_law_mixed (fun vs H Q E h => ?_) (fun cdv A outer s H vs Q E hr h => ?_)
  · obtain ⟨i, k, rfl, _⟩ := h
    rfl
  · obtain ⟨i, k, rfl, q⟩ := h
    refine ⟨_, (pss_cons (ps_set (i := 2) sc_law_mixed.nd rfl (.inl rfl) (pe_op op_mod (pe_op op_add (pe_op op_add (pe_op op_mul (pv 0) pe_int) (pe_op op_mul (pv 1) pe_int)) pe_int) pe_int))
      (pss_one (ps_ret (pe_op op_mod (pe_op op_add (pe_op op_mul (pv 2) (pe_op op_add (pe_op op_fdiv (pv 2) pe_int) pe_int)) (pv 1)) pe_int)))), ?_⟩
    walk_at "start"
    walk_at "x"
    exact q _ (Int.emod_nonneg _ (by decide)) (Int.emod_lt_of_pos _ (by decide))


def sp_law_numbers (K : PySem.W.Frag) : Sp := fun vs H Q _ => ∃ (a : Addr) (ns : List Int), vs = [.ref a] ∧ SqL K H a (ns.map V.int) ∧ ns.length ≤ 63 ∧
  ∀ (p : Addr) (ms : List Int) (H' : Hp), H p = none → Same H H' → H' p = some (.lst (ms.map V.int)) → Rg 0 1000000 ms → ms.length ≤ 3780 → Q (.ref p) H'
/-- the numbers so far -/
def NumI (H : Hp) (p : Addr) (n : Nat) (H' : Hp) : Prop := ∃ ms : List Int, Same H H' ∧ H' p = some (.lst (ms.map V.int)) ∧ Rg 0 1000000 ms ∧ ms.length ≤ n
theorem NumI.app {H H' : Hp} {p : Addr} {n : Nat} (h : NumI H p n H') (hp : H p = none) (hn : n ≤ 100000) {R : VK} {z : Int} (h1 : 0 ≤ z) (h2 : z < 1000000) (q : ∀ H2, NumI H p (n + 1) H2 → R .non H2) : rAppend (.ref p) [.int z] H' R := by
  obtain ⟨ms, s, e, r, l⟩ := h
  refine x_app e (by rw [List.length_map]; omega) (q _ ⟨ms ++ [z], sput s hp, ?_, r.snoc h1 h2, ?_⟩)
  · rw [upd_same, List.map_append]; rfl
  · rw [List.length_append]; exact Nat.add_le_add_right l 1
theorem NumI.ty {K : PySem.W.Frag} {H H' : Hp} {p : Addr} {n : Nat} (h : NumI H p n H') {R : Prop} (q : R) : tyV K "list" (.ref p) H' ∧ R := by
  obtain ⟨ms, s, e, r, l⟩ := h
  exact x_tyL e q
theorem NumI.mono {H H' : Hp} {p : Addr} {n m : Nat} (h : NumI H p n H') (l : n ≤ m) : NumI H p m H' := by
  obtain ⟨ms, s, e, r, k⟩ := h
  exact ⟨ms, s, e, r, Nat.le_trans k l⟩
theorem ok_law_numbers (T : Txt K mg) : FnOk P w K mg base CX0 2 T.a_law_numbers T.fd_law_numbers ["script"] (sp_law_numbers K) := by
  refine T.F_law_numbers.ok sc_law_numbers (fun vs H Q E h => ?_) (fun cdv A outer s H vs Q E hr h => ?_)
  · obtain ⟨a, ns, rfl, _⟩ := h
    rfl
  · obtain ⟨a, ns, rfl, hS, hl, q⟩ := h
    refine ⟨_, (pss_cons (ps_set (i := 1) sc_law_numbers.nd rfl (.inl rfl) (pe_lst pa_nil))
      (pss_cons (ps_for PassesOwn.never rfl (pi_list (pv 0)) (pg_name (i := 2) sc_law_numbers.nd rfl (Or.inl rfl))
      (pss_one (ps_if (pt_cmpR op_ge (pv 2) (pe_op op_pow pe_int pe_int) (nomark _))
      (pss_cons (ps_set (i := 3) sc_law_numbers.nd rfl (.inl rfl) (pv 2))
      (pss_one (ps_for PassesOwn.never rfl (pi_range1 (by rfl) T.m_range (pa_cons pe_int pa_nil)) (pg_name (i := 4) sc_law_numbers.nd rfl (Or.inl rfl))
      (pss_one (ps_if (pt_cmpR op_gt (pv 3) pe_int (nomark _))
      (pss_cons (ps_expr (pe_bm PySem.F.plainAttrs_list PySem.F.slot_list_append PySem.F.type_list_append mt_append (pv 1) (pa_cons (pe_op op_mod (pv 3) pe_int) pa_nil)))
      (pss_one (ps_set (i := 3) sc_law_numbers.nd rfl (.inl rfl) (pe_op op_fdiv (pv 3) pe_int))))
      pss_nil)))))
      (pss_cons (ps_expr (pe_bm PySem.F.plainAttrs_list PySem.F.slot_list_append PySem.F.type_list_append mt_append (pv 1) (pa_cons (pe_op op_mod (pv 2) pe_int) pa_nil)))
      (pss_one (ps_for PassesOwn.never rfl (pi_range1 (by rfl) T.m_range (pa_cons pe_int pa_nil)) (pg_name (i := 4) sc_law_numbers.nd rfl (Or.inl rfl))
      (pss_one (ps_expr (pe_bm PySem.F.plainAttrs_list PySem.F.slot_list_append PySem.F.type_list_append mt_append (pv 1) (pa_cons (pe_op op_mod (pe_call (ok_law_mixed T) hr (by rfl) T.g_law_mixed T.F_law_mixed.kp T.b_law_mixed .nil pass0 (pa_cons (pe_call (ok_law_mixed T) hr (by rfl) T.g_law_mixed T.F_law_mixed.kp T.b_law_mixed .nil pass0 (pa_cons (pe_op op_mod (pv 2) pe_int) (pa_cons (pv 4) pa_nil))) (pa_cons (pe_op op_add (pv 4) pe_int) pa_nil))) pe_int) pa_nil))))))))))
      (pss_one (ps_ret (pv 1))))), ?_⟩
    walk_at "start"
    walk_at "x"
    refine ⟨Nat.zero_le _, fun p hp => ?_⟩
    walk_at "x"
    refine x_forL (p := a) (ns.map V.int) (fun i σ' H' => ∃ v2 v3 v4, σ' = [some (.ref a), some (.ref p), v2, v3, v4] ∧ NumI H p (60 * i) H') (fun R r => ⟨_, rfl, r⟩) ((same_upd hp).seq hS) ?_ ?_ ?_ ?_
    · exact ⟨none, none, none, rfl, [], same_upd hp, upd_same, .nil, Nat.le_refl _⟩
    · rintro i σ' H' hi ⟨v2, v3, v4, rfl, ms, s, _⟩
      exact s.seq hS
    · rintro i x σ' H' hx ⟨v2, v3, v4, rfl, hN⟩
      obtain ⟨z, hz, rfl⟩ := map_get hx
      have hi : i < 63 := by
        have := (List.getElem?_eq_some_iff.mp hz).1
        omega
      walk_at "x"
      refine x_ite (fun hc => ?_) (fun hc => ?_)
      · walk_at "x"
        refine x_forR1 60 (fun j σ' H' => ∃ r v4, σ' = [some (.ref a), some (.ref p), some (.int z), some (.int r), v4] ∧ NumI H p (60 * i + j) H') (fun R r => r) (by decide) (by decide) ⟨z, v4, rfl, hN⟩ ?_ ?_
        · rintro j σ' H2 hj ⟨r, v4, rfl, hN⟩
          walk_at "x"
          refine x_ite (fun hc => ?_) (fun hc => ?_)
          · walk_at "x"
            refine hN.ty ?_
            walk_at "x"
            refine hN.app hp (by omega) (Int.emod_nonneg _ (by decide)) (Int.emod_lt_of_pos _ (by decide)) fun H3 hN3 => ?_
            walk_at "x"
            exact ⟨_, _, rfl, hN3⟩
          · walk_at "x"
            exact ⟨r, _, rfl, hN.mono (by omega)⟩
        · rintro σ' H2 ⟨r, v4, rfl, hN⟩
          exact ⟨_, _, _, rfl, hN.mono (by show 60 * i + (60 : Int).toNat ≤ 60 * (i + 1); omega)⟩
      · walk_at "x"
        refine hN.ty ?_
        walk_at "x"
        refine hN.app hp (by omega) (Int.emod_nonneg _ (by decide)) (Int.emod_lt_of_pos _ (by decide)) fun H3 hN3 => ?_
        walk_at "x"
        refine x_forR1 5 (fun j σ' H' => ∃ v4, σ' = [some (.ref a), some (.ref p), some (.int z), v3, v4] ∧ NumI H p (60 * i + 1 + j) H') (fun R r => r) (by decide) (by decide) ⟨v4, rfl, hN3⟩ ?_ ?_
        · rintro j σ' H2 hj ⟨v4, rfl, hN⟩
          walk_at "x"
          refine hN.ty ?_
          walk_at "x"
          refine ⟨_, _, rfl, fun r h0 h1 => ?_⟩
          walk_at "x"
          refine ⟨_, _, rfl, fun r h0 h1 => ?_⟩
          walk_at "x"
          refine hN.app hp (by omega) (Int.emod_nonneg _ (by decide)) (Int.emod_lt_of_pos _ (by decide)) fun H3 hN3 => ?_
          walk_at "x"
          exact ⟨_, rfl, hN3⟩
        · rintro σ' H2 ⟨v4, rfl, hN⟩
          exact ⟨_, _, _, rfl, hN.mono (by show 60 * i + 1 + (5 : Int).toNat ≤ 60 * (i + 1); omega)⟩
    · rintro σ' H' ⟨v2, v3, v4, rfl, ms, s, e, r, l⟩
      walk_at "x"
      exact q p ms H' hp s e r (by rw [List.length_map] at l; omega)


def sp_law_draw (K : PySem.W.Frag) : Sp := fun vs H Q _ => ∃ (d n : Addr), vs = [.ref d] ∧ Dr H d n ∧ RetD d n (IsI 0 1000000) H Q
theorem ok_law_draw (T : Txt K mg) : FnOk P w K mg base CX0 2 T.a_law_draw T.fd_law_draw ["draws"] (sp_law_draw K) := by
  refine T.F_law_draw.ok sc_law_draw (fun vs H Q E h => ?_) (fun cdv A outer s H vs Q E hr h => ?_)
  · obtain ⟨d, n, rfl, _⟩ := h
    rfl
  · obtain ⟨d, n, rfl, hD, q⟩ := h
    have hn := hD.dn
    obtain ⟨ns, k, h1, h2, h3, h4, h5⟩ := hD
    have hD : Dr (upd H d (.lst [.ref n, .int (k + 1)])) d n := ⟨ns, k + 1, upd_same, by rw [upd_ne hn.symm]; exact h2, h3, by omega, h5⟩
    refine ⟨_, (pss_cons (ps_set (i := 1) sc_law_draw.nd rfl (.inl rfl) (pe_ix (r := rIxL K) ix_list (pv 0) pe_int (fun _ _ => rfl)))
      (pss_cons (ps_asg (pe_op op_add (pv 1) pe_int) (pg_sub (pv 0) pe_int set_list))
      (pss_cons (ps_if (pt_cmpR op_lt (pv 1) (pe_callB (id := "len") (r := rLen K) cr_len (by rfl) T.m_len PySem.boot_len (pa_cons (pe_ix (r := rIxL K) ix_list (pv 0) pe_int (fun _ _ => rfl)) pa_nil)) (nomark _))
      (pss_one (ps_ret (pe_ix (r := rIxL K) ix_list (pe_ix (r := rIxL K) ix_list (pv 0) pe_int (fun _ _ => rfl)) (pv 1) (fun _ _ => rfl))))
      pss_nil)
      (pss_cons (ps_set (i := 2) sc_law_draw.nd rfl (.inl rfl) (pe_op op_add pe_int (pv 1)))
      (pss_cons (ps_if (pt_cmpR op_gt (pe_callB (id := "len") (r := rLen K) cr_len (by rfl) T.m_len PySem.boot_len (pa_cons (pe_ix (r := rIxL K) ix_list (pv 0) pe_int (fun _ _ => rfl)) pa_nil)) pe_int (nomark _))
      (pss_one (ps_set (i := 2) sc_law_draw.nd rfl (.inl rfl) (pe_op op_add (pv 2) (pe_op op_mul pe_int (pe_ix (r := rIxL K) ix_list (pe_ix (r := rIxL K) ix_list (pv 0) pe_int (fun _ _ => rfl)) pe_int (fun _ _ => rfl))))))
      pss_nil)
      (pss_one (ps_ret (pe_op op_mod (pe_call (ok_law_mixed T) hr (by rfl) T.g_law_mixed T.F_law_mixed.kp T.b_law_mixed .nil pass0 (pa_cons (pe_call (ok_law_mixed T) hr (by rfl) T.g_law_mixed T.F_law_mixed.kp T.b_law_mixed .nil pass0 (pa_cons (pv 2) (pa_cons (pv 1) pa_nil))) (pa_cons pe_int pa_nil))) pe_int)))))))), ?_⟩
    walk_at "start"
    walk_at "x"
    refine x_ixL (sq_of h1) (show _ = some (V.int k) from rfl) ?_
    walk_at "x"
    refine x_subL (k := 1) h1 rfl ?_
    walk_at "x"
    have hd : (upd H d (HO.lst [.ref n, .int (k + 1)])) d = some (.lst [.ref n, .int (k + 1)]) := upd_same
    have hnn : (upd H d (HO.lst [.ref n, .int (k + 1)])) n = some (.lst (ns.map V.int)) := by rw [upd_ne hn.symm]; exact h2
    refine x_ixL (sq_of hd) (show _ = some (V.ref n) from rfl) ?_
    walk_at "x"
    refine x_len (sq_of hnn) ?_
    walk_at "x"
    rw [List.length_map]
    refine x_ite (fun hc => ?_) (fun hc => ?_)
    · walk_at "x"
      refine x_ixL (sq_of hd) (show _ = some (V.ref n) from rfl) ?_
      walk_at "x"
      obtain ⟨j, rfl⟩ : ∃ j : Nat, k = (j : Int) := ⟨k.toNat, by omega⟩
      have hj : j < ns.length := by omega
      refine x_ixL (v := .int ns[j]) (sq_of hnn) (atI_nat (by rw [List.getElem?_map, List.getElem?_eq_getElem hj]; rfl)) ?_
      exact q _ _ ⟨_, rfl, h3 _ (List.getElem_mem hj)⟩ hD keep_upd
    · walk_at "x"
      refine x_ixL (sq_of hd) (show _ = some (V.ref n) from rfl) ?_
      walk_at "x"
      refine x_len (sq_of hnn) ?_
      walk_at "x"
      rw [List.length_map]
      refine x_ite (fun hc => ?_) (fun hc => ?_)
      · walk_at "x"
        refine x_ixL (sq_of hd) (show _ = some (V.ref n) from rfl) ?_
        walk_at "x"
        have hj : 0 < ns.length := by omega
        refine x_ixL (v := .int ns[0]) (sq_of hnn) (atI_nat (j := 0) (by rw [List.getElem?_map, List.getElem?_eq_getElem hj]; rfl)) ?_
        walk_at "x"
        refine ⟨_, _, rfl, fun r h0 h1 => ?_⟩
        walk_at "x"
        refine ⟨_, _, rfl, fun r h0 h1 => ?_⟩
        walk_at "x"
        exact q _ _ ⟨_, rfl, Int.emod_nonneg _ (by decide), Int.emod_lt_of_pos _ (by decide)⟩ hD keep_upd
      · walk_at "x"
        refine ⟨_, _, rfl, fun r h0 h1 => ?_⟩
        walk_at "x"
        refine ⟨_, _, rfl, fun r h0 h1 => ?_⟩
        walk_at "x"
        exact q _ _ ⟨_, rfl, Int.emod_nonneg _ (by decide), Int.emod_lt_of_pos _ (by decide)⟩ hD keep_upd




end
end Br
namespace Br
open PySem PySem.Spec PyProof.Rows L2
local macro_rules | `(tactic| walk_at "x1") => `(tactic| (with_reducible first
  | refine Br.x_seq ?_ | refine Br.x_set ?_ | refine Br.x_asg ?_ | refine Br.x_next ?_ | refine Br.x_ret ?_ | refine Br.x_retN ?_ | refine Br.x_drop ?_ | refine Br.x_if ?_ | refine Br.x_brk ?_ | refine Br.x_cont ?_
  | refine Br.x_c ?_ | refine Br.x_op ?_ | refine Br.x_un ?_ | refine Br.x_I0 ?_ | refine Br.x_U ?_ | refine Br.x_EqI ?_ | refine Br.x_NeI ?_ | refine Br.x_EqB ?_ | refine Br.x_iN ?_ | refine Br.x_int1 ?_ | refine Br.x_min2 ?_ | refine Br.x_max2 ?_ | refine Br.x_nN ?_ | refine Br.x_ifE ?_
  | refine Br.x_test (b := ()) ?_ | refine Br.x_tB ?_ | refine Br.x_bl ?_ | refine Br.x_and ?_ | refine Br.x_or ?_ | refine Br.x_not ?_ | refine Br.x_andV ?_ | refine Br.x_orV ?_ | refine Br.x_notV ?_ | refine Br.x_blP ?_
  | refine Br.x_nil ?_ | refine Br.x_cons ?_ | refine Br.x_call ?_ | refine Br.x_CB ?_ | refine Br.x_BM ?_ | refine Br.x_tup ?_ | refine Br.x_lst ?_ | refine Br.x_chain ?_ | refine Br.x_par ?_ | refine Br.x_gSub ?_ | refine Br.x_gName ?_ | refine Br.x_fld ?_ | refine Br.x_fldS ?_ | refine Br.x_match ?_ | refine Br.x_else ?_ | refine Br.x_noCase ?_))
local macro_rules | `(tactic| walk_at "xv") => `(tactic| ((with_reducible refine' Br.x_var ?hvar ?_); (case hvar => rfl)))
local macro_rules | `(tactic| walk_at "xd") => `(tactic| (dsimp only [List.set_cons_zero, List.set_cons_succ, List.cons_append, List.nil_append, List.append_nil]))
local macro_rules | `(tactic| walk_at "xi") => `(tactic| ((with_reducible refine Br.x_I ?hside ?_); (case hside => first | exact Br.mul_r (by decide) (by decide) | exact Br.mul_l (by decide) (by decide) | exact Br.mul_l (by omega) (by omega) | exact Br.mul_r (by omega) (by omega) | (show (0 : Int) < _; first | decide | omega) | exact ⟨by decide, by decide⟩ | exact ⟨by omega, by omega⟩ | exact ⟨by decide, by decide, by decide⟩)))
local macro_rules | `(tactic| walk_at "x") => `(tactic| (repeat (first | walk_at "x1" | walk_at "xv" | walk_at "xi" | walk_at "xd")))
local macro_rules | `(tactic| walk_at "start") => `(tactic| (simp only [L2.start, List.map_cons, List.map_nil, List.length_cons, List.length_nil, Nat.reduceAdd, Nat.reduceSub, List.replicate, List.cons_append, List.nil_append, List.append_nil]))
local macro_rules | `(tactic| walk_at "isi") => `(tactic| first
  | refine Br.x_isi (b := true) (.base (.int _)) (by decide +kernel) ?_ | refine Br.x_isi (b := false) (.base (.int _)) (by decide +kernel) ?_
  | refine Br.x_isi (b := true) (.base (.bl _)) (by decide +kernel) ?_ | refine Br.x_isi (b := false) (.base (.bl _)) (by decide +kernel) ?_
  | refine Br.x_isi (b := false) (.base .non) (by decide +kernel) ?_
  | refine Br.x_isi (b := true) (.base (.str _)) (by decide +kernel) ?_ | refine Br.x_isi (b := false) (.base (.str _)) (by decide +kernel) ?_
  | refine Br.x_isi (b := true) (.base (.tup (by assumption))) (by decide +kernel) ?_ | refine Br.x_isi (b := false) (.base (.tup (by assumption))) (by decide +kernel) ?_
  | refine Br.x_isi (b := true) (.base (.lst (by assumption))) (by decide +kernel) ?_ | refine Br.x_isi (b := false) (.base (.lst (by assumption))) (by decide +kernel) ?_)
local macro_rules | `(tactic| walk_at "f") => `(tactic| (refine L2.iteF ?_; walk_at "x"))
local macro_rules | `(tactic| walk_at "t") => `(tactic| (refine L2.iteT ?_; walk_at "x"))
local macro_rules | `(tactic| walk_at "is") => `(tactic| (walk_at "isi"; walk_at "x"))
local macro_rules | `(tactic| walk_at "xb") => `(tactic| (simp only [Br.bindS, List.set_cons_zero, List.set_cons_succ]; walk_at "x"))

section
variable {P : Program} {w : World} {K : PySem.W.Frag} {mg : Str → Option Value} {base : Heap}

/-! ### primes -/
def PrimeI (n : Int) : Prop := 2 ≤ n ∧ ∀ d : Int, 2 ≤ d → d * d ≤ n → n % d ≠ 0
theorem sq_lt {a b : Int} (ha : 0 ≤ a) (h : a < b) : a * a < b * b := by
  have h1 : a * a ≤ a * b := Int.mul_le_mul_of_nonneg_left (Int.le_of_lt h) ha
  have h2 : a * b < b * b := Int.mul_lt_mul_of_pos_right h (by omega)
  omega
theorem le_of_sq {a b : Int} (hb : 0 ≤ b) (h : a * a ≤ b * b) : a ≤ b := by
  by_cases h1 : a ≤ b
  · exact h1
  · have := sq_lt hb (show b < a by omega)
    omega
theorem even_dvd {n d : Int} (hd : d % 2 = 0) (h : n % d = 0) : n % 2 = 0 := by
  obtain ⟨q, hq⟩ := Int.dvd_of_emod_eq_zero h
  obtain ⟨r, hr⟩ := Int.dvd_of_emod_eq_zero hd
  rw [hq, hr, Int.mul_assoc]
  exact Int.mul_emod_right 2 _

def sp_is_prime (K : PySem.W.Frag) : Sp := fun vs H Q _ => ∃ n : Int, vs = [.int n] ∧ 0 ≤ n ∧ n < 2000000000 ∧ ∀ b : Bool, (b = true ↔ PrimeI n) → Q (.bl b) H
theorem ok_is_prime (T : Txt K mg) : FnOk P w K mg base CX0 1 T.a_is_prime T.fd_is_prime ["n"] (sp_is_prime K) := by
  refine T.F_is_prime.ok sc_is_prime (fun vs H Q E h => ?_) (fun cdv A outer s H vs Q E hr h => ?_)
  · obtain ⟨n, rfl, _⟩ := h
    rfl
  · obtain ⟨n, rfl, h0, h1, q⟩ := h
    refine ⟨_, (pss_cons (ps_if (pt_cmpR op_lt (pv 0) pe_int (nomark _))
      (pss_one (ps_ret (pe_cmpR op_gt (pv 0) pe_int (nomark _))))
      pss_nil)
      (pss_cons (ps_if (pt_cmpR op_eq (pe_op op_mod (pv 0) pe_int) pe_int (nomark _))
      (pss_one (ps_ret pe_bl))
      pss_nil)
      (pss_cons (ps_for PassesOwn.never rfl (pi_range3 (by rfl) T.m_range (pa_cons pe_int (pa_cons (pe_op op_add (pe_callBfun cr_isqrt (by rfl) T.m_isqrt (pa_cons (pv 0) pa_nil)) pe_int) (pa_cons pe_int pa_nil)))) (pg_name (i := 1) sc_is_prime.nd rfl (Or.inl rfl))
      (pss_one (ps_if (pt_cmpR op_eq (pe_op op_mod (pv 0) (pv 1)) pe_int (nomark _))
      (pss_one (ps_ret pe_bl))
      pss_nil)))
      (pss_one (ps_ret pe_bl))))), ?_⟩
    walk_at "start"
    walk_at "x"
    refine x_ite (fun hc => ?_) (fun hc => ?_)
    · walk_at "x"
      refine q _ ⟨fun e => ⟨by have := of_decide_eq_true e; omega, fun d h2 hd => ?_⟩, fun e => decide_eq_true (by have := e.1; omega)⟩
      have : 2 * 2 ≤ d * d := Int.mul_le_mul h2 h2 (by decide) (by omega)
      omega
    · walk_at "x"
      refine x_ite (fun hc2 => ?_) (fun hc2 => ?_)
      · walk_at "x"
        exact q _ ⟨fun e => (by cases e), fun e => absurd hc2 (e.2 2 (by decide) (by omega))⟩
      · walk_at "x"
        have hn2 : ∀ d : Int, d % 2 = 0 → n % d ≠ 0 := fun d hd e => hc2 (even_dvd hd e)
        obtain ⟨r, er, hr0, hr1, hr2⟩ := isq_spec h0
        have hr3 : r < 44722 := by
          by_cases hh : r < 44722
          · exact hh
          · have : (44722 : Int) * 44722 ≤ r * r := Int.mul_le_mul (by omega) (by omega) (by decide) (by omega)
            omega
        refine x_forR3 3 (r + 1) 2 (fun i σ' H' => ∃ v, σ' = [some (.int n), v] ∧ H' = H ∧ ∀ d : Int, 2 ≤ d → d < 3 + (i : Int) * 2 → n % d ≠ 0) (fun R k => k) (fun R k => by walk_at "x"; exact x_isqrt0 h0 (by omega) er (by walk_at "x"; exact k)) (fun R k => k) (by decide) (by decide) (by decide) (by decide) (by omega) (by omega) ?_ ?_ ?_
        · exact ⟨none, rfl, rfl, fun d h2 h3 => by
            have e : d = 2 := by omega
            rw [e]; exact hc2⟩
        · rintro i σ' H' hi ⟨v, rfl, rfl, hI⟩
          walk_at "x"
          refine x_ite (fun hd => ?_) (fun hd => ?_)
          · walk_at "x"
            refine q _ ⟨fun e => (by cases e), fun e => absurd hd (e.2 _ (by omega) ?_)⟩
            have : (3 + (i : Int) * 2) * (3 + (i : Int) * 2) ≤ r * r := Int.mul_le_mul (by omega) (by omega) (by omega) (by omega)
            omega
          · walk_at "x"
            refine ⟨_, rfl, rfl, fun d h2 h3 => ?_⟩
            by_cases h4 : d < 3 + (i : Int) * 2
            · exact hI d h2 h4
            · by_cases h5 : d = 3 + (i : Int) * 2
              · rw [h5]; exact hd
              · exact hn2 d (by omega)
        · rintro i σ' H' hi ⟨v, rfl, rfl, hI⟩
          walk_at "x"
          refine q _ ⟨fun _ => ⟨by omega, fun d h2 h3 => hI d h2 ?_⟩, fun _ => rfl⟩
          have : d < r + 1 := by
            by_cases hh : d < r + 1
            · exact hh
            · have : (r + 1) * (r + 1) ≤ d * d := Int.mul_le_mul (by omega) (by omega) (by omega) (by omega)
              omega
          omega




open Br.F
/-- a value of any kind that the laws put in -/
inductive Odd (H : Hp) : V → Prop
  | int (i : Int) : Odd H (.int i)
  | bl (b : Bool) : Odd H (.bl b)
  | non : Odd H .non
  | str (x : Str) : Odd H (.str x)
  | tup (a : Addr) (xs : List V) (h : H a = some (.tup xs)) : Odd H (.ref a)
  | lst (a : Addr) (xs : List V) (h : H a = some (.lst xs)) : Odd H (.ref a)
theorem Odd.same {H H' : Hp} {v : V} (h : Odd H v) (s : Same H H') : Odd H' v := by
  cases h with
  | int i => exact .int i
  | bl b => exact .bl b
  | non => exact .non
  | str x => exact .str x
  | tup a xs h => exact .tup a xs (s _ _ h)
  | lst a xs h => exact .lst a xs (s _ _ h)
def isB (v : V) (b : Int) : Bool := match v with
  | .int i => decide (0 ≤ i) && decide (i < b)
  | _ => false
theorem isB_int {i b : Int} (h0 : 0 ≤ i) (h1 : i < b) : isB (.int i) b = true := by
  show (decide (0 ≤ i) && decide (i < b)) = true
  rw [decide_eq_true h0, decide_eq_true h1]; rfl

def sp_is_below (K : PySem.W.Frag) : Sp := fun vs H Q _ => ∃ (v : V) (b : Int), vs = [v, .int b] ∧ Odd H v ∧ Q (.bl (isB v b)) H
theorem ok_is_below (T : Txt K mg) : FnOk P w K mg base CX0 1 T.a_is_below T.fd_is_below ["value", "bound"] (sp_is_below K) := by
  refine T.F_is_below.ok sc_is_below (fun vs H Q E h => ?_) (fun cdv A outer s H vs Q E hr h => ?_)
  · obtain ⟨v, b, rfl, _⟩ := h
    rfl
  · obtain ⟨v, b, rfl, hv, q⟩ := h
    refine ⟨_, (pss_one (ps_ret (pe_and (pe_callB (id := "isinstance") (r := rIsi K) call_isi (by rfl) T.m_isinstance (by decide +kernel) (pa_cons (pv 0) (pa_cons (pe_bltn (v := .ty "int") (by rfl) T.m_int (by decide +kernel) rfl) pa_nil))) (pe_and (pe_not (pe_callB (id := "isinstance") (r := rIsi K) call_isi (by rfl) T.m_isinstance (by decide +kernel) (pa_cons (pv 0) (pa_cons (pe_bltn (v := .ty "bool") (by rfl) T.m_bool (by decide +kernel) rfl) pa_nil)))) (pe_one (pe_chain op_le op_lt pe_int (pv 0) (pv 1))))))), ?_⟩
    walk_at "start"
    cases hv with
    | int i =>
      walk_at "x"
      walk_at "is"
      walk_at "t"
      walk_at "is"
      walk_at "t"
      refine x_ite (fun h0 => ?_) (fun h0 => ?_)
      · walk_at "x"
        have e : isB (.int i) b = decide (i < b) := by show (decide (0 ≤ i) && decide (i < b)) = _; rw [decide_eq_true h0]; rfl
        rw [← e]; exact q
      · have e : isB (.int i) b = false := by show (decide (0 ≤ i) && decide (i < b)) = _; rw [decide_eq_false h0]; rfl
        rw [← e]; exact q
    | bl x =>
      walk_at "x"
      walk_at "is"
      walk_at "t"
      walk_at "is"
      walk_at "f"
      exact q
    | non =>
      walk_at "x"
      walk_at "is"
      walk_at "f"
      exact q
    | str x =>
      walk_at "x"
      walk_at "is"
      walk_at "f"
      exact q
    | tup a xs h =>
      walk_at "x"
      walk_at "is"
      walk_at "f"
      exact q
    | lst a xs h =>
      walk_at "x"
      walk_at "is"
      walk_at "f"
      exact q



def sp_is_modulus (K : PySem.W.Frag) : Sp := fun vs H Q _ => ∃ (v : V), vs = [v] ∧ Odd H v ∧ Q (.bl (isB v 1000000001 && !isB v 2)) H
theorem ok_is_modulus (T : Txt K mg) : FnOk P w K mg base CX0 2 T.a_is_modulus T.fd_is_modulus ["value"] (sp_is_modulus K) := by
  refine T.F_is_modulus.ok sc_is_modulus (fun vs H Q E h => ?_) (fun cdv A outer s H vs Q E hr h => ?_)
  · obtain ⟨v, rfl, _⟩ := h
    rfl
  · obtain ⟨v, rfl, hv, q⟩ := h
    refine ⟨_, (pss_one (ps_ret (pe_and (pe_call (ok_is_below T) hr (by rfl) T.g_is_below T.F_is_below.kp T.b_is_below .nil pass0 (pa_cons (pv 0) (pa_cons (pe_op op_add (pe_glob (v := .int 1000000000) (by rfl) T.c_GREATEST_MODULUS ⟨_, rfl⟩) pe_int) pa_nil))) (pe_one (pe_cmpR op_ge (pv 0) pe_int (nomark _)))))), ?_⟩
    walk_at "start"
    walk_at "x"
    refine ⟨v, _, rfl, hv, ?_⟩
    walk_at "x"
    refine x_iteB (fun hb => ?_) (fun hb => ?_)
    · cases hv with
      | int i =>
        have h0 : 0 ≤ i := by
          by_cases h0 : 0 ≤ i
          · exact h0
          · exfalso
            have e : (decide (0 ≤ i) && decide (i < 1000000000 + 1)) = true := hb
            rw [decide_eq_false h0] at e
            cases e
        walk_at "x"
        have e : (isB (.int i) 1000000001 && !isB (.int i) 2) = decide (2 ≤ i) := by
          rw [show isB (.int i) 1000000001 = true from hb]
          show (true && !(decide (0 ≤ i) && decide (i < 2))) = _
          rw [decide_eq_true h0]
          by_cases h2 : 2 ≤ i
          · rw [decide_eq_true h2, decide_eq_false (show ¬ i < 2 by omega)]; rfl
          · rw [decide_eq_false h2, decide_eq_true (show i < 2 by omega)]; rfl
        rw [← e]
        exact q
      | _ => cases hb
    · rw [show isB v 1000000001 = false from hb] at q
      exact q




def sp_is_factor (K : PySem.W.Frag) : Sp := fun vs H Q _ => ∃ (a : Addr) (f : Fac) (t c i : Nat), vs = [.ref a, .int (t : Int), .int (c : Int), .int (i : Int)] ∧ FacAt H a f ∧ FacOk c i t f ∧ Q (.bl true) H
theorem ok_is_factor (T : Txt K mg) : FnOk P w K mg base CX0 2 T.a_is_factor T.fd_is_factor ["factor", "target", "cells", "inputs"] (sp_is_factor K) := by
  refine T.F_is_factor.ok sc_is_factor (fun vs H Q E h => ?_) (fun cdv A outer s H vs Q E hr h => ?_)
  · obtain ⟨a, f, t, c, i, rfl, _⟩ := h
    rfl
  · obtain ⟨a, f, t, c, i, rfl, hf, ok, q⟩ := h
    refine ⟨_, (pss_cons (ps_if (pt_not (pt_val (pe_callB (id := "isinstance") (r := rIsi K) call_isi (by rfl) T.m_isinstance (by decide +kernel) (pa_cons (pv 0) (pa_cons (pe_bltn (v := .ty "tuple") (by rfl) T.m_tuple (by decide +kernel) rfl) pa_nil)))))
      (pss_one (ps_ret pe_bl))
      pss_nil)
      (pss_one (ps_match (pv 0) (pcs_seq rfl op_eq (pcap_name 4 sc_is_factor.nd rfl (.inl rfl) pcap_nil)
      (pss_one (ps_ret (pe_and (pe_call (ok_is_below T) hr (by rfl) T.g_is_below T.F_is_below.kp T.b_is_below .nil pass0 (pa_cons (pv 4) (pa_cons (pv 2) pa_nil))) (pe_one (pe_cmpR op_ne (pv 4) (pv 1) (nomark _))))))
      (pcs_seq rfl op_eq (pcap_name 4 sc_is_factor.nd rfl (.inl rfl) pcap_nil)
      (pss_one (ps_ret (pe_call (ok_is_below T) hr (by rfl) T.g_is_below T.F_is_below.kp T.b_is_below .nil pass0 (pa_cons (pv 4) (pa_cons (pv 3) pa_nil)))))
      (pcs_else (rest := _) (pss_one (ps_ret pe_bl)))))))), ?_⟩
    walk_at "start"
    cases f with
    | cell k =>
      have hf : H a = some (.tup [.str "cell", .int (k : Int)]) := hf
      walk_at "x"
      walk_at "is"
      walk_at "f"
      refine x_caseY (st_of hf) rfl ?_
      walk_at "xb"
      refine ⟨_, _, rfl, .int _, ?_⟩
      walk_at "x"
      rw [isB_int (by omega) (by have := ok.1; omega)]
      walk_at "t"
      rw [decide_eq_false (show ¬ (k : Int) = (t : Int) by have := ok.2; omega)]
      exact q
    | inp k =>
      have hf : H a = some (.tup [.str "input", .int (k : Int)]) := hf
      walk_at "x"
      walk_at "is"
      walk_at "f"
      refine x_caseW (st_of hf) rfl (by decide) ?_
      refine x_caseY (st_of hf) rfl ?_
      walk_at "xb"
      refine ⟨_, _, rfl, .int _, ?_⟩
      rw [isB_int (by omega) (by have h : k < i := ok; omega)]
      exact q


def sp_are_factors (K : PySem.W.Frag) : Sp := fun vs H Q _ => ∃ (a : Addr) (as : List Addr) (fs : List Fac) (t c i : Nat), vs = [.ref a, .int (t : Int), .int (c : Int), .int (i : Int)] ∧ H a = some (.tup (as.map V.ref)) ∧ as.length = fs.length ∧ (∀ (k : Nat) x b, fs[k]? = some x → as[k]? = some b → FacAt H b x) ∧
  fs.length ≤ 3 ∧ (∀ f, f ∈ fs → FacOk c i t f) ∧ ∀ H', Same H H' → Q (.bl true) H'
theorem ok_are_factors (T : Txt K mg) : FnOk P w K mg base CX0 3 T.a_are_factors T.fd_are_factors ["factors", "target", "cells", "inputs"] (sp_are_factors K) := by
  refine T.F_are_factors.ok sc_are_factors (fun vs H Q E h => ?_) (fun cdv A outer s H vs Q E hr h => ?_)
  · obtain ⟨a, as, fs, t, c, i, rfl, _⟩ := h
    rfl
  · obtain ⟨a, as, fs, t, c, i, rfl, ha, hl, hf, h3, ok, q⟩ := h
    refine ⟨_, (pss_cons (ps_if (PW.pt (pw_or (pt_not (pt_val (pe_callB (id := "isinstance") (r := rIsi K) call_isi (by rfl) T.m_isinstance (by decide +kernel) (pa_cons (pv 0) (pa_cons (pe_bltn (v := .ty "tuple") (by rfl) T.m_tuple (by decide +kernel) rfl) pa_nil))))) (pw_or1 (pt_cmpR op_gt (pe_callB (id := "len") (r := rLen K) cr_len (by rfl) T.m_len PySem.boot_len (pa_cons (pv 0) pa_nil)) (pe_glob (v := .int 3) (by rfl) T.c_MOST_FACTORS ⟨_, rfl⟩) (nomark _)))))
      (pss_one (ps_ret pe_bl))
      pss_nil)
      (pss_one (ps_ret (pe_callB (id := "all") (r := rAll K) (cr_all rfl) (by rfl) T.m_all (by decide +kernel) (pa_cons (pe_lc (own := [("factor", 4)]) (g := gName 4) (tt := tYes) rfl sc_are_factors.nd (pi_tup (pv 0)) (blkOk_by (N := N_are_factors) (sc := defScope s_are_factors) (by decide +kernel)) (fun _ _ _ _ _ => (pg_name (i := 4) sc_are_factors.nd rfl (Or.inl rfl))) (fun _ _ _ _ _ => pts_nil) (fun _ _ _ _ _ => (pe_call (ok_is_factor T) hr (by rfl) T.g_is_factor T.F_is_factor.kp T.b_is_factor .nil pass0 (pa_cons (pv 4) (pa_cons (pv 1) (pa_cons (pv 2) (pa_cons (pv 3) pa_nil))))))) pa_nil))))), ?_⟩
    walk_at "start"
    walk_at "x"
    walk_at "is"
    walk_at "f"
    refine x_lenT (st_of ha) ?_
    walk_at "x"
    rw [List.length_map, hl, decide_eq_false (show ¬ (3 : Int) < (fs.length : Int) by omega)]
    walk_at "f"
    refine x_lcB (xs := as.map V.ref) (fun _ => true) (J := Itt K a) (G := fun H => SqT K H a (as.map V.ref)) (fun R r => ⟨_, rfl, a, rfl, ⟨_, st_of ha⟩, r⟩) walk_tup (by rw [List.length_map]; omega) (fun H' s => st_of (s _ _ ha)) (fun x => rfl) ?_ ?_
    · intro k x H' hs hx R hR
      obtain ⟨b, hb, rfl⟩ := map_getR hx
      have hk : k < fs.length := by
        have := (List.getElem?_eq_some_iff.mp hb).1
        omega
      walk_at "x"
      exact ⟨b, _, t, c, i, rfl, (hf k _ b (List.getElem?_eq_getElem hk) hb).tups (Tups.same hs), ok _ (List.getElem_mem hk), hR H' (Same.refl _)⟩
    · intro p H' hp hs hP
      walk_at "x"
      refine x_all hP ?_
      rw [all_range fun _ _ => rfl]
      exact q H' hs


def sp_are_three_cells (K : PySem.W.Frag) : Sp := fun vs H Q _ => ∃ (t a b c : Nat), vs = [.int (t : Int), .int (a : Int), .int (b : Int), .int (c : Int)] ∧ t < c ∧ a < c ∧ b < c ∧ t ≠ a ∧ t ≠ b ∧ a ≠ b ∧ ∀ H', Same H H' → Q (.bl true) H'
theorem ok_are_three_cells (T : Txt K mg) : FnOk P w K mg base CX0 2 T.a_are_three_cells T.fd_are_three_cells ["target", "a", "b", "cells"] (sp_are_three_cells K) := by
  refine T.F_are_three_cells.ok sc_are_three_cells (fun vs H Q E h => ?_) (fun cdv A outer s H vs Q E hr h => ?_)
  · obtain ⟨t, a, b, c, rfl, _⟩ := h
    rfl
  · obtain ⟨t, a, b, c, rfl, ht, ha, hb, hta, htb, hab, q⟩ := h
    refine ⟨_, (pss_cons (ps_if (pt_not (pt_val (pe_callB (id := "all") (r := rAll K) (cr_all rfl) (by rfl) T.m_all (by decide +kernel) (pa_cons (pe_lc (own := [("cell", 4)]) (g := gName 4) (tt := tYes) rfl sc_are_three_cells.nd (pi_tup (pe_tup (pa_cons (pv 0) (pa_cons (pv 1) (pa_cons (pv 2) pa_nil))))) (blkOk_by (N := N_are_three_cells) (sc := defScope s_are_three_cells) (by decide +kernel)) (fun _ _ _ _ _ => (pg_name (i := 4) sc_are_three_cells.nd rfl (Or.inl rfl))) (fun _ _ _ _ _ => pts_nil) (fun _ _ _ _ _ => (pe_call (ok_is_below T) hr (by rfl) T.g_is_below T.F_is_below.kp T.b_is_below .nil pass0 (pa_cons (pv 4) (pa_cons (pv 3) pa_nil))))) pa_nil))))
      (pss_one (ps_ret pe_bl))
      pss_nil)
      (pss_one (ps_ret (pe_and (pe_cmpR op_ne (pv 0) (pv 1) (nomark _)) (pe_and (pe_cmpR op_ne (pv 0) (pv 2) (nomark _)) (pe_one (pe_cmpR op_ne (pv 1) (pv 2) (nomark _)))))))), ?_⟩
    walk_at "start"
    walk_at "x"
    refine x_lcB0 (xs := [.int (t : Int), .int (a : Int), .int (b : Int)]) (fun _ => true) (Nat.le_of_ble_eq_true rfl) (fun R hR => ?_) (fun x => rfl) ?_ ?_
    · unfold iTup
      walk_at "x"
      refine ⟨by show 3 ≤ sizeLine; decide, fun o ho => ?_⟩
      exact ⟨o, rfl, ⟨_, st_of upd_same⟩, hR (Itt K o) _ _ (same_upd ho) walk_tup fun H' s => st_of (s _ _ upd_same)⟩
    · intro k x H' hs hx R hR
      have hx' : x = .int (t : Int) ∨ x = .int (a : Int) ∨ x = .int (b : Int) := by
        have := List.mem_of_getElem? hx
        simpa using this
      walk_at "x"
      rcases hx' with rfl | rfl | rfl
      · refine ⟨_, _, rfl, .int _, ?_⟩
        rw [isB_int (by omega) (by omega)]
        exact hR H' (Same.refl _)
      · refine ⟨_, _, rfl, .int _, ?_⟩
        rw [isB_int (by omega) (by omega)]
        exact hR H' (Same.refl _)
      · refine ⟨_, _, rfl, .int _, ?_⟩
        rw [isB_int (by omega) (by omega)]
        exact hR H' (Same.refl _)
    · intro p H' hs hP
      walk_at "x"
      refine x_all hP ?_
      rw [all_range fun _ _ => rfl]
      walk_at "x"
      walk_at "f"
      rw [decide_eq_false (show ¬ (t : Int) = (a : Int) by omega)]
      walk_at "t"
      rw [decide_eq_false (show ¬ (t : Int) = (b : Int) by omega)]
      walk_at "t"
      rw [decide_eq_false (show ¬ (a : Int) = (b : Int) by omega)]
      exact q H' hs


def sp_is_sign (K : PySem.W.Frag) : Sp := fun vs H Q _ => ∃ (s : Int) (m : Nat), vs = [.int s, .int (m : Int)] ∧ 2 ≤ m ∧ (s = 1 ∨ s = (m : Int) - 1) ∧ ∀ H', Same H H' → Q (.bl true) H'
theorem ok_is_sign (T : Txt K mg) : FnOk P w K mg base CX0 2 T.a_is_sign T.fd_is_sign ["sign", "modulus"] (sp_is_sign K) := by
  refine T.F_is_sign.ok sc_is_sign (fun vs H Q E h => ?_) (fun cdv A outer s H vs Q E hr h => ?_)
  · obtain ⟨s, m, rfl, _⟩ := h
    rfl
  · obtain ⟨s, m, rfl, hm, hs, q⟩ := h
    refine ⟨_, (pss_one (ps_ret (pe_and (pe_call (ok_is_below T) hr (by rfl) T.g_is_below T.F_is_below.kp T.b_is_below .nil pass0 (pa_cons (pv 0) (pa_cons (pv 1) pa_nil))) (pe_one (pe_cmpR (r := rIn K false) op_in_seq (pv 0) (pe_tup (pa_cons pe_int (pa_cons (pe_op op_sub (pv 1) pe_int) pa_nil))) (by with_unfolding_all rfl)))))), ?_⟩
    walk_at "start"
    walk_at "x"
    refine ⟨_, _, rfl, .int _, ?_⟩
    rw [isB_int (by omega) (by omega)]
    walk_at "x"
    walk_at "t"
    refine ⟨by show 2 ≤ sizeLine; decide, fun o ho => ?_⟩
    refine ⟨o, [.int 1, .int ((m : Int) - 1)], rfl, .inr (st_of upd_same), rfl, rfl, ?_⟩
    have e : inV (.int s) [.int 1, .int ((m : Int) - 1)] = true := by
      show ((1 : Int) == s || ((m : Int) - 1 == s || false)) = true
      rcases hs with rfl | rfl
      · simp
      · simp
    rw [e]
    exact q _ (same_upd ho)


def sp_is_row (K : PySem.W.Frag) : Sp := fun vs H Q _ => ∃ (a : Addr) (r : List Int) (n m : Nat), vs = [.ref a, .int (n : Int), .int (m : Int)] ∧ H a = some (.tup (r.map V.int)) ∧ r.length = n ∧ n ≤ 1000 ∧ Rg 0 m r ∧ ∀ H', Same H H' → Q (.bl true) H'
theorem ok_is_row (T : Txt K mg) : FnOk P w K mg base CX0 2 T.a_is_row T.fd_is_row ["row", "size", "modulus"] (sp_is_row K) := by
  refine T.F_is_row.ok sc_is_row (fun vs H Q E h => ?_) (fun cdv A outer s H vs Q E hr h => ?_)
  · obtain ⟨a, r, n, m, rfl, _⟩ := h
    rfl
  · obtain ⟨a, r, n, m, rfl, ha, hl, hn, hR, q⟩ := h
    refine ⟨_, (pss_cons (ps_if (PW.pt (pw_or (pt_not (pt_val (pe_callB (id := "isinstance") (r := rIsi K) call_isi (by rfl) T.m_isinstance (by decide +kernel) (pa_cons (pv 0) (pa_cons (pe_bltn (v := .ty "tuple") (by rfl) T.m_tuple (by decide +kernel) rfl) pa_nil))))) (pw_or1 (pt_cmpR op_ne (pe_callB (id := "len") (r := rLen K) cr_len (by rfl) T.m_len PySem.boot_len (pa_cons (pv 0) pa_nil)) (pv 1) (nomark _)))))
      (pss_one (ps_ret pe_bl))
      pss_nil)
      (pss_one (ps_ret (pe_callB (id := "all") (r := rAll K) (cr_all rfl) (by rfl) T.m_all (by decide +kernel) (pa_cons (pe_lc (own := [("value", 3)]) (g := gName 3) (tt := tYes) rfl sc_is_row.nd (pi_tup (pv 0)) (blkOk_by (N := N_is_row) (sc := defScope s_is_row) (by decide +kernel)) (fun _ _ _ _ _ => (pg_name (i := 3) sc_is_row.nd rfl (Or.inl rfl))) (fun _ _ _ _ _ => pts_nil) (fun _ _ _ _ _ => (pe_call (ok_is_below T) hr (by rfl) T.g_is_below T.F_is_below.kp T.b_is_below .nil pass0 (pa_cons (pv 3) (pa_cons (pv 2) pa_nil))))) pa_nil))))), ?_⟩
    walk_at "start"
    walk_at "x"
    walk_at "is"
    walk_at "f"
    refine x_lenT (st_of ha) ?_
    walk_at "x"
    rw [List.length_map, hl, decide_eq_true rfl]
    walk_at "f"
    refine x_lcB (xs := r.map V.int) (fun _ => true) (J := Itt K a) (G := fun H => SqT K H a (r.map V.int)) (fun R r => ⟨_, rfl, a, rfl, ⟨_, st_of ha⟩, r⟩) walk_tup (by rw [List.length_map]; omega) (fun H' s => st_of (s _ _ ha)) (fun x => rfl) ?_ ?_
    · intro k x H' hs hx R hR'
      obtain ⟨z, hz, rfl⟩ := map_get hx
      walk_at "x"
      refine ⟨_, _, rfl, .int _, ?_⟩
      rw [isB_int (hR.get hz).1 (hR.get hz).2]
      exact hR' H' (Same.refl _)
    · intro p H' hp hs hP
      walk_at "x"
      refine x_all hP ?_
      rw [all_range fun _ _ => rfl]
      exact q H' hs


def sp_is_table (K : PySem.W.Frag) : Sp := fun vs H Q _ => ∃ (a : Addr) (tb : List (List Int)) (m : Nat), vs = [.ref a, .int (m : Int)] ∧ TbAt H a tb ∧ IsTab m tb ∧ tb.length ≤ 1000 ∧ ∀ H', Same H H' → Q (.bl true) H'
theorem ok_is_table (T : Txt K mg) : FnOk P w K mg base CX0 3 T.a_is_table T.fd_is_table ["table", "modulus"] (sp_is_table K) := by
  refine T.F_is_table.ok sc_is_table (fun vs H Q E h => ?_) (fun cdv A outer s H vs Q E hr h => ?_)
  · obtain ⟨a, tb, m, rfl, _⟩ := h
    rfl
  · obtain ⟨a, tb, m, rfl, ⟨as, ha, hl, hrow⟩, hI, hn, q⟩ := h
    have h1 := hI.pos
    have h2 := hI.le
    refine ⟨_, (pss_cons (ps_if (PW.pt (pw_or (pt_not (pt_val (pe_callB (id := "isinstance") (r := rIsi K) call_isi (by rfl) T.m_isinstance (by decide +kernel) (pa_cons (pv 0) (pa_cons (pe_bltn (v := .ty "tuple") (by rfl) T.m_tuple (by decide +kernel) rfl) pa_nil))))) (pw_or1 (pt_not (pt_chain op_le op_le pe_int (pe_callB (id := "len") (r := rLen K) cr_len (by rfl) T.m_len PySem.boot_len (pa_cons (pv 0) pa_nil)) (pv 1))))))
      (pss_one (ps_ret pe_bl))
      pss_nil)
      (pss_one (ps_ret (pe_callB (id := "all") (r := rAll K) (cr_all rfl) (by rfl) T.m_all (by decide +kernel) (pa_cons (pe_lc (own := [("row", 2)]) (g := gName 2) (tt := tYes) rfl sc_is_table.nd (pi_tup (pv 0)) (blkOk_by (N := N_is_table) (sc := defScope s_is_table) (by decide +kernel)) (fun _ _ _ _ _ => (pg_name (i := 2) sc_is_table.nd rfl (Or.inl rfl))) (fun _ _ _ _ _ => pts_nil) (fun _ _ _ _ _ => (pe_call (ok_is_row T) hr (by rfl) T.g_is_row T.F_is_row.kp T.b_is_row .nil pass0 (pa_cons (pv 2) (pa_cons (pe_callB (id := "len") (r := rLen K) cr_len (by rfl) T.m_len PySem.boot_len (pa_cons (pv 0) pa_nil)) (pa_cons (pv 1) pa_nil)))))) pa_nil))))), ?_⟩
    walk_at "start"
    walk_at "x"
    walk_at "is"
    walk_at "f"
    refine x_lenT (st_of ha) ?_
    walk_at "x"
    rw [List.length_map, hl, decide_eq_true (show (1 : Int) ≤ (tb.length : Int) by omega)]
    walk_at "t"
    rw [decide_eq_true (show (tb.length : Int) ≤ (m : Int) by omega)]
    walk_at "f"
    refine x_lcB (xs := as.map V.ref) (fun _ => true) (J := Itt K a) (G := fun H => SqT K H a (as.map V.ref)) (fun R r => ⟨_, rfl, a, rfl, ⟨_, st_of ha⟩, r⟩) walk_tup (by rw [List.length_map]; omega) (fun H' s => st_of (s _ _ ha)) (fun x => rfl) ?_ ?_
    · intro k x H' hs hx R hR
      obtain ⟨b, hb, rfl⟩ := map_getR hx
      have hk : k < tb.length := by
        have := (List.getElem?_eq_some_iff.mp hb).1
        omega
      obtain ⟨rl, rR⟩ := hI.rows k _ (List.getElem?_eq_getElem hk)
      walk_at "x"
      refine x_lenT (st_of (hs _ _ ha)) ?_
      walk_at "x"
      rw [List.length_map, hl]
      exact ⟨b, _, tb.length, m, rfl, hs _ _ (hrow k _ b (List.getElem?_eq_getElem hk) hb), rl, hn, rR, fun H2 s2 => hR H2 s2⟩
    · intro p H' hp hs hP
      walk_at "x"
      refine x_all hP ?_
      rw [all_range fun _ _ => rfl]
      exact q H' hs


def sp_is_step (K : PySem.W.Frag) : Sp := fun vs H Q _ => ∃ (a : Addr) (s : Stp) (m c i : Nat), vs = [.ref a, .int (m : Int), .int (c : Int), .int (i : Int)] ∧ StpAt H a s ∧ StpOk m c i s ∧ 2 ≤ m ∧ ∀ H', Same H H' → Q (.bl true) H'
theorem ok_is_step (T : Txt K mg) : FnOk P w K mg base CX0 4 T.a_is_step T.fd_is_step ["step", "modulus", "cells", "inputs"] (sp_is_step K) := by
  refine T.F_is_step.ok sc_is_step (fun vs H Q E h => ?_) (fun cdv A outer s H vs Q E hr h => ?_)
  · obtain ⟨a, s, m, c, i, rfl, _⟩ := h
    rfl
  · obtain ⟨a, s, m, c, i, rfl, hs, ok, hm, q⟩ := h
    refine ⟨_, (pss_cons (ps_if (pt_not (pt_val (pe_callB (id := "isinstance") (r := rIsi K) call_isi (by rfl) T.m_isinstance (by decide +kernel) (pa_cons (pv 0) (pa_cons (pe_bltn (v := .ty "tuple") (by rfl) T.m_tuple (by decide +kernel) rfl) pa_nil)))))
      (pss_one (ps_ret pe_bl))
      pss_nil)
      (pss_one (ps_match (pv 0) (pcs_seq rfl op_eq (pcap_name 4 sc_is_step.nd rfl (.inl rfl) (pcap_name 5 sc_is_step.nd rfl (.inl rfl) (pcap_name 6 sc_is_step.nd rfl (.inl rfl) pcap_nil)))
      (pss_one (ps_ret (pe_and (pe_call (ok_is_below T) (hr.mono (by decide)) (by rfl) T.g_is_below T.F_is_below.kp T.b_is_below .nil pass0 (pa_cons (pv 4) (pa_cons (pv 2) pa_nil))) (pe_and (pe_call (ok_is_below T) (hr.mono (by decide)) (by rfl) T.g_is_below T.F_is_below.kp T.b_is_below .nil pass0 (pa_cons (pv 5) (pa_cons (pv 1) pa_nil))) (pe_one (pe_call (ok_are_factors T) hr (by rfl) T.g_are_factors T.F_are_factors.kp T.b_are_factors .nil pass0 (pa_cons (pv 6) (pa_cons (pv 4) (pa_cons (pv 2) (pa_cons (pv 3) pa_nil))))))))))
      (pcs_seq rfl op_eq (pcap_name 4 sc_is_step.nd rfl (.inl rfl) (pcap_name 7 sc_is_step.nd rfl (.inl rfl) pcap_nil))
      (pss_one (ps_ret (pe_and (pe_call (ok_is_below T) (hr.mono (by decide)) (by rfl) T.g_is_below T.F_is_below.kp T.b_is_below .nil pass0 (pa_cons (pv 4) (pa_cons (pv 2) pa_nil))) (pe_and (pe_call (ok_is_below T) (hr.mono (by decide)) (by rfl) T.g_is_below T.F_is_below.kp T.b_is_below .nil pass0 (pa_cons (pv 7) (pa_cons (pv 1) pa_nil))) (pe_one (pe_cmpR op_eq (pe_callBfun cr_gcd (by rfl) T.m_gcd (pa_cons (pv 7) (pa_cons (pv 1) pa_nil))) pe_int (nomark _)))))))
      (pcs_seq rfl op_eq (pcap_name 8 sc_is_step.nd rfl (.inl rfl) (pcap_name 9 sc_is_step.nd rfl (.inl rfl) pcap_nil))
      (pss_one (ps_ret (pe_and (pe_call (ok_is_below T) (hr.mono (by decide)) (by rfl) T.g_is_below T.F_is_below.kp T.b_is_below .nil pass0 (pa_cons (pv 8) (pa_cons (pv 2) pa_nil))) (pe_and (pe_call (ok_is_below T) (hr.mono (by decide)) (by rfl) T.g_is_below T.F_is_below.kp T.b_is_below .nil pass0 (pa_cons (pv 9) (pa_cons (pv 2) pa_nil))) (pe_one (pe_cmpR op_ne (pv 8) (pv 9) (nomark _)))))))
      (pcs_seq rfl op_eq (pcap_name 4 sc_is_step.nd rfl (.inl rfl) (pcap_name 10 sc_is_step.nd rfl (.inl rfl) (pcap_name 11 sc_is_step.nd rfl (.inl rfl) (pcap_name 8 sc_is_step.nd rfl (.inl rfl) (pcap_name 9 sc_is_step.nd rfl (.inl rfl) pcap_nil)))))
      (pss_one (ps_ret (pe_and (pe_call (ok_are_three_cells T) (hr.mono (by decide)) (by rfl) T.g_are_three_cells T.F_are_three_cells.kp T.b_are_three_cells .nil pass0 (pa_cons (pv 4) (pa_cons (pv 8) (pa_cons (pv 9) (pa_cons (pv 2) pa_nil))))) (pe_and (pe_call (ok_is_sign T) (hr.mono (by decide)) (by rfl) T.g_is_sign T.F_is_sign.kp T.b_is_sign .nil pass0 (pa_cons (pv 10) (pa_cons (pv 1) pa_nil))) (pe_one (pe_call (ok_is_table T) hr (by rfl) T.g_is_table T.F_is_table.kp T.b_is_table .nil pass0 (pa_cons (pv 11) (pa_cons (pv 1) pa_nil))))))))
      (pcs_else (rest := _) (pss_one (ps_ret pe_bl)))))))))), ?_⟩
    walk_at "start"
    cases s with
    | add t k fs =>
      obtain ⟨f, as, h1, h2, h3, h4⟩ := hs
      obtain ⟨o1, o2, o3, o4, o5⟩ := ok
      walk_at "x"
      walk_at "is"
      walk_at "f"
      refine x_caseY (st_of h1) rfl ?_
      walk_at "xb"
      refine ⟨_, _, rfl, .int _, ?_⟩
      rw [isB_int (by omega) (by omega)]
      walk_at "x"
      walk_at "t"
      refine ⟨_, _, rfl, .int _, ?_⟩
      rw [isB_int o2 o3]
      walk_at "x"
      walk_at "t"
      exact ⟨f, as, fs, t, c, i, rfl, h2, h3, h4, o4, o5, q⟩
    | scale t u =>
      have h1 : H a = some (.tup [.str "scale", .int (t : Int), .int u]) := hs
      obtain ⟨o1, o2, o3, o4⟩ := ok
      walk_at "x"
      walk_at "is"
      walk_at "f"
      refine x_caseNo (st_of h1) (Nat.ne_of_beq_eq_false rfl) ?_
      refine x_caseY (st_of h1) rfl ?_
      walk_at "xb"
      refine ⟨_, _, rfl, .int _, ?_⟩
      rw [isB_int (by omega) (by omega)]
      walk_at "x"
      walk_at "t"
      refine ⟨_, _, rfl, .int _, ?_⟩
      rw [isB_int o2 o3]
      walk_at "x"
      walk_at "t"
      refine ⟨u, (m : Int), rfl, ?_⟩
      walk_at "x"
      have e : ((Nat.gcd u.natAbs ((m : Int)).natAbs : Nat) : Int) = 1 := by
        have : Nat.gcd u.natAbs ((m : Int)).natAbs = 1 := o4
        rw [this]; rfl
      rw [e, decide_eq_true rfl]
      exact q H (Same.refl _)
    | swap x y =>
      have h1 : H a = some (.tup [.str "swap", .int (x : Int), .int (y : Int)]) := hs
      obtain ⟨o1, o2, o3⟩ := ok
      walk_at "x"
      walk_at "is"
      walk_at "f"
      refine x_caseNo (st_of h1) (Nat.ne_of_beq_eq_false rfl) ?_
      refine x_caseW (st_of h1) rfl (by decide) ?_
      refine x_caseY (st_of h1) rfl ?_
      walk_at "xb"
      refine ⟨_, _, rfl, .int _, ?_⟩
      rw [isB_int (by omega) (by omega)]
      walk_at "x"
      walk_at "t"
      refine ⟨_, _, rfl, .int _, ?_⟩
      rw [isB_int (by omega) (by omega)]
      walk_at "x"
      walk_at "t"
      rw [decide_eq_false (show ¬ (x : Int) = (y : Int) by omega)]
      exact q H (Same.refl _)
    | tab t g tb x y =>
      obtain ⟨o, h1, h2⟩ := hs
      obtain ⟨o1, o2, o3, o4, o5, o6, o7, o8, o9, o10⟩ := ok
      walk_at "x"
      walk_at "is"
      walk_at "f"
      refine x_caseNo (st_of h1) (Nat.ne_of_beq_eq_false rfl) ?_
      refine x_caseNo (st_of h1) (Nat.ne_of_beq_eq_false rfl) ?_
      refine x_caseNo (st_of h1) (Nat.ne_of_beq_eq_false rfl) ?_
      refine x_caseY (st_of h1) rfl ?_
      walk_at "xb"
      refine ⟨t, x, y, c, rfl, o1, o2, o3, o4, o5, o6, fun H1 s1 => ?_⟩
      walk_at "x"
      walk_at "t"
      refine ⟨g, m, rfl, hm, o7, fun H2 s2 => ?_⟩
      walk_at "x"
      walk_at "t"
      exact ⟨o, tb, m, rfl, (h2.tups (Tups.same s1)).tups (Tups.same s2), o8, o9, fun H3 s3 => q H3 ((s1.trans s2).trans s3)⟩


end
end Br
namespace Br
open PySem PySem.Spec PyProof.Rows L2
local macro_rules | `(tactic| walk_at "x1") => `(tactic| (with_reducible first
  | refine Br.x_seq ?_ | refine Br.x_set ?_ | refine Br.x_asg ?_ | refine Br.x_next ?_ | refine Br.x_ret ?_ | refine Br.x_retN ?_ | refine Br.x_drop ?_ | refine Br.x_if ?_ | refine Br.x_brk ?_ | refine Br.x_cont ?_
  | refine Br.x_c ?_ | refine Br.x_op ?_ | refine Br.x_un ?_ | refine Br.x_I0 ?_ | refine Br.x_U ?_ | refine Br.x_EqI ?_ | refine Br.x_NeI ?_ | refine Br.x_EqB ?_ | refine Br.x_iN ?_ | refine Br.x_int1 ?_ | refine Br.x_min2 ?_ | refine Br.x_max2 ?_ | refine Br.x_nN ?_ | refine Br.x_ifE ?_
  | refine Br.x_test (b := ()) ?_ | refine Br.x_tB ?_ | refine Br.x_bl ?_ | refine Br.x_and ?_ | refine Br.x_or ?_ | refine Br.x_not ?_ | refine Br.x_andV ?_ | refine Br.x_orV ?_ | refine Br.x_notV ?_ | refine Br.x_blP ?_
  | refine Br.x_nil ?_ | refine Br.x_cons ?_ | refine Br.x_call ?_ | refine Br.x_CB ?_ | refine Br.x_BM ?_ | refine Br.x_tup ?_ | refine Br.x_lst ?_ | refine Br.x_chain ?_ | refine Br.x_par ?_ | refine Br.x_gSub ?_ | refine Br.x_gName ?_ | refine Br.x_fld ?_ | refine Br.x_fldS ?_ | refine Br.x_match ?_ | refine Br.x_else ?_ | refine Br.x_noCase ?_))
local macro_rules | `(tactic| walk_at "xv") => `(tactic| ((with_reducible refine' Br.x_var ?hvar ?_); (case hvar => rfl)))
local macro_rules | `(tactic| walk_at "xd") => `(tactic| (dsimp only [List.set_cons_zero, List.set_cons_succ, List.cons_append, List.nil_append, List.append_nil]))
local macro_rules | `(tactic| walk_at "xi") => `(tactic| ((with_reducible refine Br.x_I ?hside ?_); (case hside => first | exact Br.mul_r (by decide) (by decide) | exact Br.mul_l (by decide) (by decide) | exact Br.mul_l (by omega) (by omega) | exact Br.mul_r (by omega) (by omega) | (show (0 : Int) < _; first | decide | omega) | exact ⟨by decide, by decide⟩ | exact ⟨by omega, by omega⟩ | exact ⟨by decide, by decide, by decide⟩)))
local macro_rules | `(tactic| walk_at "x") => `(tactic| (repeat (first | walk_at "x1" | walk_at "xv" | walk_at "xi" | walk_at "xd")))
local macro_rules | `(tactic| walk_at "start") => `(tactic| (simp only [L2.start, List.map_cons, List.map_nil, List.length_cons, List.length_nil, Nat.reduceAdd, Nat.reduceSub, List.replicate, List.cons_append, List.nil_append, List.append_nil]))
local macro_rules | `(tactic| walk_at "isi") => `(tactic| first
  | refine Br.x_isi (b := true) (.base (.int _)) (by decide +kernel) ?_ | refine Br.x_isi (b := false) (.base (.int _)) (by decide +kernel) ?_
  | refine Br.x_isi (b := true) (.base (.bl _)) (by decide +kernel) ?_ | refine Br.x_isi (b := false) (.base (.bl _)) (by decide +kernel) ?_
  | refine Br.x_isi (b := false) (.base .non) (by decide +kernel) ?_
  | refine Br.x_isi (b := true) (.base (.str _)) (by decide +kernel) ?_ | refine Br.x_isi (b := false) (.base (.str _)) (by decide +kernel) ?_
  | refine Br.x_isi (b := true) (.base (.tup (by assumption))) (by decide +kernel) ?_ | refine Br.x_isi (b := false) (.base (.tup (by assumption))) (by decide +kernel) ?_
  | refine Br.x_isi (b := true) (.base (.lst (by assumption))) (by decide +kernel) ?_ | refine Br.x_isi (b := false) (.base (.lst (by assumption))) (by decide +kernel) ?_)
local macro_rules | `(tactic| walk_at "f") => `(tactic| (refine L2.iteF ?_; walk_at "x"))
local macro_rules | `(tactic| walk_at "t") => `(tactic| (refine L2.iteT ?_; walk_at "x"))
local macro_rules | `(tactic| walk_at "is") => `(tactic| (walk_at "isi"; walk_at "x"))
local macro_rules | `(tactic| walk_at "xb") => `(tactic| (simp only [Br.bindS, List.set_cons_zero, List.set_cons_succ]; walk_at "x"))

section
variable {P : Program} {w : World} {K : PySem.W.Frag} {mg : Str → Option Value} {base : Heap}

open Br.F
theorem prime_I {m : Nat} (h : IsPrime m) : PrimeI (m : Int) := by
  refine ⟨by have := h.1; omega, fun d h2 hd he => ?_⟩
  obtain ⟨n, rfl⟩ : ∃ n : Nat, d = (n : Int) := ⟨d.toNat, by omega⟩
  have hdv : n ∣ m := Int.ofNat_dvd.mp (Int.dvd_of_emod_eq_zero he)
  rcases h.2 n hdv with e | e
  · omega
  · subst e
    have : (2 : Int) * n ≤ n * n := Int.mul_le_mul_of_nonneg_right h2 (by omega)
    omega

def sp_check_sizes (K : PySem.W.Frag) : Sp := fun vs H Q _ => ∃ (m c i : Nat), vs = [.int (m : Int), .int (c : Int), .int (i : Int)] ∧ 2 ≤ m ∧ m ≤ 1000000000 ∧ 1 ≤ c ∧ c ≤ 60 ∧ i ≤ 60 ∧ Q .non H
theorem ok_check_sizes (T : Txt K mg) : FnOk P w K mg base CX0 3 T.a_check_sizes T.fd_check_sizes ["modulus", "cells", "inputs"] (sp_check_sizes K) := by
  refine T.F_check_sizes.ok sc_check_sizes (fun vs H Q E h => ?_) (fun cdv A outer s H vs Q E hr h => ?_)
  · obtain ⟨m, c, i, rfl, _⟩ := h
    rfl
  · obtain ⟨m, c, i, rfl, m2, m9, c1, c60, i60, q⟩ := h
    refine ⟨_, (pss_cons (ps_if (pt_not (pt_val (pe_call (ok_is_modulus T) hr (by rfl) T.g_is_modulus T.F_is_modulus.kp T.b_is_modulus .nil pass0 (pa_cons (pv 0) pa_nil))))
      (pss_one ps_never)
      pss_nil)
      (pss_cons (ps_if (PW.pt (pw_or (pt_not (pt_val (pe_call (ok_is_below T) (hr.mono (by decide)) (by rfl) T.g_is_below T.F_is_below.kp T.b_is_below .nil pass0 (pa_cons (pv 1) (pa_cons (pe_op op_add (pe_glob (v := .int 60) (by rfl) T.c_MOST_CELLS ⟨_, rfl⟩) pe_int) pa_nil))))) (pw_or1 (pt_cmpR op_eq (pv 1) pe_int (nomark _)))))
      (pss_one ps_never)
      pss_nil)
      (pss_one (ps_if (pt_not (pt_val (pe_call (ok_is_below T) (hr.mono (by decide)) (by rfl) T.g_is_below T.F_is_below.kp T.b_is_below .nil pass0 (pa_cons (pv 2) (pa_cons (pe_op op_add (pe_glob (v := .int 60) (by rfl) T.c_MOST_INPUTS ⟨_, rfl⟩) pe_int) pa_nil)))))
      (pss_one ps_never)
      pss_nil)))), ?_⟩
    walk_at "start"
    walk_at "x"
    refine ⟨_, rfl, .int _, ?_⟩
    have e : (isB (.int (m : Int)) 1000000001 && !isB (.int (m : Int)) 2) = true := by
      rw [isB_int (by omega) (by omega)]
      show (true && !(decide (0 ≤ (m : Int)) && decide ((m : Int) < 2))) = true
      rw [decide_eq_false (show ¬ (m : Int) < 2 by omega), Bool.and_false]; rfl
    rw [e]
    walk_at "x"
    walk_at "f"
    refine ⟨_, _, rfl, .int _, ?_⟩
    rw [isB_int (by omega) (by omega)]
    walk_at "x"
    walk_at "f"
    rw [decide_eq_false (show ¬ (c : Int) = 0 by omega)]
    walk_at "f"
    refine ⟨_, _, rfl, .int _, ?_⟩
    rw [isB_int (by omega) (by omega)]
    walk_at "x"
    walk_at "f"
    exact q


def stW : Stp → Str
  | .add .. => "add"
  | .scale .. => "scale"
  | .swap .. => "swap"
  | .tab .. => "table"
def isT : Stp → Bool
  | .tab .. => true
  | _ => false
theorem StpAt.head {H : Hp} {a : Addr} : ∀ {s : Stp}, StpAt H a s → ∃ ys, H a = some (.tup (.str (stW s) :: ys))
  | .add .., h => by obtain ⟨f, as, h1, _⟩ := h; exact ⟨_, h1⟩
  | .scale .., h => ⟨_, h⟩
  | .swap .., h => ⟨_, h⟩
  | .tab .., h => by obtain ⟨c, h1, _⟩ := h; exact ⟨_, h1⟩
theorem stW_tab (s : Stp) : decide (V.str (stW s) = V.str "table") = isT s := by
  cases s with
  | add => exact decide_eq_false (fun e => absurd (show ("add" : Str) = "table" from V.str.inj e) (by decide))
  | scale => exact decide_eq_false (fun e => absurd (show ("scale" : Str) = "table" from V.str.inj e) (by decide))
  | swap => exact decide_eq_false (fun e => absurd (show ("swap" : Str) = "table" from V.str.inj e) (by decide))
  | tab => exact decide_eq_true rfl
def sp_check_steps (K : PySem.W.Frag) : Sp := fun vs H Q _ => ∃ (L : Addr) (as : List Addr) (ss : List Stp) (m c i : Nat), vs = [.ref L, .int (m : Int), .int (c : Int), .int (i : Int)] ∧ H L = some (.lst (as.map V.ref)) ∧ StpsAt H as ss ∧ ss.length ≤ 20000 ∧ (∀ s, s ∈ ss → StpOk m c i s) ∧ 2 ≤ m ∧ m ≤ 1000000000 ∧
  ∀ H', Same H H' → Q .non H'
theorem ok_check_steps (T : Txt K mg) : FnOk P w K mg base CX0 5 T.a_check_steps T.fd_check_steps ["steps", "modulus", "cells", "inputs"] (sp_check_steps K) := by
  refine T.F_check_steps.ok sc_check_steps (fun vs H Q E h => ?_) (fun cdv A outer s H vs Q E hr h => ?_)
  · obtain ⟨L, as, ss, m, c, i, rfl, _⟩ := h
    rfl
  · obtain ⟨L, as, ss, m, c, i, rfl, hL, hA, hn, ok, m2, m9, q⟩ := h
    have hal := hA.1
    refine ⟨_, (pss_cons (ps_if (PW.pt (pw_or (pt_not (pt_val (pe_callB (id := "isinstance") (r := rIsi K) call_isi (by rfl) T.m_isinstance (by decide +kernel) (pa_cons (pv 0) (pa_cons (pe_bltn (v := .ty "list") (by rfl) T.m_list (by decide +kernel) rfl) pa_nil))))) (pw_or1 (pt_cmpR op_gt (pe_callB (id := "len") (r := rLen K) cr_len (by rfl) T.m_len PySem.boot_len (pa_cons (pv 0) pa_nil)) (pe_glob (v := .int 20000) (by rfl) T.c_MOST_STEPS ⟨_, rfl⟩) (nomark _)))))
      (pss_one ps_never)
      pss_nil)
      (pss_cons (ps_for PassesOwn.never rfl (pi_enum (by rfl) T.m_enumerate (pa_cons (pv 0) pa_nil)) (pg_tup rfl (pgs_cons (pg_name (i := 4) sc_check_steps.nd rfl (Or.inl rfl)) (pgs_cons (pg_name (i := 5) sc_check_steps.nd rfl (Or.inl rfl)) pgs_nil)))
      (pss_one (ps_if (pt_not (pt_val (pe_call (ok_is_step T) hr (by rfl) T.g_is_step T.F_is_step.kp T.b_is_step .nil pass0 (pa_cons (pv 5) (pa_cons (pv 1) (pa_cons (pv 2) (pa_cons (pv 3) pa_nil)))))))
      (pss_one ps_never)
      pss_nil)))
      (pss_one (ps_if (PW.pt (pw_and (pt_val (pe_callB (id := "any") (r := rAny K) (cr_any rfl) (by rfl) T.m_any (by decide +kernel) (pa_cons (pe_lc (own := [("step", 5)]) (g := gName 5) (tt := tYes) rfl sc_check_steps.nd (pi_list (pv 0)) (blkOk_by (N := N_check_steps) (sc := defScope s_check_steps) (by decide +kernel)) (fun _ _ _ _ _ => (pg_name (i := 5) sc_check_steps.nd rfl (Or.inl rfl))) (fun _ _ _ _ _ => pts_nil) (fun _ _ _ _ _ => (pe_cmpR op_eq (pe_ix (r := rIxT K) ix_tup (pv 5) pe_int (fun _ _ => rfl)) pe_str (nomark _)))) pa_nil))) (pw_and1 (pt_not (pt_val (pe_call (ok_is_prime T) (hr.mono (by decide)) (by rfl) T.g_is_prime T.F_is_prime.kp T.b_is_prime .nil pass0 (pa_cons (pv 1) pa_nil)))))))
      (pss_one ps_never)
      pss_nil)))), ?_⟩
    walk_at "start"
    walk_at "x"
    walk_at "is"
    walk_at "f"
    refine x_len (sq_of hL) ?_
    walk_at "x"
    rw [List.length_map, hal, decide_eq_false (show ¬ (20000 : Int) < (ss.length : Int) by omega)]
    walk_at "f"
    refine x_forI (J := Ite K L) (n := (as.map V.ref).length) (G := fun H => SqL K H L (as.map V.ref)) (fun R r => by unfold iEnum; walk_at "x"; exact ⟨L, _, rfl, sq_of hL, r⟩) walk_enum (fun k σ' H' => Same H H' ∧ ∃ v4 v5, σ' = [some (.ref L), some (.int (m : Int)), some (.int (c : Int)), some (.int (i : Int)), v4, v5])
      ⟨Same.refl _, _, _, rfl⟩ (fun k σ' H' _ z => sq_of (z.1 _ _ hL)) ?_ ?_
    · rintro k _ σ' H' H2 hk ⟨hs, v4, v5, rfl⟩ ⟨o, x, y, rfl, ho, rfl, gx, gy⟩
      cases gx
      obtain ⟨b, hb, rfl⟩ := map_getR gy
      obtain ⟨s, hs1, hs2⟩ := hA.get hb
      have s3 : Same H (upd H' o (.tup [.int (k : Int), .ref b])) := sput hs (sfree hs ho)
      refine x_gTup2 (st_of upd_same) ?_
      walk_at "x"
      refine ⟨b, s, m, c, i, rfl, hs2.tups (Tups.same s3), ok s (List.mem_of_getElem? hs1), m2, fun H4 s4 => ?_⟩
      walk_at "x"
      walk_at "f"
      exact ⟨s3.trans s4, _, _, rfl⟩
    · rintro σ' H' ⟨hs, v4, v5, rfl⟩
      have hL' := hs _ _ hL
      walk_at "x"
      refine x_lcB (xs := as.map V.ref) (fun k => match ss[k]? with | some s => isT s | none => false) (J := Itl K L) (G := fun H => SqL K H L (as.map V.ref)) (fun R r => ⟨_, rfl, L, rfl, ⟨_, sq_of hL'⟩, r⟩) walk_list (by rw [List.length_map]; omega) (fun H2 s => sq_of (s _ _ hL')) (fun x => rfl) ?_ ?_
      · intro k x H2 s2 hx R hR
        obtain ⟨b, hb, rfl⟩ := map_getR hx
        obtain ⟨s, hs1, hs2⟩ := hA.get hb
        obtain ⟨ys, hy⟩ := (hs2.tups (Tups.same (hs.trans s2))).head
        walk_at "x"
        refine x_ixT (v := .str (stW s)) (st_of hy) (atI_nat (j := 0) rfl) ?_
        walk_at "x"
        refine x_Eq rfl ?_
        rw [stW_tab]
        have e : (match ss[k]? with | some s => isT s | none => false) = isT s := by rw [hs1]
        rw [← e]
        exact hR H2 (Same.refl _)
      · intro p H2 hp s2 hP
        walk_at "x"
        refine x_any hP ?_
        walk_at "x"
        refine x_iteB (fun hb => ?_) (fun hb => ?_)
        · have hm : IsPrime m := by
            obtain ⟨b, hb1, hb2⟩ := List.any_eq_true.mp hb
            obtain ⟨k, hk, rfl⟩ := List.mem_map.mp hb1
            have hk := List.mem_range.mp hk
            rw [List.length_map, hal] at hk
            have e : (match ss[k]? with | some s => isT s | none => false) = true := hb2
            rw [List.getElem?_eq_getElem hk] at e
            have okk := ok ss[k] (List.getElem_mem hk)
            generalize ss[k] = s at e okk
            cases s with
            | tab t g tb x y => exact okk.2.2.2.2.2.2.2.2.2
            | add => cases e
            | scale => cases e
            | swap => cases e
          walk_at "x"
          refine ⟨_, rfl, by omega, by omega, fun b hbp => ?_⟩
          walk_at "x"
          have e : b = true := hbp.mpr (prime_I hm)
          subst e
          walk_at "f"
          exact q H2 (hs.trans s2)
        · walk_at "f"
          exact q H2 (hs.trans s2)

/-! ### programs -/
structure PC (K : PySem.W.Frag) (C : Addr) : Prop where
  cl : Cls K C
  m : NoAttr K C "modulus"
  c : NoAttr K C "cells"
  i : NoAttr K C "inputs"
  s : NoAttr K C "steps"
def progF (m c i : Int) (L : Addr) : List (Str × V) := [("modulus", V.int m), ("cells", V.int c), ("inputs", V.int i), ("steps", V.ref L)]
theorem progF_m {m c i : Int} {L : Addr} : (progF m c i L).lookup ("modulus" : Str) = some (V.int m) := rfl
theorem progF_c {m c i : Int} {L : Addr} : (progF m c i L).lookup ("cells" : Str) = some (V.int c) := rfl
theorem progF_i {m c i : Int} {L : Addr} : (progF m c i L).lookup ("inputs" : Str) = some (V.int i) := rfl
theorem progF_s {m c i : Int} {L : Addr} : (progF m c i L).lookup ("steps" : Str) = some (V.ref L) := rfl
theorem progF_mk {m c i : Int} {L : Addr} : putF "steps" (V.ref L) (putF "inputs" (V.int i) (putF "cells" (V.int c) (putF "modulus" (V.int m) []))) = progF m c i L := rfl
/-- a program at p: its steps' list at L -/
structure PrAt (K : PySem.W.Frag) (C : Addr) (H : Hp) (p L : Addr) (as : List Addr) (ss : List Stp) (m c i : Nat) : Prop where
  ob : ∃ dx, H p = some (.ins C dx (progF m c i L)) ∧ PC K C
  lst : H L = some (.lst (as.map V.ref))
  st : StpsAt H as ss
theorem PrAt.same {K : PySem.W.Frag} {C : Addr} {H H' : Hp} {p L : Addr} {as : List Addr} {ss : List Stp} {m c i : Nat} (h : PrAt K C H p L as ss m c i) (s : Same H H') : PrAt K C H' p L as ss m c i := by
  obtain ⟨dx, h1, h2⟩ := h.ob
  exact ⟨⟨dx, s _ _ h1, h2⟩, s _ _ h.lst, h.st.tups (Tups.same s)⟩
structure PrOk (ss : List Stp) (m c i : Nat) : Prop where
  m2 : 2 ≤ m
  m9 : m ≤ 1000000000
  c1 : 1 ≤ c
  c60 : c ≤ 60
  i60 : i ≤ 60
  len : ss.length ≤ 20000
  ok : ∀ s, s ∈ ss → StpOk m c i s

def sp_Program___init (K : PySem.W.Frag) : Sp := fun vs H Q _ => ∃ (p C dx L : Addr) (as : List Addr) (ss : List Stp) (m c i : Nat), vs = [.ref p, .int (m : Int), .int (c : Int), .int (i : Int), .ref L] ∧ H p = some (.ins C dx []) ∧ PC K C ∧ H L = some (.lst (as.map V.ref)) ∧ StpsAt H as ss ∧ PrOk ss m c i ∧
  ∀ (L' : Addr) (H' : Hp), H L' = none → (∀ b o, H b = some o → b ≠ p → H' b = some o) → PrAt K C H' p L' as ss m c i → Q .non H'
theorem ok_Program___init (T : Txt K mg) : FnOk P w K mg base CX0 6 T.a_Program___init T.fd_Program___init ["self", "modulus", "cells", "inputs", "steps"] (sp_Program___init K) := by
  refine T.F_Program___init.ok sc_Program___init (fun vs H Q E h => ?_) (fun cdv A outer s H vs Q E hr h => ?_)
  · obtain ⟨p, C, dx, L, as, ss, m, c, i, rfl, _⟩ := h
    rfl
  · obtain ⟨p, C, dx, L, as, ss, m, c, i, rfl, hp, hC, hL, hA, ok, q⟩ := h
    refine ⟨_, (pss_cons (ps_expr (pe_call (ok_check_sizes T) (hr.mono (by decide)) (by rfl) T.g_check_sizes T.F_check_sizes.kp T.b_check_sizes .nil pass0 (pa_cons (pv 1) (pa_cons (pv 2) (pa_cons (pv 3) pa_nil)))))
      (pss_cons (ps_expr (pe_call (ok_check_steps T) hr (by rfl) T.g_check_steps T.F_check_steps.kp T.b_check_steps .nil pass0 (pa_cons (pv 4) (pa_cons (pv 1) (pa_cons (pv 2) (pa_cons (pv 3) pa_nil))))))
      (pss_cons (ps_fld (pv 0) (pv 1) rfl)
      (pss_cons (ps_fld (pv 0) (pv 2) rfl)
      (pss_cons (ps_fld (pv 0) (pv 3) rfl)
      (pss_one (ps_fld (pv 0) (pe_callTy (T := "list") (r := rListOf K) cr_list_of (by rfl) T.m_list (by decide +kernel) (pa_cons (pv 4) pa_nil)) rfl))))))), ?_⟩
    walk_at "start"
    walk_at "x"
    refine ⟨m, c, i, rfl, ok.m2, ok.m9, ok.c1, ok.c60, ok.i60, ?_⟩
    walk_at "x"
    refine ⟨L, as, ss, m, c, i, rfl, hL, hA, ok.len, ok.ok, ok.m2, ok.m9, fun H1 s1 => ?_⟩
    have hp1 := s1 _ _ hp
    have hL1 := s1 _ _ hL
    walk_at "x"
    refine ⟨p, C, dx, _, rfl, hp1, hC.cl, hC.m, by decide, ?_⟩
    walk_at "x"
    refine ⟨p, C, dx, _, rfl, upd_same, hC.cl, hC.c, by show 1 < 1000; decide, ?_⟩
    walk_at "x"
    refine ⟨p, C, dx, _, rfl, upd_same, hC.cl, hC.i, by show 2 < 1000; decide, ?_⟩
    walk_at "x"
    have hpL : L ≠ p := ne_of hL1 hp1 (by intro z; cases z)
    refine x_listL (sq_of (by rw [upd_ne hpL, upd_ne hpL, upd_ne hpL]; exact hL1)) fun L' hL' => ?_
    have hpL' : p ≠ L' := ne_of_none upd_same hL'
    have hL'1 : H1 L' = none := by
      rw [upd_ne hpL'.symm, upd_ne hpL'.symm, upd_ne hpL'.symm] at hL'
      exact hL'
    walk_at "x"
    refine ⟨p, C, dx, _, rfl, by rw [upd_ne hpL', upd_same], hC.cl, hC.s, by show 3 < 1000; decide, ?_⟩
    rw [progF_mk]
    generalize hU : upd (upd _ _ _) _ _ = U
    have keep : ∀ b o, H b = some o → b ≠ p → U b = some o := fun b o e hb => by
      rw [← hU, upd_ne hb, upd_ne (ne_of_none (s1 _ _ e) hL'1), upd_ne hb, upd_ne hb, upd_ne hb]
      exact s1 _ _ e
    refine q L' U (s1.free hL'1) keep ⟨⟨dx, by rw [← hU]; exact upd_same, hC⟩, by rw [← hU, upd_ne hpL'.symm, upd_same], hA.tups fun b xs e => keep b _ e (ne_of e hp (by intro z; cases z))⟩


end
end Br
namespace Br
open PySem PySem.Spec PyProof.Rows L2
local macro_rules | `(tactic| walk_at "x1") => `(tactic| (with_reducible first
  | refine Br.x_seq ?_ | refine Br.x_set ?_ | refine Br.x_asg ?_ | refine Br.x_next ?_ | refine Br.x_ret ?_ | refine Br.x_retN ?_ | refine Br.x_drop ?_ | refine Br.x_if ?_ | refine Br.x_brk ?_ | refine Br.x_cont ?_
  | refine Br.x_c ?_ | refine Br.x_op ?_ | refine Br.x_un ?_ | refine Br.x_I0 ?_ | refine Br.x_U ?_ | refine Br.x_EqI ?_ | refine Br.x_NeI ?_ | refine Br.x_EqB ?_ | refine Br.x_iN ?_ | refine Br.x_int1 ?_ | refine Br.x_min2 ?_ | refine Br.x_max2 ?_ | refine Br.x_nN ?_ | refine Br.x_ifE ?_
  | refine Br.x_test (b := ()) ?_ | refine Br.x_tB ?_ | refine Br.x_bl ?_ | refine Br.x_and ?_ | refine Br.x_or ?_ | refine Br.x_not ?_ | refine Br.x_andV ?_ | refine Br.x_orV ?_ | refine Br.x_notV ?_ | refine Br.x_blP ?_
  | refine Br.x_nil ?_ | refine Br.x_cons ?_ | refine Br.x_call ?_ | refine Br.x_CB ?_ | refine Br.x_BM ?_ | refine Br.x_tup ?_ | refine Br.x_lst ?_ | refine Br.x_chain ?_ | refine Br.x_par ?_ | refine Br.x_gSub ?_ | refine Br.x_gName ?_ | refine Br.x_fld ?_ | refine Br.x_fldS ?_ | refine Br.x_match ?_ | refine Br.x_else ?_ | refine Br.x_noCase ?_))
local macro_rules | `(tactic| walk_at "xv") => `(tactic| ((with_reducible refine' Br.x_var ?hvar ?_); (case hvar => rfl)))
local macro_rules | `(tactic| walk_at "xd") => `(tactic| (dsimp only [List.set_cons_zero, List.set_cons_succ, List.cons_append, List.nil_append, List.append_nil]))
local macro_rules | `(tactic| walk_at "xi") => `(tactic| ((with_reducible refine Br.x_I ?hside ?_); (case hside => first | exact Br.mul_r (by decide) (by decide) | exact Br.mul_l (by decide) (by decide) | exact Br.mul_l (by omega) (by omega) | exact Br.mul_r (by omega) (by omega) | (show (0 : Int) < _; first | decide | omega) | exact ⟨by decide, by decide⟩ | exact ⟨by omega, by omega⟩ | exact ⟨by decide, by decide, by decide⟩)))
local macro_rules | `(tactic| walk_at "x") => `(tactic| (repeat (first | walk_at "x1" | walk_at "xv" | walk_at "xi" | walk_at "xd")))
local macro_rules | `(tactic| walk_at "start") => `(tactic| (simp only [L2.start, List.map_cons, List.map_nil, List.length_cons, List.length_nil, Nat.reduceAdd, Nat.reduceSub, List.replicate, List.cons_append, List.nil_append, List.append_nil]))
local macro_rules | `(tactic| walk_at "isi") => `(tactic| first
  | refine Br.x_isi (b := true) (.base (.int _)) (by decide +kernel) ?_ | refine Br.x_isi (b := false) (.base (.int _)) (by decide +kernel) ?_
  | refine Br.x_isi (b := true) (.base (.bl _)) (by decide +kernel) ?_ | refine Br.x_isi (b := false) (.base (.bl _)) (by decide +kernel) ?_
  | refine Br.x_isi (b := false) (.base .non) (by decide +kernel) ?_
  | refine Br.x_isi (b := true) (.base (.str _)) (by decide +kernel) ?_ | refine Br.x_isi (b := false) (.base (.str _)) (by decide +kernel) ?_
  | refine Br.x_isi (b := true) (.base (.tup (by assumption))) (by decide +kernel) ?_ | refine Br.x_isi (b := false) (.base (.tup (by assumption))) (by decide +kernel) ?_
  | refine Br.x_isi (b := true) (.base (.lst (by assumption))) (by decide +kernel) ?_ | refine Br.x_isi (b := false) (.base (.lst (by assumption))) (by decide +kernel) ?_)
local macro_rules | `(tactic| walk_at "f") => `(tactic| (refine L2.iteF ?_; walk_at "x"))
local macro_rules | `(tactic| walk_at "t") => `(tactic| (refine L2.iteT ?_; walk_at "x"))
local macro_rules | `(tactic| walk_at "is") => `(tactic| (walk_at "isi"; walk_at "x"))
local macro_rules | `(tactic| walk_at "xb") => `(tactic| (simp only [Br.bindS, List.set_cons_zero, List.set_cons_succ]; walk_at "x"))

section
variable {P : Program} {w : World} {K : PySem.W.Frag} {mg : Str → Option Value} {base : Heap}

open Br.F

section
variable {σ : L2.St} {H : Hp} {Q : VK} {R : Option Int → Hp → Prop}
theorem x_make1 {C : Addr} {sp : Sp} {dvs : List V} {E : XK} {t : TA} (h : t σ H fun vs H1 => ∀ x dx, H1 x = none → H1 dx = none → dx ≠ x → sp (.ref x :: (vs ++ dvs)) (upd (upd H1 dx (.own x)) x (.ins C dx [])) (fun v H2 => v = .non ∧ Q (.ref x) H2) E) : tMake C sp dvs E t σ H Q := h
theorem x_meth1 {C : Addr} {m : Str} {sp : Sp} {dvs : List V} {E : XK} {ta : TE} {t : TA} (h : ta σ H fun x H1 => ∃ a dx fs, x = .ref a ∧ H1 a = some (.ins C dx fs) ∧ fs.lookup m = none ∧ t σ H1 fun vs H2 => sp (x :: (vs ++ dvs)) H2 Q E) : tMeth C m sp dvs E ta t σ H Q := h
theorem x_lcPreL {te : TE} {ta : TE} {j : Nat} {vs : List Nat} (h : ta σ H fun v H1 => tLc (iList K (tC v)) (gName j) tYes te vs σ H1 Q) : tLc (iList K ta) (gName j) tYes te vs σ H Q := h
theorem x_revL {te : TE} (h : te σ H fun x H1 => ∃ a xs, x = .ref a ∧ SqL K H1 a xs ∧ ∀ p, H1 p = none → Q (.ref p) (upd H1 p (.lst xs.reverse))) : tRevL K te σ H Q := h
theorem x_sl {r : V → Option Int → Option Int → Hp → VK → Prop} {te : TE} {tl th : TO} (h : te σ H fun x H1 => tl σ H1 fun l H2 => th σ H2 fun u H3 => r x l u H3 Q) : tSl r te tl th σ H Q := h
theorem x_noPart (h : R none H) : tNoPart σ H R := h
theorem cut_take {xs : List V} {n : Nat} : cutV xs none (some (n : Int)) = xs.take n := by
  unfold cutV
  rw [HT.sIx_nat]
  show (xs.drop 0).take (min n xs.length - 0) = xs.take n
  rw [List.drop_zero, Nat.sub_zero]
  by_cases h : n ≤ xs.length
  · rw [Nat.min_eq_left h]
  · rw [Nat.min_eq_right (by omega), List.take_length, List.take_of_length_le (by omega)]
end
theorem new_prog {C : Addr} {H1 : Hp} {L0 : Addr} {as : List Addr} {ss : List Stp} {m c i : Nat} {Q : VK} {E : XK} (hC : PC K C) (hl : H1 L0 = some (.lst (as.map V.ref))) (hst : StpsAt H1 as ss) (ok : PrOk ss m c i)
    (q : ∀ p L' H', H1 L' = none → Same H1 H' → PrAt K C H' p L' as ss m c i → Q (.ref p) H') : ∀ x dx, H1 x = none → H1 dx = none → dx ≠ x → sp_Program___init K [.ref x, .int (m : Int), .int (c : Int), .int (i : Int), .ref L0] (upd (upd H1 dx (.own x)) x (.ins C dx [])) (fun v H2 => v = .non ∧ Q (.ref x) H2) E := by
  intro x dx hx hdx hne
  have s1 : ∀ b o, H1 b = some o → (upd (upd H1 dx (.own x)) x (.ins C dx [])) b = some o := fun b o e => by
    rw [upd_ne (ne_of_none e hx), upd_ne (ne_of_none e hdx)]
    exact e
  refine ⟨x, C, dx, L0, as, ss, m, c, i, rfl, upd_same, hC, s1 _ _ hl, hst.tups (fun b xs e => s1 _ _ e), ok, fun L' H' hL' keep hP => ⟨rfl, ?_⟩⟩
  have s2 : Same H1 H' := fun b o e => keep b o (s1 _ _ e) (ne_of_none e hx)
  refine q x L' H' ?_ s2 hP
  cases e : H1 L' with
  | none => rfl
  | some o =>
    rw [s1 _ _ e] at hL'
    cases hL'





end
end Br
namespace Br
open PySem PySem.Spec PyProof.Rows L2
local macro_rules | `(tactic| walk_at "x1") => `(tactic| (with_reducible first
  | refine Br.x_seq ?_ | refine Br.x_set ?_ | refine Br.x_asg ?_ | refine Br.x_next ?_ | refine Br.x_ret ?_ | refine Br.x_retN ?_ | refine Br.x_drop ?_ | refine Br.x_if ?_ | refine Br.x_brk ?_ | refine Br.x_cont ?_
  | refine Br.x_c ?_ | refine Br.x_op ?_ | refine Br.x_un ?_ | refine Br.x_I0 ?_ | refine Br.x_U ?_ | refine Br.x_EqI ?_ | refine Br.x_NeI ?_ | refine Br.x_EqB ?_ | refine Br.x_iN ?_ | refine Br.x_int1 ?_ | refine Br.x_min2 ?_ | refine Br.x_max2 ?_ | refine Br.x_nN ?_ | refine Br.x_ifE ?_
  | refine Br.x_test (b := ()) ?_ | refine Br.x_tB ?_ | refine Br.x_bl ?_ | refine Br.x_and ?_ | refine Br.x_or ?_ | refine Br.x_not ?_ | refine Br.x_andV ?_ | refine Br.x_orV ?_ | refine Br.x_notV ?_ | refine Br.x_blP ?_
  | refine Br.x_nil ?_ | refine Br.x_cons ?_ | refine Br.x_call ?_ | refine Br.x_CB ?_ | refine Br.x_BM ?_ | refine Br.x_tup ?_ | refine Br.x_lst ?_ | refine Br.x_chain ?_ | refine Br.x_par ?_ | refine Br.x_gSub ?_ | refine Br.x_gName ?_ | refine Br.x_fld ?_ | refine Br.x_fldS ?_ | refine Br.x_match ?_ | refine Br.x_else ?_ | refine Br.x_noCase ?_))
local macro_rules | `(tactic| walk_at "xv") => `(tactic| ((with_reducible refine' Br.x_var ?hvar ?_); (case hvar => rfl)))
local macro_rules | `(tactic| walk_at "xd") => `(tactic| (dsimp only [List.set_cons_zero, List.set_cons_succ, List.cons_append, List.nil_append, List.append_nil]))
local macro_rules | `(tactic| walk_at "xi") => `(tactic| ((with_reducible refine Br.x_I ?hside ?_); (case hside => first | exact Br.mul_r (by decide) (by decide) | exact Br.mul_l (by decide) (by decide) | exact Br.mul_l (by omega) (by omega) | exact Br.mul_r (by omega) (by omega) | (show (0 : Int) < _; first | decide | omega) | exact ⟨by decide, by decide⟩ | exact ⟨by omega, by omega⟩ | exact ⟨by decide, by decide, by decide⟩)))
local macro_rules | `(tactic| walk_at "x") => `(tactic| (repeat (first | walk_at "x1" | walk_at "xv" | walk_at "xi" | walk_at "xd")))
local macro_rules | `(tactic| walk_at "start") => `(tactic| (simp only [L2.start, List.map_cons, List.map_nil, List.length_cons, List.length_nil, Nat.reduceAdd, Nat.reduceSub, List.replicate, List.cons_append, List.nil_append, List.append_nil]))
local macro_rules | `(tactic| walk_at "isi") => `(tactic| first
  | refine Br.x_isi (b := true) (.base (.int _)) (by decide +kernel) ?_ | refine Br.x_isi (b := false) (.base (.int _)) (by decide +kernel) ?_
  | refine Br.x_isi (b := true) (.base (.bl _)) (by decide +kernel) ?_ | refine Br.x_isi (b := false) (.base (.bl _)) (by decide +kernel) ?_
  | refine Br.x_isi (b := false) (.base .non) (by decide +kernel) ?_
  | refine Br.x_isi (b := true) (.base (.str _)) (by decide +kernel) ?_ | refine Br.x_isi (b := false) (.base (.str _)) (by decide +kernel) ?_
  | refine Br.x_isi (b := true) (.base (.tup (by assumption))) (by decide +kernel) ?_ | refine Br.x_isi (b := false) (.base (.tup (by assumption))) (by decide +kernel) ?_
  | refine Br.x_isi (b := true) (.base (.lst (by assumption))) (by decide +kernel) ?_ | refine Br.x_isi (b := false) (.base (.lst (by assumption))) (by decide +kernel) ?_)
local macro_rules | `(tactic| walk_at "f") => `(tactic| (refine L2.iteF ?_; walk_at "x"))
local macro_rules | `(tactic| walk_at "t") => `(tactic| (refine L2.iteT ?_; walk_at "x"))
local macro_rules | `(tactic| walk_at "is") => `(tactic| (walk_at "isi"; walk_at "x"))
local macro_rules | `(tactic| walk_at "xb") => `(tactic| (simp only [Br.bindS, List.set_cons_zero, List.set_cons_succ]; walk_at "x"))

section
variable {P : Program} {w : World} {K : PySem.W.Frag} {mg : Str → Option Value} {base : Heap}

open Br.F
theorem x_forPreA {σ : L2.St} {H : Hp} {D : Ends} {ta : TE} {g : TG} {tb : TS} (h : ta σ H fun v H1 => tFor (iRng1 (tCons (tC v) tNil)) g tb D σ H1) : tFor (iRng1 (tCons ta tNil)) g tb D σ H := h
theorem x_lcPreA {σ : L2.St} {H : Hp} {Q : VK} {ta : TE} {j : Nat} {te : TE} {vs : List Nat} (h : ta σ H fun v H1 => tLc (iRng1 (tCons (tC v) tNil)) (gName j) tYes te vs σ H1 Q) : tLc (iRng1 (tCons ta tNil)) (gName j) tYes te vs σ H Q := h
theorem keep_tupsA {d n : Addr} {H H' : Hp} (k : Keep d H H') (h : Dr H d n) : Tups H H' := fun b xs e => by
  obtain ⟨_, _, h, _⟩ := h
  exact k _ _ e (ne_of e h (by intro z; cases z))
theorem wrapA {t c : Nat} {w : Int} (ht : t < c) (w0 : 0 ≤ w) (w1 : w < (c : Int) - 1) : ∃ j : Nat, ((t : Int) + 1 + w) % (c : Int) = (j : Int) ∧ j < c ∧ j ≠ t := by
  by_cases h : (t : Int) + 1 + w < c
  · exact ⟨((t : Int) + 1 + w).toNat, by rw [Int.emod_eq_of_lt (by omega) h]; omega, by omega, by omega⟩
  · have e : ((t : Int) + 1 + w) % (c : Int) = (t : Int) + 1 + w - c := by
      rw [← Int.sub_emod_right, Int.emod_eq_of_lt (by omega) (by omega)]
    exact ⟨((t : Int) + 1 + w - c).toNat, by rw [e]; omega, by omega, by omega⟩

def sp_law_gcd (K : PySem.W.Frag) : Sp := fun vs H Q _ => ∃ a b : Int, vs = [.int a, .int b] ∧ 0 ≤ a ∧ a < 2 ^ 31 ∧ 0 ≤ b ∧ b < 2 ^ 31 ∧ Q (.int (Int.gcd a b : Nat)) H
theorem ok_law_gcd (T : Txt K mg) : FnOk P w K mg base CX0 1 T.a_law_gcd T.fd_law_gcd ["a", "b"] (sp_law_gcd K) := by
  refine T.F_law_gcd.ok sc_law_gcd (fun vs H Q E h => ?_) (fun cdv A outer s H vs Q E hr h => ?_)
  · obtain ⟨a, b, rfl, _⟩ := h
    rfl
  · obtain ⟨a, b, rfl, ha0, ha1, hb0, hb1, q⟩ := h
    refine ⟨_, (pss_cons (ps_for PassesOwn.never rfl (pi_range1 (by rfl) T.m_range (pa_cons pe_int pa_nil)) (pg_name (i := 2) sc_law_gcd.nd rfl (Or.inl rfl))
      (pss_cons (ps_if (pt_cmpR op_eq (pv 1) pe_int (nomark _))
      (pss_one (ps_ret (pv 0)))
      pss_nil)
      (pss_cons (ps_set (i := 3) sc_law_gcd.nd rfl (.inl rfl) (pe_op op_mod (pv 0) (pv 1)))
      (pss_cons (ps_set (i := 0) sc_law_gcd.nd rfl (.inl rfl) (pv 1))
      (pss_one (ps_set (i := 1) sc_law_gcd.nd rfl (.inl rfl) (pv 3)))))))
      (pss_one (ps_ret (pv 0)))), ?_⟩
    walk_at "start"
    walk_at "x"
    refine x_forR1 120 (fun i σ' H' => i ≤ 100 ∧ H' = H ∧ ∃ x y v2 v3, σ' = [some (.int x), some (.int y), v2, v3] ∧ 0 ≤ x ∧ 0 ≤ y ∧ Int.gcd x y = Int.gcd a b ∧ ((i = 0 ∧ x < 2 ^ 31 ∧ y < 2 ^ 31) ∨ (y < x ∧ x * y * 2 ^ i ≤ 2 ^ 70))) (fun R r => r) (by decide) (by decide) ⟨by decide, rfl, a, b, _, _, rfl, ha0, hb0, rfl, .inl ⟨rfl, ha1, hb1⟩⟩ ?_ ?_
    · rintro i σ' H' hi ⟨hi2, rfl, x, y, v2, v3, rfl, hx, hy, hg, hI⟩
      walk_at "x"
      refine x_ite (fun hc => ?_) (fun hc => ?_)
      · walk_at "x"
        rw [hc, Int.gcd_zero_right] at hg
        have e : x = ((Int.gcd a b : Nat) : Int) := by omega
        rw [e]
        exact q
      · have hy1 : 0 < y := by omega
        walk_at "x"
        have r0 := Int.emod_nonneg x (show y ≠ 0 by omega)
        have r1 := Int.emod_lt_of_pos x hy1
        refine ⟨?_, rfl, _, _, _, _, rfl, hy, r0, by rw [gcd_step]; exact hg, .inr ⟨r1, ?_⟩⟩
        · rcases hI with ⟨e, _⟩ | ⟨h1, h2⟩
          · omega
          · by_cases hh : i < 70
            · omega
            · have h3 : (2 : Int) ^ 70 ≤ 2 ^ i := by
                have := Nat.pow_le_pow_right (show 0 < 2 by decide) (show 70 ≤ i by omega)
                exact_mod_cast this
              have h4 : 2 * 1 ≤ x * y := Int.mul_le_mul (by omega) (by omega) (by decide) (by omega)
              have h5 : x * y * 2 ^ 70 ≤ x * y * 2 ^ i := Int.mul_le_mul_of_nonneg_left h3 (by omega)
              omega
        · rcases hI with ⟨e, h1, h2⟩ | ⟨h1, h2⟩
          · subst e
            have h4 : y * (x % y) ≤ 2 ^ 31 * 2 ^ 31 := Int.mul_le_mul (by omega) (by omega) (by omega) (by decide)
            omega
          · have h3 := half_step hy1 h1
            have h4 : y * (x % y) * 2 * 2 ^ i ≤ x * y * 2 ^ i := Int.mul_le_mul_of_nonneg_right h3 (Int.pow_nonneg (by decide))
            have e : y * (x % y) * 2 ^ (i + 1) = y * (x % y) * 2 * 2 ^ i := by
              rw [Int.pow_succ, Int.mul_assoc (y * (x % y)) 2, Int.mul_comm 2 (2 ^ i)]
            omega
    · rintro σ' H' ⟨hi, _⟩
      exact absurd hi (by decide)


def sp_law_number (K : PySem.W.Frag) : Sp := fun vs H Q _ => ∃ (d n : Addr) (m : Int), vs = [.ref d, .int m] ∧ 2 ≤ m ∧ Dr H d n ∧ RetD d n (IsI 0 m) H Q
theorem ok_law_number (T : Txt K mg) : FnOk P w K mg base CX0 3 T.a_law_number T.fd_law_number ["draws", "modulus"] (sp_law_number K) := by
  refine T.F_law_number.ok sc_law_number (fun vs H Q E h => ?_) (fun cdv A outer s H vs Q E hr h => ?_)
  · obtain ⟨d, n, m, rfl, _⟩ := h
    rfl
  · obtain ⟨d, n, m, rfl, hm, hD, q⟩ := h
    refine ⟨_, (pss_cons (ps_set (i := 2) sc_law_number.nd rfl (.inl rfl) (pe_op op_mod (pe_call (ok_law_draw T) hr (by rfl) T.g_law_draw T.F_law_draw.kp T.b_law_draw .nil pass0 (pa_cons (pv 0) pa_nil)) pe_int))
      (pss_cons (ps_if (pt_cmpR op_eq (pv 2) pe_int (nomark _))
      (pss_one (ps_ret (pe_op op_sub (pv 1) pe_int)))
      pss_nil)
      (pss_cons (ps_if (pt_cmpR op_eq (pv 2) pe_int (nomark _))
      (pss_one (ps_ret pe_int))
      pss_nil)
      (pss_cons (ps_if (pt_cmpR op_eq (pv 2) pe_int (nomark _))
      (pss_one (ps_ret pe_int))
      pss_nil)
      (pss_one (ps_ret (pe_op op_mod (pe_op op_add (pe_call (ok_law_draw T) hr (by rfl) T.g_law_draw T.F_law_draw.kp T.b_law_draw .nil pass0 (pa_cons (pv 0) pa_nil)) (pe_op op_mul pe_int (pe_call (ok_law_draw T) hr (by rfl) T.g_law_draw T.F_law_draw.kp T.b_law_draw .nil pass0 (pa_cons (pv 0) pa_nil)))) (pv 1)))))))), ?_⟩
    walk_at "start"
    walk_at "x"
    refine ⟨d, n, rfl, hD, ?_⟩
    rintro _ H1 ⟨z, rfl, hz0, hz1⟩ hD1 hk1
    walk_at "x"
    refine x_ite (fun hc => ?_) (fun hc => ?_)
    · walk_at "x"
      exact q _ _ ⟨_, rfl, by omega, by omega⟩ hD1 hk1
    walk_at "x"
    refine x_ite (fun hc => ?_) (fun hc => ?_)
    · walk_at "x"
      exact q _ _ ⟨_, rfl, by omega, by omega⟩ hD1 hk1
    walk_at "x"
    refine x_ite (fun hc => ?_) (fun hc => ?_)
    · walk_at "x"
      exact q _ _ ⟨_, rfl, by omega, by omega⟩ hD1 hk1
    walk_at "x"
    refine ⟨d, n, rfl, hD1, ?_⟩
    rintro _ H2 ⟨x, rfl, _, _⟩ hD2 hk2
    walk_at "x"
    refine ⟨d, n, rfl, hD2, ?_⟩
    rintro _ H3 ⟨y, rfl, _, _⟩ hD3 hk3
    walk_at "x"
    exact q _ _ ⟨_, rfl, Int.emod_nonneg _ (by omega), Int.emod_lt_of_pos _ (by omega)⟩ hD3 ((hk1.trans hk2).trans hk3)


def FacsJ (H0 : Hp) (t c i : Nat) (d nn o : Addr) (k : Nat) (H : Hp) : Prop := Dr H d nn ∧ Keep d H0 H ∧ o ≠ d ∧ o ≠ nn ∧ ∃ (as : List Addr) (fs : List Fac), H o = some (.lst (as.map V.ref)) ∧ as.length = fs.length ∧ fs.length ≤ k ∧ (∀ (j : Nat) x b, fs[j]? = some x → as[j]? = some b → FacAt H b x) ∧ ∀ f, f ∈ fs → FacOk c i t f
def sp_law_factors (K : PySem.W.Frag) : Sp := fun vs H Q _ => ∃ (d n : Addr) (c i t : Nat), vs = [.ref d, .int (c : Int), .int (i : Int), .int (t : Int)] ∧ t < c ∧ c ≤ 60 ∧ i ≤ 60 ∧ Dr H d n ∧
  RetG d n (fun v H' => ∃ (f : Addr) (as : List Addr) (fs : List Fac), v = .ref f ∧ H' f = some (.tup (as.map V.ref)) ∧ as.length = fs.length ∧ fs.length ≤ 3 ∧ (∀ (j : Nat) x b, fs[j]? = some x → as[j]? = some b → FacAt H' b x) ∧ ∀ f, f ∈ fs → FacOk c i t f) H Q
theorem ok_law_factors (T : Txt K mg) : FnOk P w K mg base CX0 3 T.a_law_factors T.fd_law_factors ["draws", "cells", "inputs", "target"] (sp_law_factors K) := by
  refine T.F_law_factors.ok sc_law_factors (fun vs H Q E h => ?_) (fun cdv A outer s H vs Q E hr h => ?_)
  · obtain ⟨d, n, c, i, t, rfl, _⟩ := h
    rfl
  · obtain ⟨d, n, c, i, t, rfl, htc, c60, i60, hD, q⟩ := h
    refine ⟨_, (pss_cons (ps_set (i := 4) sc_law_factors.nd rfl (.inl rfl) (pe_lst pa_nil))
      (pss_cons (ps_for PassesOwn.never rfl (pi_range1 (by rfl) T.m_range (pa_cons (pe_op op_mod (pe_call (ok_law_draw T) hr (by rfl) T.g_law_draw T.F_law_draw.kp T.b_law_draw .nil pass0 (pa_cons (pv 0) pa_nil)) pe_int) pa_nil)) (pg_name (i := 5) sc_law_factors.nd rfl (Or.inl rfl))
      (pss_one (ps_if (PW.pt (pw_and (pt_cmpR op_gt (pv 2) pe_int (nomark _)) (pw_and1 (pt_cmpR op_eq (pe_op op_mod (pe_call (ok_law_draw T) hr (by rfl) T.g_law_draw T.F_law_draw.kp T.b_law_draw .nil pass0 (pa_cons (pv 0) pa_nil)) pe_int) pe_int (nomark _)))))
      (pss_one (ps_expr (pe_bm PySem.F.plainAttrs_list PySem.F.slot_list_append PySem.F.type_list_append mt_append (pv 4) (pa_cons (pe_tup (pa_cons pe_str (pa_cons (pe_op op_mod (pe_call (ok_law_draw T) hr (by rfl) T.g_law_draw T.F_law_draw.kp T.b_law_draw .nil pass0 (pa_cons (pv 0) pa_nil)) (pv 2)) pa_nil))) pa_nil))))
      (pss_one (ps_if (pt_cmpR op_gt (pv 1) pe_int (nomark _))
      (pss_one (ps_expr (pe_bm PySem.F.plainAttrs_list PySem.F.slot_list_append PySem.F.type_list_append mt_append (pv 4) (pa_cons (pe_tup (pa_cons pe_str (pa_cons (pe_op op_mod (pe_op op_add (pe_op op_add (pv 3) pe_int) (pe_op op_mod (pe_call (ok_law_draw T) hr (by rfl) T.g_law_draw T.F_law_draw.kp T.b_law_draw .nil pass0 (pa_cons (pv 0) pa_nil)) (pe_op op_sub (pv 1) pe_int))) (pv 1)) pa_nil))) pa_nil))))
      pss_nil)))))
      (pss_one (ps_ret (pe_callTy (T := "tuple") (r := rTupOf K) cr_tup_of (by rfl) T.m_tuple (by decide +kernel) (pa_cons (pv 4) pa_nil)))))), ?_⟩
    walk_at "start"
    walk_at "x"
    refine ⟨by show 0 ≤ sizeLine; decide, fun o ho => ?_⟩
    have hD0 := hD.upd0 (o := .lst []) ho
    have e0 : (upd H o (.lst [])) o = some (.lst (([] : List Addr).map V.ref)) := upd_same
    have k0 : Keep d H (upd H o (.lst [])) := Same.keep (same_upd ho)
    have hod := hD.new ho
    have hon := hD.newN ho
    generalize upd H o (.lst []) = H0 at hD0 e0 k0
    walk_at "x"
    refine x_forPreA ?_
    walk_at "x"
    refine ⟨d, n, rfl, hD0, ?_⟩
    rintro _ H1 ⟨z, rfl, z0, z1⟩ hD1 hk1
    walk_at "x"
    refine x_forR1 (z % 4) (fun k σ' H' => ∃ v5, σ' = [some (.ref d), some (.int (c : Int)), some (.int (i : Int)), some (.int (t : Int)), some (.ref o), v5] ∧ FacsJ H t c i d n o k H') (fun R r => r) (by omega) (by omega) ⟨_, rfl, hD1, k0.trans hk1, hod, hon, [], [], hk1 _ _ e0 hod, rfl, Nat.zero_le _, fun j x b h => by simp at h, fun f h => by simp at h⟩ ?_ ?_
    · rintro k σ' H2 hk ⟨v5, rfl, hD2, hk2, _, _, as, fs, hO, hal, hfl, hfs, hok⟩
      have put : ∀ {H3 : Hp} {p : Addr} {f : Fac} {R : VK}, Dr H3 d n → Keep d H2 H3 → H3 p = none → FacOk c i t f → (∀ xs, FacAt (upd H3 p (.tup xs)) p f → True) → ∀ xs, FacAt (upd H3 p (.tup xs)) p f → (∀ H4 : Hp, FacsJ H t c i d n o (k + 1) H4 → R .non H4) → rAppend (.ref o) [.ref p] (upd H3 p (.tup xs)) R := fun {H3 p f R} hD3 hk3 hp okf _ xs hf r => by
        have hO3 := hk3 _ _ hO hod
        have hop : o ≠ p := ne_of_none hO3 hp
        have tp := keep_tupsA hk3 hD2
        have up := same_upd (o := .tup xs) hp
        refine x_app (by rw [upd_ne hop]; exact hO3) (by rw [List.length_map]; omega) (r _ ⟨(hD3.upd0 hp).upd hod hon, kput (kput (hk2.trans hk3) (hk2.free hD2 (hk3.free hD3 hp))) ho, hod, hon, as ++ [p], fs ++ [f], by rw [upd_same, List.map_append]; rfl, by rw [List.length_append, List.length_append, hal]; rfl, by rw [List.length_append]; show _ + 1 ≤ _; omega, fun j x b e1 e2 => ?_, fun g hg => ?_⟩)
        · have tp2 : Tups (upd H3 p (.tup xs)) (upd (upd H3 p (.tup xs)) o (.lst (as.map V.ref ++ [V.ref p]))) := (Tups.refl _).put (fun ys e => by rw [upd_ne hop, hO3] at e; cases e)
          rcases snoc_at rfl e1 with ⟨h1, e1⟩ | ⟨h1, rfl⟩
          · rcases snoc_at rfl e2 with ⟨h2, e2⟩ | ⟨h2, rfl⟩
            · exact (((hfs j x b e1 e2).tups tp).tups (Tups.same up)).tups tp2
            · omega
          · rcases snoc_at rfl e2 with ⟨h2, e2⟩ | ⟨h2, rfl⟩
            · omega
            · exact hf.tups tp2
        · rcases List.mem_append.mp hg with h | h
          · exact hok g h
          · rw [List.mem_singleton.mp h]; exact okf
      have skip : ∀ {H3 : Hp}, Dr H3 d n → Keep d H2 H3 → FacsJ H t c i d n o (k + 1) H3 := fun {H3} hD3 hk3 =>
        ⟨hD3, hk2.trans hk3, hod, hon, as, fs, hk3 _ _ hO hod, hal, by omega, fun j x b e1 e2 => (hfs j x b e1 e2).tups (keep_tupsA hk3 hD2), hok⟩
      have cellW : ∀ {H3 : Hp} {R : VK}, Dr H3 d n → Keep d H2 H3 → 1 < c → (∀ H4 : Hp, FacsJ H t c i d n o (k + 1) H4 → R .non H4) → ∀ w : Int, 0 ≤ w → ∀ p, H3 p = none → rAppend (.ref o) [.ref p] (upd H3 p (.tup [.str "cell", .int (((t : Int) + 1 + w % ((c : Int) - 1)) % (c : Int))])) R := fun {H3 R} hD3 hk3 hc r w w0 p hp => by
        obtain ⟨j, ej, jc, jt⟩ := wrapA htc (Int.emod_nonneg w (show (c : Int) - 1 ≠ 0 by omega)) (Int.emod_lt_of_pos w (show (0 : Int) < (c : Int) - 1 by omega))
        rw [ej]
        exact put (f := .cell j) hD3 hk3 hp ⟨jc, jt⟩ (fun _ _ => trivial) _ upd_same r
      walk_at "x"
      refine x_ite (fun hc => ?_) (fun hc => ?_)
      · walk_at "x"
        refine ⟨d, n, rfl, hD2, ?_⟩
        rintro _ H3 ⟨y, rfl, _, _⟩ hD3 hk3
        walk_at "x"
        refine x_ite (fun hc2 => ?_) (fun hc2 => ?_)
        · walk_at "x"
          refine x_tyL (hk3 _ _ hO hod) ?_
          walk_at "x"
          refine ⟨d, n, rfl, hD3, ?_⟩
          rintro _ H4 ⟨w, rfl, _, _⟩ hD4 hk4
          walk_at "x"
          refine ⟨by show 2 ≤ sizeLine; decide, fun p hp => ?_⟩
          obtain ⟨j, ej⟩ : ∃ j : Nat, w % (i : Int) = (j : Int) := ⟨(w % (i : Int)).toNat, by have := Int.emod_nonneg w (show (i : Int) ≠ 0 by omega); omega⟩
          have ji : j < i := by have := Int.emod_lt_of_pos w (show (0 : Int) < i by omega); omega
          rw [ej]
          walk_at "x"
          refine put (f := .inp j) hD4 (hk3.trans hk4) hp ji (fun _ _ => trivial) _ upd_same fun H5 h5 => ?_
          walk_at "x"
          exact ⟨_, rfl, h5⟩
        · walk_at "x"
          refine x_ite (fun hc3 => ?_) (fun hc3 => ?_)
          · walk_at "x"
            refine x_tyL (hk3 _ _ hO hod) ?_
            walk_at "x"
            refine ⟨d, n, rfl, hD3, ?_⟩
            rintro _ H4 ⟨w, rfl, w0, _⟩ hD4 hk4
            walk_at "x"
            refine ⟨by show 2 ≤ sizeLine; decide, fun p hp => ?_⟩
            walk_at "x"
            refine cellW hD4 (hk3.trans hk4) (by omega) (fun H5 h5 => ?_) w w0 p hp
            walk_at "x"
            exact ⟨_, rfl, h5⟩
          · walk_at "x"
            exact ⟨_, rfl, skip hD3 hk3⟩
      · walk_at "f"
        refine x_ite (fun hc3 => ?_) (fun hc3 => ?_)
        · walk_at "x"
          refine x_tyL hO ?_
          walk_at "x"
          refine ⟨d, n, rfl, hD2, ?_⟩
          rintro _ H4 ⟨w, rfl, w0, _⟩ hD4 hk4
          walk_at "x"
          refine ⟨by show 2 ≤ sizeLine; decide, fun p hp => ?_⟩
          walk_at "x"
          refine cellW hD4 hk4 (by omega) (fun H5 h5 => ?_) w w0 p hp
          walk_at "x"
          exact ⟨_, rfl, h5⟩
        · walk_at "x"
          exact ⟨_, rfl, skip hD2 (Keep.refl _ _)⟩
    · rintro σ' H2 ⟨v5, rfl, hD2, hk2, _, _, as, fs, hO, hal, hfl, hfs, hok⟩
      walk_at "x"
      refine x_tupL (sq_of hO) fun l hl => ?_
      have up := same_upd (o := .tup (as.map V.ref)) hl
      exact q _ _ ⟨l, as, fs, rfl, upd_same, hal, by omega, fun j x b e1 e2 => (hfs j x b e1 e2).tups (Tups.same up), hok⟩ (hD2.upd0 hl) (hk2.trans (Same.keep up))



def sp_law_step (K : PySem.W.Frag) : Sp := fun vs H Q _ => ∃ (d n : Addr) (m c i : Nat), vs = [.ref d, .int (m : Int), .int (c : Int), .int (i : Int)] ∧ 2 ≤ m ∧ m ≤ 1000000000 ∧ 1 ≤ c ∧ c ≤ 60 ∧ i ≤ 60 ∧ Dr H d n ∧
  RetG d n (fun v H' => ∃ (b : Addr) (s : Stp), v = .ref b ∧ StpAt H' b s ∧ StpOk m c i s ∧ isT s = false) H Q
theorem ok_law_step (T : Txt K mg) : FnOk P w K mg base CX0 4 T.a_law_step T.fd_law_step ["draws", "modulus", "cells", "inputs"] (sp_law_step K) := by
  refine T.F_law_step.ok sc_law_step (fun vs H Q E h => ?_) (fun cdv A outer s H vs Q E hr h => ?_)
  · obtain ⟨d, n, m, c, i, rfl, _⟩ := h
    rfl
  · obtain ⟨d, n, m, c, i, rfl, m2, m9, c1, c60, i60, hD, q⟩ := h
    refine ⟨_, (pss_cons (ps_set (i := 4) sc_law_step.nd rfl (.inl rfl) (pe_op op_mod (pe_call (ok_law_draw T) (hr.mono (by decide)) (by rfl) T.g_law_draw T.F_law_draw.kp T.b_law_draw .nil pass0 (pa_cons (pv 0) pa_nil)) (pv 2)))
      (pss_cons (ps_set (i := 5) sc_law_step.nd rfl (.inl rfl) (pe_op op_mod (pe_call (ok_law_draw T) (hr.mono (by decide)) (by rfl) T.g_law_draw T.F_law_draw.kp T.b_law_draw .nil pass0 (pa_cons (pv 0) pa_nil)) pe_int))
      (Evl.pss_cut (ps_if (PW.pt (pw_and (pt_cmpR op_eq (pv 5) pe_int (nomark _)) (pw_and1 (pt_cmpR op_gt (pv 2) pe_int (nomark _)))))
      (pss_one (ps_ret (pe_tup (pa_cons pe_str (pa_cons (pv 4) (pa_cons (pe_op op_mod (pe_op op_add (pe_op op_add (pv 4) pe_int) (pe_op op_mod (pe_call (ok_law_draw T) (hr.mono (by decide)) (by rfl) T.g_law_draw T.F_law_draw.kp T.b_law_draw .nil pass0 (pa_cons (pv 0) pa_nil)) (pe_op op_sub (pv 2) pe_int))) (pv 2)) pa_nil))))))
      pss_nil)
      (Evl.pss_cut (ps_if (pt_cmpR op_eq (pv 5) pe_int (nomark _))
      (pss_cons (ps_set (i := 6) sc_law_step.nd rfl (.inl rfl) (pe_call (ok_law_number T) hr (by rfl) T.g_law_number T.F_law_number.kp T.b_law_number .nil pass0 (pa_cons (pv 0) (pa_cons (pv 1) pa_nil))))
      (pss_one (ps_if (pt_cmpR op_eq (pe_call (ok_law_gcd T) (hr.mono (by decide)) (by rfl) T.g_law_gcd T.F_law_gcd.kp T.b_law_gcd .nil pass0 (pa_cons (pv 1) (pa_cons (pv 6) pa_nil))) pe_int (nomark _))
      (pss_one (ps_ret (pe_tup (pa_cons pe_str (pa_cons (pv 4) (pa_cons (pv 6) pa_nil))))))
      pss_nil)))
      pss_nil)
      (pss_one (ps_ret (pe_tup (pa_cons pe_str (pa_cons (pv 4) (pa_cons (pe_call (ok_law_number T) hr (by rfl) T.g_law_number T.F_law_number.kp T.b_law_number .nil pass0 (pa_cons (pv 0) (pa_cons (pv 1) pa_nil))) (pa_cons (pe_call (ok_law_factors T) hr (by rfl) T.g_law_factors T.F_law_factors.kp T.b_law_factors .nil pass0 (pa_cons (pv 0) (pa_cons (pv 2) (pa_cons (pv 3) (pa_cons (pv 4) pa_nil))))) pa_nil))))))))))), ?_⟩
    walk_at "start"
    walk_at "x"
    refine ⟨d, n, rfl, hD, ?_⟩
    rintro _ H1 ⟨y, rfl, y0, y1⟩ hD1 hk1
    walk_at "x"
    obtain ⟨t, et⟩ : ∃ t : Nat, y % (c : Int) = (t : Int) := ⟨(y % (c : Int)).toNat, by have := Int.emod_nonneg y (show (c : Int) ≠ 0 by omega); omega⟩
    have htc : t < c := by have := Int.emod_lt_of_pos y (show (0 : Int) < c by omega); omega
    rw [et]
    refine ⟨d, n, rfl, hD1, ?_⟩
    rintro _ H2 ⟨z, rfl, z0, z1⟩ hD2 hk2
    have hk2 := hk1.trans hk2
    walk_at "x"
    refine x_cut (fun σ' H' => [some (V.ref d), some (.int (m : Int)), some (.int (c : Int)), some (.int (i : Int)), some (.int (t : Int)), some (.int (z % 8)), none] = σ' ∧ H2 = H') ?_ ?_
    · walk_at "x"
      refine x_ite (fun h0 => ?_) (fun h0 => ?_)
      · walk_at "x"
        refine x_ite (fun h1 => ?_) (fun h1 => ?_)
        · walk_at "x"
          refine ⟨d, n, rfl, hD2, ?_⟩
          rintro _ H3 ⟨w, rfl, w0, w1⟩ hD3 hk3
          walk_at "x"
          refine ⟨by show 3 ≤ sizeLine; decide, fun p hp => ?_⟩
          obtain ⟨j, ej, jc, jt⟩ := wrapA htc (Int.emod_nonneg w (show (c : Int) - 1 ≠ 0 by omega)) (Int.emod_lt_of_pos w (show (0 : Int) < (c : Int) - 1 by omega))
          rw [ej]
          exact q _ _ ⟨p, .swap t j, rfl, upd_same, ⟨htc, jc, jt.symm⟩, rfl⟩ (hD3.upd0 hp) (kput (hk2.trans hk3) (hk2.free hD2 (hk3.free hD3 hp)))
        · walk_at "x"
          exact ⟨rfl, rfl⟩
      · walk_at "f"
        exact ⟨rfl, rfl⟩
    rintro _ _ ⟨rfl, rfl⟩
    walk_at "x"
    refine x_cut (fun σ' H' => ∃ v6, [some (V.ref d), some (.int (m : Int)), some (.int (c : Int)), some (.int (i : Int)), some (.int (t : Int)), some (.int (z % 8)), v6] = σ' ∧ Dr H' d n ∧ Keep d H H') ?_ ?_
    · walk_at "x"
      refine x_ite (fun h0 => ?_) (fun h0 => ?_)
      · walk_at "x"
        refine ⟨d, n, (m : Int), rfl, by omega, hD2, ?_⟩
        rintro _ H3 ⟨u, rfl, u0, u1⟩ hD3 hk3
        walk_at "x"
        refine ⟨(m : Int), u, rfl, by omega, by omega, u0, by omega, ?_⟩
        walk_at "x"
        refine x_ite (fun h1 => ?_) (fun h1 => ?_)
        · walk_at "x"
          refine ⟨by show 3 ≤ sizeLine; decide, fun p hp => ?_⟩
          exact q _ _ ⟨p, .scale t u, rfl, upd_same, ⟨htc, u0, u1, by rw [Int.gcd_comm]; omega⟩, rfl⟩ (hD3.upd0 hp) (kput (hk2.trans hk3) (hk2.free hD2 (hk3.free hD3 hp)))
        · walk_at "x"
          exact ⟨_, rfl, hD3, hk2.trans hk3⟩
      · walk_at "x"
        exact ⟨_, rfl, hD2, hk2⟩
    rintro _ H3 ⟨v6, rfl, hD3, hk3⟩
    walk_at "x"
    refine ⟨d, n, (m : Int), rfl, by omega, hD3, ?_⟩
    rintro _ H4 ⟨u, rfl, u0, u1⟩ hD4 hk4
    walk_at "x"
    refine ⟨d, n, c, i, t, rfl, htc, c60, i60, hD4, ?_⟩
    rintro _ H5 ⟨f, as, fs, rfl, hf, hal, hfl, hfs, hok⟩ hD5 hk5
    walk_at "x"
    refine ⟨by show 4 ≤ sizeLine; decide, fun p hp => ?_⟩
    have up := same_upd (o := .tup [V.str "add", .int (t : Int), .int u, .ref f]) hp
    exact q _ _ ⟨p, .add t u fs, rfl, ⟨f, as, upd_same, up _ _ hf, hal, fun j x b e1 e2 => (hfs j x b e1 e2).tups (Tups.same up)⟩, ⟨htc, u0, u1, hfl, hok⟩, rfl⟩ (hD5.upd0 hp) (kput ((hk3.trans hk4).trans hk5) ((hk3.trans hk4).free hD4 (hk5.free hD5 hp)))


end
end Br
namespace Br
open PySem PySem.Spec PyProof.Rows L2
local macro_rules | `(tactic| walk_at "x1") => `(tactic| (with_reducible first
  | refine Br.x_seq ?_ | refine Br.x_set ?_ | refine Br.x_asg ?_ | refine Br.x_next ?_ | refine Br.x_ret ?_ | refine Br.x_retN ?_ | refine Br.x_drop ?_ | refine Br.x_if ?_ | refine Br.x_brk ?_ | refine Br.x_cont ?_
  | refine Br.x_c ?_ | refine Br.x_op ?_ | refine Br.x_un ?_ | refine Br.x_I0 ?_ | refine Br.x_U ?_ | refine Br.x_EqI ?_ | refine Br.x_NeI ?_ | refine Br.x_EqB ?_ | refine Br.x_iN ?_ | refine Br.x_int1 ?_ | refine Br.x_min2 ?_ | refine Br.x_max2 ?_ | refine Br.x_nN ?_ | refine Br.x_ifE ?_
  | refine Br.x_test (b := ()) ?_ | refine Br.x_tB ?_ | refine Br.x_bl ?_ | refine Br.x_and ?_ | refine Br.x_or ?_ | refine Br.x_not ?_ | refine Br.x_andV ?_ | refine Br.x_orV ?_ | refine Br.x_notV ?_ | refine Br.x_blP ?_
  | refine Br.x_nil ?_ | refine Br.x_cons ?_ | refine Br.x_call ?_ | refine Br.x_CB ?_ | refine Br.x_BM ?_ | refine Br.x_tup ?_ | refine Br.x_lst ?_ | refine Br.x_chain ?_ | refine Br.x_par ?_ | refine Br.x_gSub ?_ | refine Br.x_gName ?_ | refine Br.x_fld ?_ | refine Br.x_fldS ?_ | refine Br.x_match ?_ | refine Br.x_else ?_ | refine Br.x_noCase ?_))
local macro_rules | `(tactic| walk_at "xv") => `(tactic| ((with_reducible refine' Br.x_var ?hvar ?_); (case hvar => rfl)))
local macro_rules | `(tactic| walk_at "xd") => `(tactic| (dsimp only [List.set_cons_zero, List.set_cons_succ, List.cons_append, List.nil_append, List.append_nil]))
local macro_rules | `(tactic| walk_at "xi") => `(tactic| ((with_reducible refine Br.x_I ?hside ?_); (case hside => first | exact Br.mul_r (by decide) (by decide) | exact Br.mul_l (by decide) (by decide) | exact Br.mul_l (by omega) (by omega) | exact Br.mul_r (by omega) (by omega) | (show (0 : Int) < _; first | decide | omega) | exact ⟨by decide, by decide⟩ | exact ⟨by omega, by omega⟩ | exact ⟨by decide, by decide, by decide⟩)))
local macro_rules | `(tactic| walk_at "x") => `(tactic| (repeat (first | walk_at "x1" | walk_at "xv" | walk_at "xi" | walk_at "xd")))
local macro_rules | `(tactic| walk_at "start") => `(tactic| (simp only [L2.start, List.map_cons, List.map_nil, List.length_cons, List.length_nil, Nat.reduceAdd, Nat.reduceSub, List.replicate, List.cons_append, List.nil_append, List.append_nil]))
local macro_rules | `(tactic| walk_at "isi") => `(tactic| first
  | refine Br.x_isi (b := true) (.base (.int _)) (by decide +kernel) ?_ | refine Br.x_isi (b := false) (.base (.int _)) (by decide +kernel) ?_
  | refine Br.x_isi (b := true) (.base (.bl _)) (by decide +kernel) ?_ | refine Br.x_isi (b := false) (.base (.bl _)) (by decide +kernel) ?_
  | refine Br.x_isi (b := false) (.base .non) (by decide +kernel) ?_
  | refine Br.x_isi (b := true) (.base (.str _)) (by decide +kernel) ?_ | refine Br.x_isi (b := false) (.base (.str _)) (by decide +kernel) ?_
  | refine Br.x_isi (b := true) (.base (.tup (by assumption))) (by decide +kernel) ?_ | refine Br.x_isi (b := false) (.base (.tup (by assumption))) (by decide +kernel) ?_
  | refine Br.x_isi (b := true) (.base (.lst (by assumption))) (by decide +kernel) ?_ | refine Br.x_isi (b := false) (.base (.lst (by assumption))) (by decide +kernel) ?_)
local macro_rules | `(tactic| walk_at "f") => `(tactic| (refine L2.iteF ?_; walk_at "x"))
local macro_rules | `(tactic| walk_at "t") => `(tactic| (refine L2.iteT ?_; walk_at "x"))
local macro_rules | `(tactic| walk_at "is") => `(tactic| (walk_at "isi"; walk_at "x"))
local macro_rules | `(tactic| walk_at "xb") => `(tactic| (simp only [Br.bindS, List.set_cons_zero, List.set_cons_succ]; walk_at "x"))

section
variable {P : Program} {w : World} {K : PySem.W.Frag} {mg : Str → Option Value} {base : Heap}


def sp_law_equal (n : Nat) (K : PySem.W.Frag) : Sp := fun vs H Q _ => ∃ v u, vs = [v, u] ∧ Eqv K H n v u ∧ Q (.bl true) H
def sp_law_all_equal (n : Nat) (K : PySem.W.Frag) : Sp := fun vs H Q _ => ∃ (a b : Addr) (xs ys : List V), vs = [.ref a, .ref b] ∧ ((H a = some (.lst xs) ∧ H b = some (.lst ys)) ∨ (H a = some (.tup xs) ∧ H b = some (.tup ys))) ∧ xs.length = ys.length ∧ ys.length ≤ 100000 ∧ (∀ (i : Nat) x y, xs[i]? = some x → ys[i]? = some y → Eqv K H n x y) ∧ Q (.bl true) H
theorem x_ixQ {K : PySem.W.Frag} {H : Hp} {a b : Addr} {xs ys : List V} {i : Int} {v : V} {Q : VK} (h : (H a = some (.lst xs) ∧ H b = some (.lst ys)) ∨ (H a = some (.tup xs) ∧ H b = some (.tup ys))) (hi : atI xs i = some v) (q : Q v H) : rIx K (.ref a) (.int i) H Q := by
  rcases h with h | h
  · exact .inl (x_ixL (sq_of h.1) hi q)
  · exact .inr (.inl (x_ixT (st_of h.1) hi q))
theorem x_ixQ2 {K : PySem.W.Frag} {H : Hp} {a b : Addr} {xs ys : List V} {i : Int} {v : V} {Q : VK} (h : (H a = some (.lst xs) ∧ H b = some (.lst ys)) ∨ (H a = some (.tup xs) ∧ H b = some (.tup ys))) (hi : atI ys i = some v) (q : Q v H) : rIx K (.ref b) (.int i) H Q := by
  rcases h with h | h
  · exact .inl (x_ixL (sq_of h.2) hi q)
  · exact .inr (.inl (x_ixT (st_of h.2) hi q))
theorem all_equal_of (T : Txt K mg) (n : Nat) (G_law_equal : FnOk P w K mg base CX0 (2 * n + 1) T.a_law_equal T.fd_law_equal ["actual", "due"] (sp_law_equal n K)) : FnOk P w K mg base CX0 (2 * n + 2) T.a_law_all_equal T.fd_law_all_equal ["actual", "due"] (sp_law_all_equal n K) := by
  refine T.F_law_all_equal.ok sc_law_all_equal (fun vs H Q E h => ?_) (fun cdv A outer s H vs Q E hr h => ?_)
  · obtain ⟨a, b, xs, ys, rfl, _⟩ := h
    rfl
  · obtain ⟨a, b, xs, ys, rfl, hab, hl, hz, he, q⟩ := h
    refine ⟨_, (pss_cons (ps_for PassesOwn.never rfl (pi_range1 (by rfl) T.m_range (pa_cons (pe_callB (id := "len") (r := rLen K) cr_len (by rfl) T.m_len PySem.boot_len (pa_cons (pv 1) pa_nil)) pa_nil)) (pg_name (i := 2) sc_law_all_equal.nd rfl (Or.inl rfl))
      (pss_one (ps_if (pt_not (pt_val (pe_call G_law_equal (hr.mono (by omega)) (by rfl) T.g_law_equal T.F_law_equal.kp T.b_law_equal .nil pass0 (pa_cons (pe_ix (r := rIx K) ix_seq (pv 0) (pv 2) (fun _ _ => rfl)) (pa_cons (pe_ix (r := rIx K) ix_seq (pv 1) (pv 2) (fun _ _ => rfl)) pa_nil)))))
      (pss_one (ps_ret pe_bl))
      pss_nil)))
      (pss_one (ps_ret pe_bl))), ?_⟩
    walk_at "start"
    refine x_forR1 (ys.length : Int) (fun i σ' H' => H = H' ∧ ∃ v2, σ' = [some (.ref a), some (.ref b), v2]) (fun R r => by
      walk_at "x"
      rcases hab with h | h
      · refine x_len (sq_of h.2) ?_
        exact r
      · refine x_lenT (st_of h.2) ?_
        exact r) (by omega) (by omega) ⟨rfl, _, rfl⟩ ?_ ?_
    · rintro i σ' H' hi ⟨rfl, v2, rfl⟩
      obtain ⟨x, gx⟩ : ∃ x, xs[i]? = some x := ⟨_, List.getElem?_eq_getElem (by omega)⟩
      obtain ⟨y, gy⟩ : ∃ y, ys[i]? = some y := ⟨_, List.getElem?_eq_getElem (by omega)⟩
      walk_at "x"
      refine x_ixQ hab (atI_nat gx) ?_
      walk_at "x"
      refine x_ixQ2 hab (atI_nat gy) ?_
      walk_at "x"
      refine ⟨x, y, rfl, he i x y gx gy, ?_⟩
      walk_at "x"
      walk_at "f"
      exact ⟨rfl, _, rfl⟩
    · rintro σ' H' ⟨rfl, v2, rfl⟩
      walk_at "x"
      exact q
theorem ok_law_equal (T : Txt K mg) : ∀ n : Nat, FnOk P w K mg base CX0 (2 * n + 1) T.a_law_equal T.fd_law_equal ["actual", "due"] (sp_law_equal n K)
  | 0 => by
    refine T.F_law_equal.ok sc_law_equal (fun vs H Q E h => ?_) (fun cdv A outer s H vs Q E hr h => ?_)
    · obtain ⟨v, u, rfl, h, _⟩ := h
      exact h.elim
    · obtain ⟨v, u, rfl, h, _⟩ := h
      exact h.elim
  | n + 1 => by
    have G_law_all_equal := all_equal_of T n (ok_law_equal T n)
    refine T.F_law_equal.ok (k := 2 * n + 2) sc_law_equal (fun vs H Q E h => ?_) (fun cdv A outer s H vs Q E hr h => ?_)
    · obtain ⟨v, u, rfl, _⟩ := h
      rfl
    · obtain ⟨v, u, rfl, h, q⟩ := h
      refine ⟨_, (pss_cons (ps_if (pt_val (pe_callB (id := "isinstance") (r := rIsi K) call_isi (by rfl) T.m_isinstance (by decide +kernel) (pa_cons (pv 1) (pa_cons (pe_bltn (v := .ty "list") (by rfl) T.m_list (by decide +kernel) rfl) pa_nil))))
      (pss_cons (ps_if (PW.pt (pw_or (pt_not (pt_val (pe_callB (id := "isinstance") (r := rIsi K) call_isi (by rfl) T.m_isinstance (by decide +kernel) (pa_cons (pv 0) (pa_cons (pe_bltn (v := .ty "list") (by rfl) T.m_list (by decide +kernel) rfl) pa_nil))))) (pw_or1 (pt_cmpR op_ne (pe_callB (id := "len") (r := rLen K) cr_len (by rfl) T.m_len PySem.boot_len (pa_cons (pv 0) pa_nil)) (pe_callB (id := "len") (r := rLen K) cr_len (by rfl) T.m_len PySem.boot_len (pa_cons (pv 1) pa_nil)) (nomark _)))))
      (pss_one (ps_ret pe_bl))
      pss_nil)
      (pss_one (ps_ret (pe_call G_law_all_equal (hr.mono (by omega)) (by rfl) T.g_law_all_equal T.F_law_all_equal.kp T.b_law_all_equal .nil pass0 (pa_cons (pv 0) (pa_cons (pv 1) pa_nil))))))
      pss_nil)
      (pss_cons (ps_if (pt_val (pe_callB (id := "isinstance") (r := rIsi K) call_isi (by rfl) T.m_isinstance (by decide +kernel) (pa_cons (pv 1) (pa_cons (pe_bltn (v := .ty "tuple") (by rfl) T.m_tuple (by decide +kernel) rfl) pa_nil))))
      (pss_cons (ps_if (PW.pt (pw_or (pt_not (pt_val (pe_callB (id := "isinstance") (r := rIsi K) call_isi (by rfl) T.m_isinstance (by decide +kernel) (pa_cons (pv 0) (pa_cons (pe_bltn (v := .ty "tuple") (by rfl) T.m_tuple (by decide +kernel) rfl) pa_nil))))) (pw_or1 (pt_cmpR op_ne (pe_callB (id := "len") (r := rLen K) cr_len (by rfl) T.m_len PySem.boot_len (pa_cons (pv 0) pa_nil)) (pe_callB (id := "len") (r := rLen K) cr_len (by rfl) T.m_len PySem.boot_len (pa_cons (pv 1) pa_nil)) (nomark _)))))
      (pss_one (ps_ret pe_bl))
      pss_nil)
      (pss_one (ps_ret (pe_call G_law_all_equal (hr.mono (by omega)) (by rfl) T.g_law_all_equal T.F_law_all_equal.kp T.b_law_all_equal .nil pass0 (pa_cons (pv 0) (pa_cons (pv 1) pa_nil))))))
      pss_nil)
      (pss_cons (ps_if (pt_val (pe_callB (id := "isinstance") (r := rIsi K) call_isi (by rfl) T.m_isinstance (by decide +kernel) (pa_cons (pv 1) (pa_cons (pe_bltn (v := .ty "bool") (by rfl) T.m_bool (by decide +kernel) rfl) pa_nil))))
      (pss_one (ps_ret (pe_and (pe_callB (id := "isinstance") (r := rIsi K) call_isi (by rfl) T.m_isinstance (by decide +kernel) (pa_cons (pv 0) (pa_cons (pe_bltn (v := .ty "bool") (by rfl) T.m_bool (by decide +kernel) rfl) pa_nil))) (pe_one (pe_cmpR op_eq (pv 0) (pv 1) (nomark _))))))
      pss_nil)
      (pss_cons (ps_if (pt_val (pe_callB (id := "isinstance") (r := rIsi K) call_isi (by rfl) T.m_isinstance (by decide +kernel) (pa_cons (pv 1) (pa_cons (pe_bltn (v := .ty "int") (by rfl) T.m_int (by decide +kernel) rfl) pa_nil))))
      (pss_one (ps_ret (pe_and (pe_callB (id := "isinstance") (r := rIsi K) call_isi (by rfl) T.m_isinstance (by decide +kernel) (pa_cons (pv 0) (pa_cons (pe_bltn (v := .ty "int") (by rfl) T.m_int (by decide +kernel) rfl) pa_nil))) (pe_and (pe_not (pe_callB (id := "isinstance") (r := rIsi K) call_isi (by rfl) T.m_isinstance (by decide +kernel) (pa_cons (pv 0) (pa_cons (pe_bltn (v := .ty "bool") (by rfl) T.m_bool (by decide +kernel) rfl) pa_nil)))) (pe_one (pe_cmpR op_eq (pv 0) (pv 1) (nomark _)))))))
      pss_nil)
      (pss_cons (ps_if (pt_val (pe_callB (id := "isinstance") (r := rIsi K) call_isi (by rfl) T.m_isinstance (by decide +kernel) (pa_cons (pv 1) (pa_cons (pe_bltn (v := .ty "str") (by rfl) T.m_str (by decide +kernel) rfl) pa_nil))))
      (pss_one (ps_ret (pe_and (pe_callB (id := "isinstance") (r := rIsi K) call_isi (by rfl) T.m_isinstance (by decide +kernel) (pa_cons (pv 0) (pa_cons (pe_bltn (v := .ty "str") (by rfl) T.m_str (by decide +kernel) rfl) pa_nil))) (pe_one (pe_cmpR op_eq (pv 0) (pv 1) (nomark _))))))
      pss_nil)
      (pss_one (ps_ret (pe_cmpR op_isN1 (pv 0) pe_non (nomark _))))))))), ?_⟩
      walk_at "start"
      rcases h with ⟨i, rfl, rfl⟩ | ⟨z, rfl, rfl⟩ | ⟨z, rfl, rfl⟩ | ⟨rfl, rfl⟩ | ⟨a, b, xs, ys, rfl, rfl, hab, hl, hz, he⟩
      · walk_at "x"
        walk_at "is"
        walk_at "f"
        walk_at "is"
        walk_at "f"
        walk_at "is"
        walk_at "f"
        walk_at "is"
        walk_at "t"
        walk_at "is"
        walk_at "t"
        walk_at "is"
        walk_at "t"
        rw [decide_eq_true rfl]
        exact q
      · walk_at "x"
        walk_at "is"
        walk_at "f"
        walk_at "is"
        walk_at "f"
        walk_at "is"
        walk_at "f"
        walk_at "is"
        walk_at "f"
        walk_at "is"
        walk_at "t"
        walk_at "is"
        walk_at "t"
        refine x_Eq rfl ?_
        rw [decide_eq_true rfl]
        exact q
      · walk_at "x"
        walk_at "is"
        walk_at "f"
        walk_at "is"
        walk_at "f"
        walk_at "is"
        walk_at "t"
        walk_at "is"
        walk_at "t"
        rw [decide_eq_true rfl]
        exact q
      · walk_at "x"
        walk_at "is"
        walk_at "f"
        walk_at "is"
        walk_at "f"
        walk_at "is"
        walk_at "f"
        walk_at "is"
        walk_at "f"
        walk_at "is"
        walk_at "f"
        rw [decide_eq_true rfl]
        exact q
      · rcases id hab with ⟨h1, h2⟩ | ⟨h1, h2⟩
        · walk_at "x"
          walk_at "is"
          walk_at "t"
          walk_at "is"
          walk_at "f"
          refine x_len (sq_of h1) ?_
          walk_at "x"
          refine x_len (sq_of h2) ?_
          walk_at "x"
          rw [hl, decide_eq_true rfl]
          walk_at "f"
          exact ⟨a, b, xs, ys, rfl, hab, hl, hz, he, q⟩
        · walk_at "x"
          walk_at "is"
          walk_at "f"
          walk_at "is"
          walk_at "t"
          walk_at "is"
          walk_at "f"
          refine x_lenT (st_of h1) ?_
          walk_at "x"
          refine x_lenT (st_of h2) ?_
          walk_at "x"
          rw [hl, decide_eq_true rfl]
          walk_at "f"
          exact ⟨a, b, xs, ys, rfl, hab, hl, hz, he, q⟩


end
end Br
namespace Br
open PySem PySem.Spec PyProof.Rows L2
local macro_rules | `(tactic| walk_at "x1") => `(tactic| (with_reducible first
  | refine Br.x_seq ?_ | refine Br.x_set ?_ | refine Br.x_asg ?_ | refine Br.x_next ?_ | refine Br.x_ret ?_ | refine Br.x_retN ?_ | refine Br.x_drop ?_ | refine Br.x_if ?_ | refine Br.x_brk ?_ | refine Br.x_cont ?_
  | refine Br.x_c ?_ | refine Br.x_op ?_ | refine Br.x_un ?_ | refine Br.x_I0 ?_ | refine Br.x_U ?_ | refine Br.x_EqI ?_ | refine Br.x_NeI ?_ | refine Br.x_EqB ?_ | refine Br.x_iN ?_ | refine Br.x_int1 ?_ | refine Br.x_min2 ?_ | refine Br.x_max2 ?_ | refine Br.x_nN ?_ | refine Br.x_ifE ?_
  | refine Br.x_test (b := ()) ?_ | refine Br.x_tB ?_ | refine Br.x_bl ?_ | refine Br.x_and ?_ | refine Br.x_or ?_ | refine Br.x_not ?_ | refine Br.x_andV ?_ | refine Br.x_orV ?_ | refine Br.x_notV ?_ | refine Br.x_blP ?_
  | refine Br.x_nil ?_ | refine Br.x_cons ?_ | refine Br.x_call ?_ | refine Br.x_CB ?_ | refine Br.x_BM ?_ | refine Br.x_tup ?_ | refine Br.x_lst ?_ | refine Br.x_chain ?_ | refine Br.x_par ?_ | refine Br.x_gSub ?_ | refine Br.x_gName ?_ | refine Br.x_fld ?_ | refine Br.x_fldS ?_ | refine Br.x_match ?_ | refine Br.x_else ?_ | refine Br.x_noCase ?_))
local macro_rules | `(tactic| walk_at "xv") => `(tactic| ((with_reducible refine' Br.x_var ?hvar ?_); (case hvar => rfl)))
local macro_rules | `(tactic| walk_at "xd") => `(tactic| (dsimp only [List.set_cons_zero, List.set_cons_succ, List.cons_append, List.nil_append, List.append_nil]))
local macro_rules | `(tactic| walk_at "xi") => `(tactic| ((with_reducible refine Br.x_I ?hside ?_); (case hside => first | exact Br.mul_r (by decide) (by decide) | exact Br.mul_l (by decide) (by decide) | exact Br.mul_l (by omega) (by omega) | exact Br.mul_r (by omega) (by omega) | (show (0 : Int) < _; first | decide | omega) | exact ⟨by decide, by decide⟩ | exact ⟨by omega, by omega⟩ | exact ⟨by decide, by decide, by decide⟩)))
local macro_rules | `(tactic| walk_at "x") => `(tactic| (repeat (first | walk_at "x1" | walk_at "xv" | walk_at "xi" | walk_at "xd")))
local macro_rules | `(tactic| walk_at "start") => `(tactic| (simp only [L2.start, List.map_cons, List.map_nil, List.length_cons, List.length_nil, Nat.reduceAdd, Nat.reduceSub, List.replicate, List.cons_append, List.nil_append, List.append_nil]))
local macro_rules | `(tactic| walk_at "isi") => `(tactic| first
  | refine Br.x_isi (b := true) (.base (.int _)) (by decide +kernel) ?_ | refine Br.x_isi (b := false) (.base (.int _)) (by decide +kernel) ?_
  | refine Br.x_isi (b := true) (.base (.bl _)) (by decide +kernel) ?_ | refine Br.x_isi (b := false) (.base (.bl _)) (by decide +kernel) ?_
  | refine Br.x_isi (b := false) (.base .non) (by decide +kernel) ?_
  | refine Br.x_isi (b := true) (.base (.str _)) (by decide +kernel) ?_ | refine Br.x_isi (b := false) (.base (.str _)) (by decide +kernel) ?_
  | refine Br.x_isi (b := true) (.base (.tup (by assumption))) (by decide +kernel) ?_ | refine Br.x_isi (b := false) (.base (.tup (by assumption))) (by decide +kernel) ?_
  | refine Br.x_isi (b := true) (.base (.lst (by assumption))) (by decide +kernel) ?_ | refine Br.x_isi (b := false) (.base (.lst (by assumption))) (by decide +kernel) ?_)
local macro_rules | `(tactic| walk_at "f") => `(tactic| (refine L2.iteF ?_; walk_at "x"))
local macro_rules | `(tactic| walk_at "t") => `(tactic| (refine L2.iteT ?_; walk_at "x"))
local macro_rules | `(tactic| walk_at "is") => `(tactic| (walk_at "isi"; walk_at "x"))
local macro_rules | `(tactic| walk_at "xb") => `(tactic| (simp only [Br.bindS, List.set_cons_zero, List.set_cons_succ]; walk_at "x"))

section
variable {P : Program} {w : World} {K : PySem.W.Frag} {mg : Str → Option Value} {base : Heap}

open Br
open Br.F

theorem GtAt.same2 {H H' : Hp} {a : Addr} {g : Gt} (h : GtAt H a g) (s : Same H H') : GtAt H' a g := h.tups fun b xs e => s _ _ e
def sp_gates_of_step (CT : Addr) (K : PySem.W.Frag) : Sp := fun vs H Q E => ∃ (a : Addr) (s : Stp) (m c i : Nat), vs = [.ref a, .int (i : Int)] ∧ StpAt H a s ∧ StpOk m c i s ∧
  (isT s = true → ∀ H', Same H H' → E (.ref CT) none H') ∧
  (isT s = false → ∀ (l : Addr) (bs : List Addr) (gs : List Gt) H', Same H H' → H l = none → H' l = some (.lst (bs.map V.ref)) → GtsAt H' bs gs → GtsOf i s gs → Q (.ref l) H')
theorem ok_gates_of_step (T : Txt K mg) : FnOk P w K mg base (L2.CX P w) 1 T.a_gates_of_step T.fd_gates_of_step ["step", "inputs"] (sp_gates_of_step T.E_BadStep K) := by
  refine T.F_gates_of_step.okX sc_gates_of_step (fun vs H Q E h => ?_) (fun cdv A outer s H vs Q E hr h => ?_)
  · obtain ⟨a, s, m, c, i, rfl, _⟩ := h
    rfl
  · obtain ⟨a, s, m, c, i, rfl, hs, ok, hE, q⟩ := h
    refine ⟨_, (pss_one (ps_match (pv 0) (pcs_lit rfl op_eq
      (PSs.nox (pss_one (ps_ret (pe_lst pa_nil))))
      (pcs_seq rfl op_eq (pcap_name 2 sc_gates_of_step.nd rfl (.inl rfl) (pcap_wild (pcap_name 3 sc_gates_of_step.nd rfl (.inl rfl) pcap_nil)))
      (PSs.nox (pss_cons (ps_setLc (i := 4) (own := [("place", 9), ("at", 10)]) (g := gTup K 2 (gCons (gName 9) (gCons (gName 10) gNil))) (tt := tYes) rfl sc_gates_of_step.nd rfl rfl (sw_true rfl rfl rfl (by decide +kernel)) (pi_tup (pv 3)) (blkOk_by (N := N_gates_of_step) (sc := defScope s_gates_of_step) (by decide +kernel)) (fun _ _ _ _ _ => (pg_tup rfl (pgs_cons (pg_name (i := 9) sc_gates_of_step.nd rfl (Or.inl rfl)) (pgs_cons (pg_name (i := 10) sc_gates_of_step.nd rfl (Or.inl rfl)) pgs_nil)))) (fun _ _ _ _ _ => pts_nil) (fun _ _ _ _ _ => (pe_ifExp (pt_cmpR op_eq (pv 9) pe_str (nomark _)) (pv 10) (pe_op op_add (pv 1) (pv 10)))))
      (pss_one (ps_ret (pe_lst (pa_cons (pe_tup (pa_cons (pe_op op_add (pv 1) (pv 2)) (pa_cons (pe_callTy (T := "tuple") (r := rTupOf K) cr_tup_of (by rfl) T.m_tuple (by decide +kernel) (pa_cons (pe_sortSet (by rfl) T.m_sorted (by rfl) T.m_set (pv 4)) pa_nil)) pa_nil))) pa_nil))))))
      (pcs_seq rfl op_eq (pcap_wild (pcap_wild pcap_nil))
      (PSs.nox (pss_one (ps_ret (pe_lst pa_nil))))
      (pcs_seq rfl op_eq (pcap_name 5 sc_gates_of_step.nd rfl (.inl rfl) (pcap_name 6 sc_gates_of_step.nd rfl (.inl rfl) pcap_nil))
      (PSs.nox (pss_cons (ps_par (i := 7) (j := 8) rfl sc_gates_of_step.nd rfl rfl (by decide) rfl rfl (pa_cons (pe_tup (pa_cons (pe_op op_add (pv 1) (pv 5)) (pa_cons (pe_tup (pa_cons (pe_op op_add (pv 1) (pv 6)) pa_nil)) pa_nil))) (pa_cons (pe_tup (pa_cons (pe_op op_add (pv 1) (pv 6)) (pa_cons (pe_tup (pa_cons (pe_op op_add (pv 1) (pv 5)) pa_nil)) pa_nil))) pa_nil)) (by rfl))
      (pss_one (ps_ret (pe_lst (pa_cons (pv 7) (pa_cons (pv 8) (pa_cons (pv 7) pa_nil))))))))
      (pcs_else (rest := _) (pss_one (ps_raise rfl (takes_of rfl rfl rfl rfl) (pmk_own PySem.F.excBase_ValueError T.xE_BadStep T.gE_BadStep T.kE_BadStep (raises_own T.bE_BadStep T.tE_BadStep) (by exact rfl))))))))))), ?_⟩
    walk_at "start"
    cases s with
    | add t k fs =>
      obtain ⟨f, as, h1, h2, h3, h4⟩ := hs
      obtain ⟨o1, o2, o3, o4, o5⟩ := ok
      have q := q rfl
      walk_at "x"
      refine x_litI (st_of h1) (fun hk => ?_) (fun hk => ?_)
      · walk_at "x"
        refine ⟨by show 0 ≤ sizeLine; decide, fun l hl => ?_⟩
        exact q l [] [] _ (same_upd hl) hl upd_same ⟨rfl, fun j x b h _ => by simp at h⟩ (.inl ⟨hk, rfl⟩)
      · refine x_caseY (st_of h1) rfl ?_
        walk_at "xb"
        refine x_lcI (J := Itt K f) (n := (as.map V.ref).length) (G := fun H => SqT K H f (as.map V.ref)) (fun R r => ⟨_, rfl, f, rfl, ⟨_, st_of h2⟩, r⟩) walk_tup (fun o j H' => Same H H' ∧ H' o = some (.lst (((fs.take j).map fun x => ((facB i x : Nat) : Int)).map V.int))) (fun o ho => ⟨same_upd ho, upd_same⟩) (fun o j H' _ _ z => st_of (z.1 _ _ h2)) ?_ ?_ ?_
        · rintro o j x H1 H2 hj ho ⟨s1, e1⟩ ⟨rfl, hx⟩
          obtain ⟨b, hb, rfl⟩ := map_getR hx
          have hjf : j < fs.length := by rw [List.length_map] at hj; omega
          have hfx := h4 j _ b (List.getElem?_eq_getElem hjf) hb
          have htk : fs.take (j + 1) = fs.take j ++ [fs[j]] := take_snoc (List.getElem?_eq_getElem hjf)
          have hfin : ∀ z : Int, z = ((facB i fs[j] : Nat) : Int) → (upd H2 o (.lst (((fs.take j).map fun x => ((facB i x : Nat) : Int)).map V.int ++ [V.int z]))) o = some (.lst (((fs.take (j + 1)).map fun x => ((facB i x : Nat) : Int)).map V.int)) := fun z hz => by
            rw [upd_same, htk, List.map_append, List.map_append, hz]; rfl
          have hlen : (((fs.take j).map fun x => ((facB i x : Nat) : Int)).map V.int).length < sizeLine := lt_line (by rw [List.length_map, List.length_map, List.length_take]; omega)
          generalize fs[j] = y at hfx hfin
          cases y with
          | cell w =>
            have hfx : H2 b = some (.tup [.str "cell", .int (w : Int)]) := (show FacAt H b (.cell w) from hfx).tups (Tups.same s1)
            refine x_gTup2 (st_of hfx) ⟨rfl, ?_⟩
            walk_at "x"
            refine x_Eq rfl ?_
            rw [decide_eq_false (by decide)]
            walk_at "x"
            walk_at "f"
            exact ⟨_, e1, hlen, sput s1 ho, hfin _ (by show (i : Int) + (w : Int) = ((i + w : Nat) : Int); omega)⟩
          | inp w =>
            have hfx : H2 b = some (.tup [.str "input", .int (w : Int)]) := (show FacAt H b (.inp w) from hfx).tups (Tups.same s1)
            refine x_gTup2 (st_of hfx) ⟨rfl, ?_⟩
            walk_at "x"
            refine x_Eq rfl ?_
            rw [decide_eq_true rfl]
            walk_at "x"
            walk_at "t"
            exact ⟨_, e1, hlen, sput s1 ho, hfin _ rfl⟩
        · rintro x σ' H' R R' hr ⟨p, zs, e1, e2, e3, x1, r1, e4, x2, r2, e5, e6, h⟩
          exact ⟨p, zs, e1, e2, e3, x1, r1, e4, x2, r2, e5, e6, hr _ _ h⟩
        intro o H1 ho hP
        obtain ⟨s1, e1⟩ : Same H H1 ∧ H1 o = some (.lst ((fs.map fun x => ((facB i x : Nat) : Int)).map V.int)) := by
          obtain ⟨s1, e1⟩ := hP
          rw [List.length_map, h3, List.take_length] at e1
          exact ⟨s1, e1⟩
        walk_at "x"
        refine ⟨_, rfl, o, _, rfl, sq_of e1, by rw [List.length_map]; omega, fun zs p hup hmem hp => ?_⟩
        obtain ⟨cs, rfl, hcs⟩ : ∃ cs : List Nat, zs = cs.map (fun (c : Nat) => (c : Int)) ∧ ∀ x, x ∈ cs ↔ x ∈ fs.map (facB i) := by
          have h0 : ∀ z, z ∈ zs → 0 ≤ z := fun z hz => by
            obtain ⟨x, _, rfl⟩ := List.mem_map.mp ((hmem z).mp hz)
            omega
          refine ⟨zs.map Int.toNat, ?_, fun x => ?_⟩
          · rw [List.map_map]
            conv => lhs; rw [← List.map_id zs]
            exact List.map_congr_left fun z hz => by have := h0 z hz; show z = ((z.toNat : Nat) : Int); omega
          · constructor
            · intro hx
              obtain ⟨z, hz, rfl⟩ := List.mem_map.mp hx
              obtain ⟨y, hy, rfl⟩ := List.mem_map.mp ((hmem z).mp hz)
              exact List.mem_map.mpr ⟨y, hy, by simp⟩
            · intro hx
              obtain ⟨y, hy, rfl⟩ := List.mem_map.mp hx
              exact List.mem_map.mpr ⟨((facB i y : Nat) : Int), (hmem _).mpr (List.mem_map.mpr ⟨y, hy, rfl⟩), by simp⟩
        have hup2 : cs.Pairwise (· < ·) := by
          rw [List.pairwise_map] at hup
          exact hup.imp fun h => by omega
        have s2 := s1.trans (same_upd (o := .lst ((cs.map fun (c : Nat) => (c : Int)).map V.int)) hp)
        have e2 : (upd H1 p (.lst ((cs.map fun (c : Nat) => (c : Int)).map V.int))) p = some (.lst (cInts cs)) := by rw [upd_same, cInts_eq]
        generalize upd H1 p (.lst ((cs.map fun (c : Nat) => (c : Int)).map V.int)) = H2 at s2 e2
        walk_at "x"
        refine x_tupL (sq_of e2) fun u hu => ?_
        have s3 := s2.trans (same_upd (o := .tup (cInts cs)) hu)
        have e3 : (upd H2 u (.tup (cInts cs))) u = some (.tup (cInts cs)) := upd_same
        generalize upd H2 u (.tup (cInts cs)) = H3 at s3 e3
        walk_at "x"
        refine ⟨by show 2 ≤ sizeLine; decide, fun g hg => ?_⟩
        have u4 := same_upd (o := .tup [V.int ((i : Int) + (t : Int)), .ref u]) hg
        have s4 := s3.trans u4
        have e4 : GtAt (upd H3 g (.tup [V.int ((i : Int) + (t : Int)), .ref u])) g (i + t, cs) := ⟨u, by rw [upd_same]; rfl, u4 _ _ e3⟩
        generalize upd H3 g (.tup [V.int ((i : Int) + (t : Int)), .ref u]) = H4 at s4 e4
        walk_at "x"
        refine ⟨by show 1 ≤ sizeLine; decide, fun l hl => ?_⟩
        have u5 := same_upd (o := .lst [V.ref g]) hl
        exact q l [g] [(i + t, cs)] _ (s4.trans u5) (s4.free hl) upd_same (GtsAt.one (e4.same2 u5)) (.inr ⟨hk, cs, hup2, hcs, rfl⟩)
    | scale t u =>
      have h1 : H a = some (.tup [.str "scale", .int (t : Int), .int u]) := hs
      walk_at "x"
      refine x_litNo (st_of h1) (Nat.ne_of_beq_eq_false rfl) ?_
      refine x_caseNo (st_of h1) (Nat.ne_of_beq_eq_false rfl) ?_
      refine x_caseY (st_of h1) rfl ?_
      walk_at "xb"
      refine ⟨by show 0 ≤ sizeLine; decide, fun l hl => ?_⟩
      exact q rfl l [] [] _ (same_upd hl) hl upd_same ⟨rfl, fun j x b h _ => by simp at h⟩ rfl
    | swap x y =>
      have h1 : H a = some (.tup [.str "swap", .int (x : Int), .int (y : Int)]) := hs
      walk_at "x"
      refine x_litNo (st_of h1) (Nat.ne_of_beq_eq_false rfl) ?_
      refine x_caseNo (st_of h1) (Nat.ne_of_beq_eq_false rfl) ?_
      refine x_caseW (st_of h1) rfl (by decide) ?_
      refine x_caseY (st_of h1) rfl ?_
      walk_at "xb"
      refine ⟨by show 1 ≤ sizeLine; decide, fun u1 hu1 => ?_⟩
      have s1 := same_upd (o := .tup [V.int ((i : Int) + (y : Int))]) hu1
      have e1 : (upd H u1 (.tup [V.int ((i : Int) + (y : Int))])) u1 = some (.tup (cInts [i + y])) := by rw [upd_same]; rfl
      generalize upd H u1 (.tup [V.int ((i : Int) + (y : Int))]) = H1 at s1 e1
      walk_at "x"
      refine ⟨by show 2 ≤ sizeLine; decide, fun g1 hg1 => ?_⟩
      have v2 := same_upd (o := .tup [V.int ((i : Int) + (x : Int)), .ref u1]) hg1
      have e2 : GtAt (upd H1 g1 (.tup [V.int ((i : Int) + (x : Int)), .ref u1])) g1 (i + x, [i + y]) := ⟨u1, by rw [upd_same]; rfl, v2 _ _ e1⟩
      have s2 := s1.trans v2
      generalize upd H1 g1 (.tup [V.int ((i : Int) + (x : Int)), .ref u1]) = H2 at s2 e2
      walk_at "x"
      refine ⟨by show 1 ≤ sizeLine; decide, fun u3 hu3 => ?_⟩
      have v3 := same_upd (o := .tup [V.int ((i : Int) + (x : Int))]) hu3
      have e3 : (upd H2 u3 (.tup [V.int ((i : Int) + (x : Int))])) u3 = some (.tup (cInts [i + x])) := by rw [upd_same]; rfl
      have s3 := s2.trans v3
      have e2 := e2.same2 v3
      generalize upd H2 u3 (.tup [V.int ((i : Int) + (x : Int))]) = H3 at s3 e3 e2
      walk_at "x"
      refine ⟨by show 2 ≤ sizeLine; decide, fun g2 hg2 => ?_⟩
      have v4 := same_upd (o := .tup [V.int ((i : Int) + (y : Int)), .ref u3]) hg2
      have e4 : GtAt (upd H3 g2 (.tup [V.int ((i : Int) + (y : Int)), .ref u3])) g2 (i + y, [i + x]) := ⟨u3, by rw [upd_same]; rfl, v4 _ _ e3⟩
      have s4 := s3.trans v4
      have e2 := e2.same2 v4
      generalize upd H3 g2 (.tup [V.int ((i : Int) + (y : Int)), .ref u3]) = H4 at s4 e4 e2
      walk_at "x"
      refine ⟨by show 3 ≤ sizeLine; decide, fun l hl => ?_⟩
      have v5 := same_upd (o := .lst [V.ref g1, .ref g2, .ref g1]) hl
      have e2 := e2.same2 v5
      have e4 := e4.same2 v5
      refine q rfl l [g1, g2, g1] [(i + x, [i + y]), (i + y, [i + x]), (i + x, [i + y])] _ (s4.trans v5) (s4.free hl) upd_same ⟨rfl, fun j z b f1 f2 => ?_⟩ rfl
      match j, f1, f2 with
      | 0, f1, f2 => cases f1; cases f2; exact e2
      | 1, f1, f2 => cases f1; cases f2; exact e4
      | 2, f1, f2 => cases f1; cases f2; exact e2
      | j + 3, f1, _ => simp at f1
    | tab t g tb x y =>
      obtain ⟨o, h1, hT⟩ := hs
      walk_at "x"
      refine x_litNo (st_of h1) (Nat.ne_of_beq_eq_false rfl) ?_
      refine x_caseNo (st_of h1) (Nat.ne_of_beq_eq_false rfl) ?_
      refine x_caseNo (st_of h1) (Nat.ne_of_beq_eq_false rfl) ?_
      refine x_caseNo (st_of h1) (Nat.ne_of_beq_eq_false rfl) ?_
      walk_at "x"
      exact hE rfl H (Same.refl _)


def sp_gates_of (CT C : Addr) (K : PySem.W.Frag) : Sp := fun vs H Q E => ∃ (p L : Addr) (as : List Addr) (ss : List Stp) (m c i : Nat), vs = [.ref p] ∧ PrAt K C H p L as ss m c i ∧ PrOk ss m c i ∧
  (m ≠ 2 → ∀ H', Same H H' → E (.ref CT) none H') ∧
  (m = 2 → (∃ s, s ∈ ss ∧ isT s = true) → ∀ H', Same H H' → E (.ref CT) none H') ∧
  (m = 2 → (∀ s, s ∈ ss → isT s = false) → ∀ (l : Addr) (bs : List Addr) (gs : List Gt) H', Same H H' → H l = none → H' l = some (.lst (bs.map V.ref)) → GtsAt H' bs gs → GtsAll i ss gs → Q (.ref l) H')
theorem ok_gates_of (T : Txt K mg) : FnOk P w K mg base (L2.CX P w) 2 T.a_gates_of T.fd_gates_of ["program"] (sp_gates_of T.E_BadStep T.C_Program K) := by
  refine T.F_gates_of.okX sc_gates_of (fun vs H Q E h => ?_) (fun cdv A outer s H vs Q E hr h => ?_)
  · obtain ⟨p, L, as, ss, m, c, i, rfl, _⟩ := h
    rfl
  · obtain ⟨p, L, as, ss, m, c, i, rfl, hP, ok, hM, hT, q⟩ := h
    obtain ⟨dx, hp, hC⟩ := id hP.ob
    have n9 := ok.len
    refine ⟨_, (pss_cons (ps_if (pt_cmpR op_ne (pe_fld (pv 0) rfl) pe_int (nomark _))
      (pss_one (ps_raise rfl (takes_of rfl rfl rfl rfl) (pmk_own PySem.F.excBase_ValueError T.xE_BadStep T.gE_BadStep T.kE_BadStep (raises_own T.bE_BadStep T.tE_BadStep) (by exact rfl))))
      pss_nil)
      (pss_cons (ps_set (i := 1) sc_gates_of.nd rfl (.inl rfl) (pe_lst pa_nil))
      (pss_cons (ps_for (passes_of rfl) rfl (pi_list (pe_fld (pv 0) rfl)) (pg_name (i := 2) sc_gates_of.nd rfl (Or.inl rfl))
      (pss_one (ps_expr (pe_bm PySem.F.plainAttrs_list PySem.F.slot_list_extend PySem.F.type_list_extend mt_extend (pv 1) (pa_cons (pe_call (ok_gates_of_step T) hr (by rfl) T.g_gates_of_step T.F_gates_of_step.kp T.b_gates_of_step .nil (passes_call (takes_of rfl rfl rfl rfl) (fun _ _ _ _ h => h)) (pa_cons (pv 2) (pa_cons (pe_fld (pv 0) rfl) pa_nil))) pa_nil)))))
      (PSs.nox (pss_one (ps_ret (pv 1))))))), ?_⟩
    walk_at "start"
    walk_at "x"
    refine x_fldR hp hC.cl hC.m progF_m ?_
    walk_at "x"
    refine x_iteN (fun h2 => ?_) (fun h2 => ?_)
    · walk_at "x"
      exact hM (by omega) H (Same.refl _)
    have h2 : m = 2 := by omega
    have hT := hT h2
    have q := q h2
    walk_at "x"
    refine ⟨by show 0 ≤ sizeLine; decide, fun w hw => ?_⟩
    have s1 := same_upd (o := .lst []) hw
    have e1 : (upd H w (.lst [])) w = some (.lst (([] : List Addr).map V.ref)) := upd_same
    generalize upd H w (.lst []) = H1 at s1 e1
    walk_at "x"
    refine x_forL (p := L) (as.map V.ref) (fun k σ' H' => ∃ v2, (∃ bs gs, σ' = [some (.ref p), some (.ref w), v2] ∧ Same H H' ∧ H' w = some (.lst (bs.map V.ref)) ∧ GtsAt H' bs gs ∧ GtsAll i (ss.take k) gs ∧ ∀ s, s ∈ ss.take k → isT s = false)) (fun R r => by walk_at "x"; exact x_fldR (s1 _ _ hp) hC.cl hC.s progF_s r) (sq_of (s1 _ _ hP.lst)) ⟨_, [], [], rfl, s1, e1, ⟨rfl, fun j x b h _ => by simp at h⟩, .nil, fun s h => by simp at h⟩ (fun k σ' H' _ z => by obtain ⟨_, _, _, _, z, _⟩ := z; exact sq_of (z _ _ hP.lst)) ?_ ?_
    · rintro k x σ' H2 hx ⟨v2, bs, gs, rfl, s2, e2, hG, hA, hno⟩
      obtain ⟨b, hb, rfl⟩ := map_getR hx
      obtain ⟨s, hs1, hs2⟩ := hP.st.get hb
      have hmem := List.mem_of_getElem? hs1
      have hk : k < ss.length := (List.getElem?_eq_some_iff.mp hs1).1
      have hgl := hA.len
      rw [List.length_take] at hgl
      walk_at "x"
      refine x_tyL e2 ?_
      walk_at "x"
      refine x_fldR (s2 _ _ hp) hC.cl hC.i progF_i ?_
      walk_at "x"
      refine ⟨b, s, m, c, i, rfl, hs2.tups (Tups.same s2), ok.ok s hmem, fun ht H3 s3 => hT ⟨s, hmem, ht⟩ H3 (s2.trans s3), fun ht l ds hs H3 s3 hl e3 hD hO => ?_⟩
      have e2' := s3 _ _ e2
      have hl3 := hO.len
      walk_at "x"
      refine ⟨w, l, _, _, rfl, rfl, e2', e3, by rw [List.length_map, List.length_map, hG.1, hD.1]; exact Nat.le_of_lt (lt_line (by omega)), ?_⟩
      have hTp : Tups H3 (upd H3 w (.lst (bs.map V.ref ++ ds.map V.ref))) := (Tups.refl H3).put (no_tupL e2')
      refine ⟨_, bs ++ ds, gs ++ hs, rfl, sput (s2.trans s3) hw, by rw [upd_same, List.map_append], ((hG.tups (Tups.same s3)).app hD).tups hTp, by rw [take_snoc hs1]; exact .snoc hA hO, fun z hz => ?_⟩
      rw [take_snoc hs1] at hz
      rcases List.mem_append.mp hz with hz | hz
      · exact hno z hz
      · rw [List.mem_singleton.mp hz]; exact ht
    · rintro σ' H2 ⟨v2, bs, gs, rfl, s2, e2, hG, hA, hno⟩
      rw [List.length_map, hP.st.1, List.take_length] at hA hno
      walk_at "x"
      exact q hno w bs gs H2 s2 hw e2 hG hA


end
end Br
namespace Br
open PySem PySem.Spec PyProof.Rows L2
local macro_rules | `(tactic| walk_at "x1") => `(tactic| (with_reducible first
  | refine Br.x_seq ?_ | refine Br.x_set ?_ | refine Br.x_asg ?_ | refine Br.x_next ?_ | refine Br.x_ret ?_ | refine Br.x_retN ?_ | refine Br.x_drop ?_ | refine Br.x_if ?_ | refine Br.x_brk ?_ | refine Br.x_cont ?_
  | refine Br.x_c ?_ | refine Br.x_op ?_ | refine Br.x_un ?_ | refine Br.x_I0 ?_ | refine Br.x_U ?_ | refine Br.x_EqI ?_ | refine Br.x_NeI ?_ | refine Br.x_EqB ?_ | refine Br.x_iN ?_ | refine Br.x_int1 ?_ | refine Br.x_min2 ?_ | refine Br.x_max2 ?_ | refine Br.x_nN ?_ | refine Br.x_ifE ?_
  | refine Br.x_test (b := ()) ?_ | refine Br.x_tB ?_ | refine Br.x_bl ?_ | refine Br.x_and ?_ | refine Br.x_or ?_ | refine Br.x_not ?_ | refine Br.x_andV ?_ | refine Br.x_orV ?_ | refine Br.x_notV ?_ | refine Br.x_blP ?_
  | refine Br.x_nil ?_ | refine Br.x_cons ?_ | refine Br.x_call ?_ | refine Br.x_CB ?_ | refine Br.x_BM ?_ | refine Br.x_tup ?_ | refine Br.x_lst ?_ | refine Br.x_chain ?_ | refine Br.x_par ?_ | refine Br.x_gSub ?_ | refine Br.x_gName ?_ | refine Br.x_fld ?_ | refine Br.x_fldS ?_ | refine Br.x_match ?_ | refine Br.x_else ?_ | refine Br.x_noCase ?_))
local macro_rules | `(tactic| walk_at "xv") => `(tactic| ((with_reducible refine' Br.x_var ?hvar ?_); (case hvar => rfl)))
local macro_rules | `(tactic| walk_at "xd") => `(tactic| (dsimp only [List.set_cons_zero, List.set_cons_succ, List.cons_append, List.nil_append, List.append_nil]))
local macro_rules | `(tactic| walk_at "xi") => `(tactic| ((with_reducible refine Br.x_I ?hside ?_); (case hside => first | exact Br.mul_r (by decide) (by decide) | exact Br.mul_l (by decide) (by decide) | exact Br.mul_l (by omega) (by omega) | exact Br.mul_r (by omega) (by omega) | (show (0 : Int) < _; first | decide | omega) | exact ⟨by decide, by decide⟩ | exact ⟨by omega, by omega⟩ | exact ⟨by decide, by decide, by decide⟩)))
local macro_rules | `(tactic| walk_at "x") => `(tactic| (repeat (first | walk_at "x1" | walk_at "xv" | walk_at "xi" | walk_at "xd")))
local macro_rules | `(tactic| walk_at "start") => `(tactic| (simp only [L2.start, List.map_cons, List.map_nil, List.length_cons, List.length_nil, Nat.reduceAdd, Nat.reduceSub, List.replicate, List.cons_append, List.nil_append, List.append_nil]))
local macro_rules | `(tactic| walk_at "isi") => `(tactic| first
  | refine Br.x_isi (b := true) (.base (.int _)) (by decide +kernel) ?_ | refine Br.x_isi (b := false) (.base (.int _)) (by decide +kernel) ?_
  | refine Br.x_isi (b := true) (.base (.bl _)) (by decide +kernel) ?_ | refine Br.x_isi (b := false) (.base (.bl _)) (by decide +kernel) ?_
  | refine Br.x_isi (b := false) (.base .non) (by decide +kernel) ?_
  | refine Br.x_isi (b := true) (.base (.str _)) (by decide +kernel) ?_ | refine Br.x_isi (b := false) (.base (.str _)) (by decide +kernel) ?_
  | refine Br.x_isi (b := true) (.base (.tup (by assumption))) (by decide +kernel) ?_ | refine Br.x_isi (b := false) (.base (.tup (by assumption))) (by decide +kernel) ?_
  | refine Br.x_isi (b := true) (.base (.lst (by assumption))) (by decide +kernel) ?_ | refine Br.x_isi (b := false) (.base (.lst (by assumption))) (by decide +kernel) ?_)
local macro_rules | `(tactic| walk_at "f") => `(tactic| (refine L2.iteF ?_; walk_at "x"))
local macro_rules | `(tactic| walk_at "t") => `(tactic| (refine L2.iteT ?_; walk_at "x"))
local macro_rules | `(tactic| walk_at "is") => `(tactic| (walk_at "isi"; walk_at "x"))
local macro_rules | `(tactic| walk_at "xb") => `(tactic| (simp only [Br.bindS, List.set_cons_zero, List.set_cons_succ]; walk_at "x"))

section
variable {P : Program} {w : World} {K : PySem.W.Frag} {mg : Str → Option Value} {base : Heap}

theorem Eqv.bls {K : PySem.W.Frag} {H : Hp} {n : Nat} {a b : Addr} {xs : List Bool} (h1 : H a = some (.lst (Br.bls xs))) (h2 : H b = some (.lst (Br.bls xs))) (hz : xs.length ≤ 100000) : Eqv K H (n + 2) (.ref a) (.ref b) :=
  Eqv.lst h1 h2 rfl (by rw [bls_len]; exact hz) fun i x y e1 e2 => by
    rw [e1] at e2
    cases e2
    obtain ⟨z, _, rfl⟩ := List.mem_map.mp (List.mem_of_getElem? e1)
    exact .bl
theorem keep_tupsG {d n : Addr} {H H' : Hp} (k : Keep d H H') (h : Dr H d n) : ∀ b xs, H b = some (.tup xs) → H' b = some (.tup xs) := fun b xs e => by
  obtain ⟨_, _, h, _⟩ := h
  exact k _ _ e (ne_of e h (by intro z; cases z))
theorem x_lcPreY {σ : L2.St} {H : Hp} {Q : VK} {ta : TE} {j : Nat} {te : TE} {vs : List Nat} (h : ta σ H fun v H1 => tLc (iRng1 (tCons (tC v) tNil)) (gName j) tYes te vs σ H1 Q) : tLc (iRng1 (tCons ta tNil)) (gName j) tYes te vs σ H Q := h
theorem x_forPre {σ : L2.St} {H : Hp} {D : Ends} {ta : TE} {g : TG} {tb : TS} (h : ta σ H fun v H1 => tFor (iRng1 (tCons (tC v) tNil)) g tb D σ H1) : tFor (iRng1 (tCons ta tNil)) g tb D σ H := h

open Br
theorem PrAt.keepA {K : PySem.W.Frag} {C : Addr} {H H' : Hp} {d n p L : Addr} {as : List Addr} {ss : List Stp} {m c i : Nat} (h : PrAt K C H p L as ss m c i) (hL : L ≠ d) (hD : Dr H d n) (k : Keep d H H') : PrAt K C H' p L as ss m c i := by
  obtain ⟨dx, h1, h2⟩ := h.ob
  refine ⟨⟨dx, ?_, h2⟩, k _ _ h.lst hL, h.st.tups (keep_tupsA k hD)⟩
  obtain ⟨_, _, h3, _⟩ := hD
  exact k _ _ h1 (ne_of h1 h3 (by intro z; cases z))
theorem new_progA {C : Addr} {H1 : Hp} {L0 : Addr} {as : List Addr} {ss : List Stp} {m c i : Nat} {R : Addr → Hp → Prop} {E : XK} (hC : PC K C) (hl : H1 L0 = some (.lst (as.map V.ref))) (hst : StpsAt H1 as ss) (ok : PrOk ss m c i)
    (q : ∀ p L' H', H1 L' = none → Same H1 H' → PrAt K C H' p L' as ss m c i → R p H') : ∀ x dx, H1 x = none → H1 dx = none → dx ≠ x → sp_Program___init K [.ref x, .int (m : Int), .int (c : Int), .int (i : Int), .ref L0] (upd (upd H1 dx (.own x)) x (.ins C dx [])) (fun v H2 => v = .non ∧ R x H2) E :=
  new_prog (Q := fun v H => match v with | .ref a => R a H | _ => False) hC hl hst ok q

theorem GtAt.eqv2 {K : PySem.W.Frag} {H : Hp} {n : Nat} {a b : Addr} {g : Gt} (h : GtAt H a g) (h' : GtAt H b g) (hz : g.2.length ≤ 100000) : Eqv K H (n + 3) (.ref a) (.ref b) := by
  obtain ⟨c, h1, h2⟩ := h
  obtain ⟨c', h1', h2'⟩ := h'
  refine Eqv.tup h1 h1' rfl (Nat.le_of_ble_eq_true rfl) fun j x y e1 e2 => ?_
  match j, e1, e2 with
  | 0, e1, e2 => cases e1; cases e2; exact .int
  | 1, e1, e2 =>
    cases e1; cases e2
    refine Eqv.tup h2 h2' rfl (by rw [cInts_len]; exact hz) fun j x y e1 e2 => ?_
    rw [e1] at e2
    cases e2
    obtain ⟨z, _, rfl⟩ := List.mem_map.mp (List.mem_of_getElem? e1)
    exact .int
  | j + 2, e1, _ => simp at e1
theorem natsOf {zs : List Int} {ms : List Nat} (h : ∀ z, z ∈ zs ↔ z ∈ ms.map fun (c : Nat) => (c : Int)) (up : zs.Pairwise (· < ·)) : ∃ cs : List Nat, zs = cs.map (fun (c : Nat) => (c : Int)) ∧ cs.Pairwise (· < ·) ∧ ∀ x, x ∈ cs ↔ x ∈ ms := by
  have h0 : ∀ z, z ∈ zs → 0 ≤ z := fun z hz => by
    obtain ⟨x, _, rfl⟩ := List.mem_map.mp ((h z).mp hz)
    omega
  have e : zs = (zs.map Int.toNat).map (fun (c : Nat) => (c : Int)) := by
    rw [List.map_map]
    conv => lhs; rw [← List.map_id zs]
    exact List.map_congr_left fun z hz => by have := h0 z hz; show z = ((z.toNat : Nat) : Int); omega
  refine ⟨zs.map Int.toNat, e, ?_, fun x => ⟨fun hx => ?_, fun hx => ?_⟩⟩
  · rw [e, List.pairwise_map] at up
    exact up.imp fun h => by omega
  · obtain ⟨z, hz, rfl⟩ := List.mem_map.mp hx
    obtain ⟨y, hy, rfl⟩ := List.mem_map.mp ((h z).mp hz)
    simpa using hy
  · exact List.mem_map.mpr ⟨(x : Int), (h _).mpr (List.mem_map.mpr ⟨x, hx, rfl⟩), by simp⟩
/-- steps so far of a drawn list -/
def StpsJ (H0 : Hp) (m c i : Nat) (d nn o : Addr) (k : Nat) (H : Hp) : Prop := Dr H d nn ∧ Keep d H0 H ∧ o ≠ d ∧ o ≠ nn ∧ ∃ (as : List Addr) (ss : List Stp), H o = some (.lst (as.map V.ref)) ∧ StpsAt H as ss ∧ ss.length = k ∧ ∀ s, s ∈ ss → StpOk m c i s ∧ isT s = false
theorem StpsJ.add {H0 H1 H2 : Hp} {m c i k : Nat} {d nn o b : Addr} {s : Stp} (h : StpsJ H0 m c i d nn o k H1) (ho : H0 o = none) (hD : Dr H2 d nn) (hk : Keep d H1 H2) (hs : StpAt H2 b s) (ok : StpOk m c i s) (hn : isT s = false) :
    ∃ acc, H2 o = some (.lst acc) ∧ acc.length = k ∧ StpsJ H0 m c i d nn o (k + 1) (upd H2 o (.lst (acc ++ [V.ref b]))) := by
  obtain ⟨hD1, hk1, hod, hon, as, ss, hO, hS, hl, hok⟩ := h
  have hO2 := hk _ _ hO hod
  have hT : Tups H2 (upd H2 o (.lst (as.map V.ref ++ [V.ref b]))) := (Tups.refl H2).put (no_tupL hO2)
  refine ⟨_, hO2, by rw [List.length_map, hS.1, hl], hD.upd hod hon, kput (hk1.trans hk) ho, hod, hon, as ++ [b], ss ++ [s], by rw [upd_same, List.map_append]; rfl, ((hS.tups (keep_tupsA hk hD1)).tups hT).snoc (hs.tups hT), by rw [List.length_append, hl]; rfl, fun z hz => ?_⟩
  rcases List.mem_append.mp hz with h | h
  · exact hok z h
  · rw [List.mem_singleton.mp h]; exact ⟨ok, hn⟩
/-- a step of the modulus 2 is one of any modulus -/
theorem StpOk.any {m c i : Nat} {s : Stp} (m2 : 2 ≤ m) (ok : StpOk 2 c i s) (hn : isT s = false) : StpOk m c i s := by
  cases s with
  | add t u fs => obtain ⟨o1, o2, o3, o4, o5⟩ := ok; exact ⟨o1, o2, by omega, o4, o5⟩
  | scale t u =>
    obtain ⟨o1, o2, o3, o4⟩ := ok
    have hu : u = 1 := by
      rcases (show u = 0 ∨ u = 1 by omega) with rfl | h
      · exact absurd o4 (by decide)
      · exact h
    subst hu
    exact ⟨o1, by decide, by omega, Int.one_gcd⟩
  | swap a b => exact ok
  | tab => cases hn

theorem x_forPreLR {σ : L2.St} {H : Hp} {D : Ends} {ta : TE} {g : TG} {tb : TS} (h : ta σ H fun v H1 => tFor (iList K (tC v)) g tb D σ H1) : tFor (iList K ta) g tb D σ H := h
theorem inV_intR {z : Int} : ∀ {ms : List Int}, inV (.int z) (ms.map V.int) = decide (z ∈ ms)
  | [] => rfl
  | m :: ms => by
    show (eqV (.int m) (.int z) || inV (.int z) (ms.map V.int)) = decide (z ∈ m :: ms)
    rw [inV_intR (ms := ms)]
    show (decide (m = z) || decide (z ∈ ms)) = _
    by_cases e : m = z
    · subst e; simp
    · simp [e, Ne.symm e, eq_comm]
def sp_law_rising (K : PySem.W.Frag) : Sp := fun vs H Q _ => ∃ (r : Addr) (ms : List Nat), vs = [.ref r] ∧ H r = some (.lst (cInts ms)) ∧ ms.length < 60 ∧ ∀ (u : Addr) (cs : List Nat) H', Same H H' → H' u = some (.tup (cInts cs)) → cs.Pairwise (· < ·) → (∀ x, x ∈ cs ↔ x ∈ ms) → Q (.ref u) H'
theorem ok_law_rising (T : Txt K mg) : FnOk P w K mg base CX0 1 T.a_law_rising T.fd_law_rising ["row"] (sp_law_rising K) := by
  refine T.F_law_rising.ok sc_law_rising (fun vs H Q E h => ?_) (fun cdv A outer s H vs Q E hr h => ?_)
  · obtain ⟨r, ms, rfl, _⟩ := h
    rfl
  · obtain ⟨r, ms, rfl, hr0, hl, q⟩ := h
    refine ⟨_, (pss_cons (ps_set (i := 1) sc_law_rising.nd rfl (.inl rfl) (pe_lst pa_nil))
      (pss_cons (ps_for PassesOwn.never rfl (pi_list (pe_callB (id := "sorted") (r := rSorted K) cr_sorted (by rfl) T.m_sorted (by decide +kernel) (pa_cons (pv 0) pa_nil))) (pg_name (i := 2) sc_law_rising.nd rfl (Or.inl rfl))
      (pss_one (ps_if (pt_cmpR (r := rIn K true) op_notIn_seq (pv 2) (pv 1) (by with_unfolding_all rfl))
      (pss_one (ps_expr (pe_bm PySem.F.plainAttrs_list PySem.F.slot_list_append PySem.F.type_list_append mt_append (pv 1) (pa_cons (pv 2) pa_nil))))
      pss_nil)))
      (pss_one (ps_ret (pe_callTy (T := "tuple") (r := rTupOf K) cr_tup_of (by rfl) T.m_tuple (by decide +kernel) (pa_cons (pv 1) pa_nil)))))), ?_⟩
    walk_at "start"
    walk_at "x"
    refine ⟨by show 0 ≤ sizeLine; decide, fun o ho => ?_⟩
    have s1 := same_upd (o := .lst []) ho
    have e1 : (upd H o (.lst [])) o = some (.lst (([] : List Int).map V.int)) := upd_same
    generalize upd H o (.lst []) = H1 at s1 e1
    walk_at "x"
    refine x_forPreLR ?_
    walk_at "x"
    refine ⟨r, ms.map fun (c : Nat) => (c : Int), rfl, by rw [← cInts_eq]; exact sq_of (s1 _ _ hr0), by rw [List.length_map]; omega, fun ns p hperm hsort hp => ?_⟩
    have s2 := s1.trans (same_upd (o := .lst (ns.map V.int)) hp)
    have e2 := same_upd (o := .lst (ns.map V.int)) hp _ _ e1
    have ep : (upd H1 p (.lst (ns.map V.int))) p = some (.lst (ns.map V.int)) := upd_same
    have hop : o ≠ p := ne_of_none e1 hp
    have nl : ns.length = ms.length := by rw [hperm.length_eq, List.length_map]
    generalize upd H1 p (.lst (ns.map V.int)) = H2 at s2 e2 ep
    walk_at "x"
    refine x_forL (p := p) (ns.map V.int) (fun k σ' H' => ∃ v2, (∃ zs : List Int, σ' = [some (.ref r), some (.ref o), v2] ∧ Same H H' ∧ H' p = some (.lst (ns.map V.int)) ∧ H' o = some (.lst (zs.map V.int)) ∧ zs.Pairwise (· < ·) ∧ zs.length ≤ k ∧ ∀ x, x ∈ zs ↔ x ∈ ns.take k)) (fun R r => r) (sq_of ep) ⟨_, [], rfl, s2, ep, e2, .nil, Nat.le_refl _, fun x => by simp⟩ (fun k σ' H' _ z => by obtain ⟨_, _, _, _, z, _⟩ := z; exact sq_of z) ?_ ?_
    · rintro k x σ' H3 hx ⟨v2, zs, rfl, s3, e3p, e3, hup, hzl, hmem⟩
      obtain ⟨z, hz, rfl⟩ := map_get hx
      have htk : ns.take (k + 1) = ns.take k ++ [z] := take_snoc hz
      have hkn : k < ns.length := (List.getElem?_eq_some_iff.mp hz).1
      have hle : ∀ y, y ∈ ns.take k → y ≤ z := fun y hy => by
        obtain ⟨j, hj⟩ := List.mem_iff_getElem?.mp hy
        rw [List.getElem?_take] at hj
        by_cases hjk : j < k
        · rw [if_pos hjk] at hj
          have h1 := (List.getElem?_eq_some_iff.mp hj)
          have h2 := (List.getElem?_eq_some_iff.mp hz)
          have := List.pairwise_iff_getElem.mp hsort j k h1.1 h2.1 hjk
          rw [h1.2, h2.2] at this
          exact this
        · rw [if_neg hjk] at hj; cases hj
      walk_at "x"
      refine ⟨o, zs.map V.int, rfl, .inl (sq_of e3), rfl, by rw [List.all_eq_true]; intro y hy; obtain ⟨w, _, rfl⟩ := List.mem_map.mp hy; rfl, ?_⟩
      rw [if_pos rfl, inV_intR]
      walk_at "x"
      refine x_iteN (fun hin => ?_) (fun hin => ?_)
      · walk_at "x"
        refine x_tyL e3 ?_
        walk_at "x"
        refine x_app e3 (by rw [List.length_map]; omega) ?_
        walk_at "x"
        refine ⟨_, zs ++ [z], rfl, sput s3 ho, by rw [upd_ne hop.symm]; exact e3p, by rw [upd_same, List.map_append]; rfl, ?_, by rw [List.length_append]; show _ + 1 ≤ _; omega, fun y => ?_⟩
        · rw [List.pairwise_append]
          refine ⟨hup, List.pairwise_singleton _ _, fun y hy w hw => ?_⟩
          rw [List.mem_singleton.mp hw]
          have h1 := hle y ((hmem y).mp hy)
          have h2 : y ≠ z := fun e => hin (by rw [← e]; exact hy)
          omega
        · rw [htk, List.mem_append, List.mem_append, hmem]
      · walk_at "x"
        refine ⟨_, zs, rfl, s3, e3p, e3, hup, by omega, fun y => ?_⟩
        rw [htk, List.mem_append, hmem, List.mem_singleton]
        exact ⟨.inl, fun h => h.elim id fun e => by rw [e]; exact (hmem z).mp hin⟩
    · rintro σ' H3 ⟨v2, zs, rfl, s3, e3p, e3, hup, hzl, hmem⟩
      rw [List.length_map, List.take_length] at hmem
      obtain ⟨cs, rfl, hcu, hcm⟩ := natsOf (ms := ms) (fun z => (hmem z).trans hperm.mem_iff) hup
      walk_at "x"
      refine x_tupL (sq_of e3) fun u hu => ?_
      exact q u cs _ (s3.trans (same_upd hu)) (by rw [upd_same, ← cInts_eq]) hcu hcm


def sp_law_gates (K : PySem.W.Frag) : Sp := fun vs H Q _ => ∃ (a : Addr) (s : Stp) (c i : Nat), vs = [.ref a, .int (i : Int)] ∧ StpAt H a s ∧ StpOk 2 c i s ∧ isT s = false ∧
  ∀ (l : Addr) (bs : List Addr) (gs : List Gt) H', Same H H' → H' l = some (.lst (bs.map V.ref)) → GtsAt H' bs gs → GtsOf i s gs → Q (.ref l) H'
theorem ok_law_gates (T : Txt K mg) : FnOk P w K mg base CX0 2 T.a_law_gates T.fd_law_gates ["step", "inputs"] (sp_law_gates K) := by
  refine T.F_law_gates.ok sc_law_gates (fun vs H Q E h => ?_) (fun cdv A outer s H vs Q E hr h => ?_)
  · obtain ⟨a, s, c, i, rfl, _⟩ := h
    rfl
  · obtain ⟨a, s, c, i, rfl, hs, ok, nt, q⟩ := h
    refine ⟨_, (pss_cons (ps_if (PW.pt (pw_and (pt_cmpR op_eq (pe_ix (r := rIxT K) ix_tup (pv 0) pe_int (fun _ _ => rfl)) pe_str (nomark _)) (pw_and1 (pt_cmpR op_eq (pe_ix (r := rIxT K) ix_tup (pv 0) pe_int (fun _ _ => rfl)) pe_int (nomark _)))))
      (pss_cons (ps_set (i := 2) sc_law_gates.nd rfl (.inl rfl) (pe_lst pa_nil))
      (pss_cons (ps_for PassesOwn.never rfl (pi_tup (pe_ix (r := rIxT K) ix_tup (pv 0) pe_int (fun _ _ => rfl))) (pg_tup rfl (pgs_cons (pg_name (i := 3) sc_law_gates.nd rfl (Or.inl rfl)) (pgs_cons (pg_name (i := 4) sc_law_gates.nd rfl (Or.inl rfl)) pgs_nil)))
      (pss_one (ps_if (pt_cmpR op_eq (pv 3) pe_str (nomark _))
      (pss_one (ps_expr (pe_bm PySem.F.plainAttrs_list PySem.F.slot_list_append PySem.F.type_list_append mt_append (pv 2) (pa_cons (pe_op op_add (pv 1) (pv 4)) pa_nil))))
      (pss_one (ps_expr (pe_bm PySem.F.plainAttrs_list PySem.F.slot_list_append PySem.F.type_list_append mt_append (pv 2) (pa_cons (pv 4) pa_nil)))))))
      (pss_one (ps_ret (pe_lst (pa_cons (pe_tup (pa_cons (pe_op op_add (pv 1) (pe_ix (r := rIxT K) ix_tup (pv 0) pe_int (fun _ _ => rfl))) (pa_cons (pe_call (ok_law_rising T) hr (by rfl) T.g_law_rising T.F_law_rising.kp T.b_law_rising .nil pass0 (pa_cons (pv 2) pa_nil)) pa_nil))) pa_nil))))))
      pss_nil)
      (pss_cons (ps_if (pt_cmpR op_eq (pe_ix (r := rIxT K) ix_tup (pv 0) pe_int (fun _ _ => rfl)) pe_str (nomark _))
      (pss_cons (ps_set (i := 5) sc_law_gates.nd rfl (.inl rfl) (pe_op op_add (pv 1) (pe_ix (r := rIxT K) ix_tup (pv 0) pe_int (fun _ _ => rfl))))
      (pss_cons (ps_set (i := 6) sc_law_gates.nd rfl (.inl rfl) (pe_op op_add (pv 1) (pe_ix (r := rIxT K) ix_tup (pv 0) pe_int (fun _ _ => rfl))))
      (pss_one (ps_ret (pe_lst (pa_cons (pe_tup (pa_cons (pv 5) (pa_cons (pe_tup (pa_cons (pv 6) pa_nil)) pa_nil))) (pa_cons (pe_tup (pa_cons (pv 6) (pa_cons (pe_tup (pa_cons (pv 5) pa_nil)) pa_nil))) (pa_cons (pe_tup (pa_cons (pv 5) (pa_cons (pe_tup (pa_cons (pv 6) pa_nil)) pa_nil))) pa_nil))))))))
      pss_nil)
      (pss_one (ps_ret (pe_lst pa_nil))))), ?_⟩
    walk_at "start"
    have none_ : ∀ (w : Str) (ys : List V) (σ : L2.St), w ≠ "swap" → True := fun _ _ _ _ => trivial
    clear none_
    cases s with
    | add t k fs =>
      obtain ⟨f, as, h1, h2, h3, h4⟩ := hs
      obtain ⟨o1, o2, o3, o4, o5⟩ := ok
      walk_at "x"
      refine x_ixT (v := .str "add") (st_of h1) (atI_nat (j := 0) rfl) ?_
      walk_at "x"
      refine x_Eq rfl ?_
      walk_at "x"
      rw [decide_eq_true rfl]
      walk_at "t"
      refine x_ixT (v := .int k) (st_of h1) (atI_nat (j := 2) rfl) ?_
      walk_at "x"
      refine x_ite (fun hk => ?_) (fun hk => ?_)
      · walk_at "x"
        refine ⟨by show 0 ≤ sizeLine; decide, fun o ho => ?_⟩
        have s1 := same_upd (o := .lst []) ho
        have e1 : (upd H o (.lst [])) o = some (.lst (cInts [])) := upd_same
        generalize upd H o (.lst []) = H1 at s1 e1
        walk_at "x"
        refine x_forI (J := Itt K f) (n := (as.map V.ref).length) (G := fun H => SqT K H f (as.map V.ref)) (fun R r => by unfold iTup; walk_at "x"; exact x_ixT (v := .ref f) (st_of (s1 _ _ h1)) (atI_nat (j := 3) rfl) ⟨f, rfl, ⟨_, st_of (s1 _ _ h2)⟩, r⟩) walk_tup (fun j σ' H' => ∃ v3 v4 v5 v6, σ' = [some (.ref a), some (.int (i : Int)), some (.ref o), v3, v4, v5, v6] ∧ Same H H' ∧ H' o = some (.lst (cInts ((fs.take j).map (facB i))))) ⟨_, _, _, _, rfl, s1, e1⟩ (fun k σ' H' _ z => by obtain ⟨_, _, _, _, _, z, _⟩ := z; exact st_of (z _ _ h2)) ?_ ?_
        · rintro j x σ' H2 H3 hj ⟨v3, v4, v5, v6, rfl, s2, e2⟩ ⟨rfl, hx⟩
          obtain ⟨b, hb, rfl⟩ := map_getR hx
          have hjf : j < fs.length := by rw [List.length_map] at hj; omega
          have hfx := h4 j _ b (List.getElem?_eq_getElem hjf) hb
          have htk : fs.take (j + 1) = fs.take j ++ [fs[j]] := take_snoc (List.getElem?_eq_getElem hjf)
          have hfin : ∀ z : Int, z = ((facB i fs[j] : Nat) : Int) → (upd H3 o (.lst (cInts ((fs.take j).map (facB i)) ++ [V.int z]))) o = some (.lst (cInts ((fs.take (j + 1)).map (facB i)))) := fun z hz => by
            rw [upd_same, htk, List.map_append, hz, cInts_snoc]; rfl
          have hlen : (cInts ((fs.take j).map (facB i))).length < 1000000 := by rw [cInts_len, List.length_map, List.length_take]; omega
          generalize fs[j] = y at hfx hfin
          cases y with
          | cell w =>
            have hfx : H3 b = some (.tup [.str "cell", .int (w : Int)]) := (show FacAt H b (.cell w) from hfx).tups (Tups.same s2)
            refine x_gTup2 (st_of hfx) ?_
            walk_at "x"
            refine x_Eq rfl ?_
            walk_at "x"
            rw [decide_eq_true rfl]
            walk_at "t"
            refine x_tyL e2 ?_
            walk_at "x"
            refine x_app e2 hlen ?_
            walk_at "x"
            exact ⟨_, _, _, _, rfl, sput s2 ho, hfin _ (by show (i : Int) + (w : Int) = ((i + w : Nat) : Int); omega)⟩
          | inp w =>
            have hfx : H3 b = some (.tup [.str "input", .int (w : Int)]) := (show FacAt H b (.inp w) from hfx).tups (Tups.same s2)
            refine x_gTup2 (st_of hfx) ?_
            walk_at "x"
            refine x_Eq rfl ?_
            walk_at "x"
            rw [decide_eq_false (by decide)]
            walk_at "f"
            refine x_tyL e2 ?_
            walk_at "x"
            refine x_app e2 hlen ?_
            walk_at "x"
            exact ⟨_, _, _, _, rfl, sput s2 ho, hfin _ rfl⟩
        · rintro σ' H2 ⟨v3, v4, v5, v6, rfl, s2, e2⟩
          rw [List.length_map, h3, List.take_length] at e2
          walk_at "x"
          refine x_ixT (v := .int (t : Int)) (st_of (s2 _ _ h1)) (atI_nat (j := 1) rfl) ?_
          walk_at "x"
          refine ⟨o, fs.map (facB i), rfl, e2, by rw [List.length_map]; omega, fun u cs H3 s3 hu hcu hcm => ?_⟩
          walk_at "x"
          refine ⟨by show 2 ≤ sizeLine; decide, fun g hg => ?_⟩
          have u4 := same_upd (o := .tup [V.int ((i : Int) + (t : Int)), .ref u]) hg
          have e4 : GtAt (upd H3 g (.tup [V.int ((i : Int) + (t : Int)), .ref u])) g (i + t, cs) := ⟨u, by rw [upd_same]; rfl, u4 _ _ hu⟩
          have s4 := (s2.trans s3).trans u4
          generalize upd H3 g (.tup [V.int ((i : Int) + (t : Int)), .ref u]) = H4 at s4 e4
          walk_at "x"
          refine ⟨by show 1 ≤ sizeLine; decide, fun l hl => ?_⟩
          have u5 := same_upd (o := .lst [V.ref g]) hl
          exact q l [g] [(i + t, cs)] _ (s4.trans u5) upd_same (GtsAt.one (e4.same2 u5)) (.inr ⟨by omega, cs, hcu, hcm, rfl⟩)
      · walk_at "x"
        refine x_ixT (v := .str "add") (st_of h1) (atI_nat (j := 0) rfl) ?_
        walk_at "x"
        refine x_Eq rfl ?_
        walk_at "x"
        rw [decide_eq_false (by decide)]
        walk_at "f"
        refine ⟨by show 0 ≤ sizeLine; decide, fun l hl => ?_⟩
        exact q l [] [] _ (same_upd hl) upd_same ⟨rfl, fun j x b h _ => by simp at h⟩ (.inl ⟨by omega, rfl⟩)
    | scale t u =>
      have h1 : H a = some (.tup [.str "scale", .int (t : Int), .int u]) := hs
      walk_at "x"
      refine x_ixT (v := .str "scale") (st_of h1) (atI_nat (j := 0) rfl) ?_
      walk_at "x"
      refine x_Eq rfl ?_
      walk_at "x"
      rw [decide_eq_false (by decide)]
      walk_at "f"
      walk_at "f"
      refine x_ixT (v := .str "scale") (st_of h1) (atI_nat (j := 0) rfl) ?_
      walk_at "x"
      refine x_Eq rfl ?_
      walk_at "x"
      rw [decide_eq_false (by decide)]
      walk_at "f"
      refine ⟨by show 0 ≤ sizeLine; decide, fun l hl => ?_⟩
      exact q l [] [] _ (same_upd hl) upd_same ⟨rfl, fun j x b h _ => by simp at h⟩ rfl
    | swap x y =>
      have h1 : H a = some (.tup [.str "swap", .int (x : Int), .int (y : Int)]) := hs
      walk_at "x"
      refine x_ixT (v := .str "swap") (st_of h1) (atI_nat (j := 0) rfl) ?_
      walk_at "x"
      refine x_Eq rfl ?_
      walk_at "x"
      rw [decide_eq_false (by decide)]
      walk_at "f"
      walk_at "f"
      refine x_ixT (v := .str "swap") (st_of h1) (atI_nat (j := 0) rfl) ?_
      walk_at "x"
      refine x_Eq rfl ?_
      walk_at "x"
      rw [decide_eq_true rfl]
      walk_at "t"
      refine x_ixT (v := .int (x : Int)) (st_of h1) (atI_nat (j := 1) rfl) ?_
      walk_at "x"
      refine x_ixT (v := .int (y : Int)) (st_of h1) (atI_nat (j := 2) rfl) ?_
      walk_at "x"
      refine ⟨by show 1 ≤ sizeLine; decide, fun u1 hu1 => ?_⟩
      have s1 := same_upd (o := .tup [V.int ((i : Int) + (y : Int))]) hu1
      have e1 : (upd H u1 (.tup [V.int ((i : Int) + (y : Int))])) u1 = some (.tup (cInts [i + y])) := by rw [upd_same]; rfl
      generalize upd H u1 (.tup [V.int ((i : Int) + (y : Int))]) = H1 at s1 e1
      walk_at "x"
      refine ⟨by show 2 ≤ sizeLine; decide, fun g1 hg1 => ?_⟩
      have v2 := same_upd (o := .tup [V.int ((i : Int) + (x : Int)), .ref u1]) hg1
      have e2 : GtAt (upd H1 g1 (.tup [V.int ((i : Int) + (x : Int)), .ref u1])) g1 (i + x, [i + y]) := ⟨u1, by rw [upd_same]; rfl, v2 _ _ e1⟩
      have s2 := s1.trans v2
      generalize upd H1 g1 (.tup [V.int ((i : Int) + (x : Int)), .ref u1]) = H2 at s2 e2
      walk_at "x"
      refine ⟨by show 1 ≤ sizeLine; decide, fun u3 hu3 => ?_⟩
      have v3 := same_upd (o := .tup [V.int ((i : Int) + (x : Int))]) hu3
      have e3 : (upd H2 u3 (.tup [V.int ((i : Int) + (x : Int))])) u3 = some (.tup (cInts [i + x])) := by rw [upd_same]; rfl
      have s3 := s2.trans v3
      have e2 := e2.same2 v3
      generalize upd H2 u3 (.tup [V.int ((i : Int) + (x : Int))]) = H3 at s3 e3 e2
      walk_at "x"
      refine ⟨by show 2 ≤ sizeLine; decide, fun g2 hg2 => ?_⟩
      have v4 := same_upd (o := .tup [V.int ((i : Int) + (y : Int)), .ref u3]) hg2
      have e4 : GtAt (upd H3 g2 (.tup [V.int ((i : Int) + (y : Int)), .ref u3])) g2 (i + y, [i + x]) := ⟨u3, by rw [upd_same]; rfl, v4 _ _ e3⟩
      have s4 := s3.trans v4
      have e2 := e2.same2 v4
      generalize upd H3 g2 (.tup [V.int ((i : Int) + (y : Int)), .ref u3]) = H4 at s4 e4 e2
      walk_at "x"
      refine ⟨by show 1 ≤ sizeLine; decide, fun u5 hu5 => ?_⟩
      have v5 := same_upd (o := .tup [V.int ((i : Int) + (y : Int))]) hu5
      have e5 : (upd H4 u5 (.tup [V.int ((i : Int) + (y : Int))])) u5 = some (.tup (cInts [i + y])) := by rw [upd_same]; rfl
      have s5 := s4.trans v5
      have e2 := e2.same2 v5
      have e4 := e4.same2 v5
      generalize upd H4 u5 (.tup [V.int ((i : Int) + (y : Int))]) = H5 at s5 e5 e2 e4
      walk_at "x"
      refine ⟨by show 2 ≤ sizeLine; decide, fun g3 hg3 => ?_⟩
      have v6 := same_upd (o := .tup [V.int ((i : Int) + (x : Int)), .ref u5]) hg3
      have e6 : GtAt (upd H5 g3 (.tup [V.int ((i : Int) + (x : Int)), .ref u5])) g3 (i + x, [i + y]) := ⟨u5, by rw [upd_same]; rfl, v6 _ _ e5⟩
      have s6 := s5.trans v6
      have e2 := e2.same2 v6
      have e4 := e4.same2 v6
      generalize upd H5 g3 (.tup [V.int ((i : Int) + (x : Int)), .ref u5]) = H6 at s6 e6 e2 e4
      walk_at "x"
      refine ⟨by show 3 ≤ sizeLine; decide, fun l hl => ?_⟩
      have v7 := same_upd (o := .lst [V.ref g1, .ref g2, .ref g3]) hl
      have e2 := e2.same2 v7
      have e4 := e4.same2 v7
      have e6 := e6.same2 v7
      refine q l [g1, g2, g3] [(i + x, [i + y]), (i + y, [i + x]), (i + x, [i + y])] _ (s6.trans v7) upd_same ⟨rfl, fun j z b f1 f2 => ?_⟩ rfl
      match j, f1, f2 with
      | 0, f1, f2 => cases f1; cases f2; exact e2
      | 1, f1, f2 => cases f1; cases f2; exact e4
      | 2, f1, f2 => cases f1; cases f2; exact e6
      | j + 3, f1, _ => simp at f1
    | tab t g tb x y => cases nt


theorem kit2r {K : PySem.W.Frag} {t a b : Value} (h1 : PySem.W.kitOne K t a = some false) (h2 : PySem.W.kitOne K t b = some false) : PySem.W.kitAny K t [a, b] = some false :=
  kitAny_cons h1 (fun _ => kitAny_cons h2 (fun _ => kitAny_nil) (fun z => nomatch z)) (fun z => nomatch z)
def sp_law_refused (C : Addr) (K : PySem.W.Frag) : Sp := fun vs H Q _ => ∃ (p L : Addr) (as : List Addr) (ss : List Stp) (m c i : Nat), vs = [.ref p] ∧ PrAt K C H p L as ss m c i ∧ PrOk ss m c i ∧ (m ≠ 2 ∨ ∃ s, s ∈ ss ∧ isT s = true) ∧ ∀ H', Same H H' → Q (.bl true) H'
theorem ok_law_refused (T : Txt K mg) : FnOk P w K mg base CX0 3 T.a_law_refused T.fd_law_refused ["program"] (sp_law_refused T.C_Program K) := by
  refine T.F_law_refused.ok sc_law_refused (fun vs H Q E h => ?_) (fun cdv A outer s H vs Q E hr h => ?_)
  · obtain ⟨p, L, as, ss, m, c, i, rfl, _⟩ := h
    rfl
  · obtain ⟨p, L, as, ss, m, c, i, rfl, hP, ok, hb, q⟩ := h
    refine ⟨_, (pss_cons (ps_try_as (i := 1) rfl rfl sc_law_refused.nd rfl rfl ⟨rfl, by decide, .inl T.gE_BadStep⟩ takes0 (fun W pn xe tk _ => (pss_one (ps_expr (pe_callS (sp := sp_gates_of T.E_BadStep T.C_Program K) (E := WE W) (ok_gates_of T) hr (by rfl) T.g_gates_of T.F_gates_of.kp T.b_gates_of (fun σ => passAt tk σ) (pa_cons (pv 0) pa_nil)))))
      (fun a oe cls d pn hz hf => (pss_one (ps_ret (pe_and (pe_callB (id := "isinstance") (r := rIsEQ K a cls d) (call_isEQ rfl hz hf) (by rfl) T.m_isinstance (by decide +kernel) (pa_cons (pv 1) (pa_cons (pe_glob (v := .ref T.E_BrimfulError) (by rfl) T.gE_BrimfulError rfl) pa_nil))) (pe_one (pe_not (pe_callB (id := "isinstance") (r := rIsEQT K a cls d) (call_isEQT rfl hz hf) (by rfl) T.m_isinstance (by decide +kernel) (pa_cons (pv 1) (pa_cons (pe_tup (pa_cons (pe_glob (v := .ref T.E_BadGate) (by rfl) T.gE_BadGate rfl) (pa_cons (pe_glob (v := .ref T.E_BadMemory) (by rfl) T.gE_BadMemory rfl) pa_nil))) pa_nil))))))))))
      (pss_one (ps_ret pe_bl))), ?_⟩
    walk_at "start"
    walk_at "x"
    refine x_callS ?_
    walk_at "x"
    have caught : ∀ H', Same H H' → True := fun _ _ => trivial
    clear caught
    refine ⟨p, L, as, ss, m, c, i, rfl, hP, ok, fun hm H' s' => ?_, fun hm ht H' s' => ?_, fun hm hn l bs gs H' _ _ _ _ _ => ?_⟩
    · refine ⟨true, PySem.W.exm_ref T.bE_BadStep T.dE_BadStep T.tE_BadStep T.sE_BadStep_BadStep, (fun _ a ha => ?_), (fun z => nomatch z)⟩
      walk_at "x"
      refine ⟨_, _, true, rfl, rfl, T.cE_BadStep, rfl, kit_ref T.dE_BrimfulError T.tE_BrimfulError T.sE_BadStep_BrimfulError T.sE_BrimfulError_BrimfulError, ?_⟩
      walk_at "x"
      walk_at "t"
      refine ⟨by show 2 ≤ sizeLine; decide, fun r hr => ?_⟩
      walk_at "x"
      refine ⟨_, r, _, _, false, rfl, rfl, T.cE_BadStep, rfl, upd_same, .cons (.own _) (.cons (.own _) .nil), kit2r (kit_ref T.dE_BadGate T.tE_BadGate T.sE_BadStep_BadGate T.sE_BadGate_BadGate) (kit_ref T.dE_BadMemory T.tE_BadMemory T.sE_BadStep_BadMemory T.sE_BadMemory_BadMemory), ?_⟩
      walk_at "x"
      exact q _ (s'.trans (same_upd hr))
    · refine ⟨true, PySem.W.exm_ref T.bE_BadStep T.dE_BadStep T.tE_BadStep T.sE_BadStep_BadStep, (fun _ a ha => ?_), (fun z => nomatch z)⟩
      walk_at "x"
      refine ⟨_, _, true, rfl, rfl, T.cE_BadStep, rfl, kit_ref T.dE_BrimfulError T.tE_BrimfulError T.sE_BadStep_BrimfulError T.sE_BrimfulError_BrimfulError, ?_⟩
      walk_at "x"
      walk_at "t"
      refine ⟨by show 2 ≤ sizeLine; decide, fun r hr => ?_⟩
      walk_at "x"
      refine ⟨_, r, _, _, false, rfl, rfl, T.cE_BadStep, rfl, upd_same, .cons (.own _) (.cons (.own _) .nil), kit2r (kit_ref T.dE_BadGate T.tE_BadGate T.sE_BadStep_BadGate T.sE_BadGate_BadGate) (kit_ref T.dE_BadMemory T.tE_BadMemory T.sE_BadStep_BadMemory T.sE_BadMemory_BadMemory), ?_⟩
      walk_at "x"
      exact q _ (s'.trans (same_upd hr))
    · exfalso
      rcases hb with hb | ⟨s, hs, ht⟩
      · exact hb hm
      · rw [hn s hs] at ht; cases ht

theorem p2prime : Br.F.IsPrime 2 := Br.F.p2
def oneTab : List (List Int) := [[1]]
theorem oneTab_ok : IsTab 2 oneTab := ⟨by decide, by decide, fun i r e => by
  match i, e with
  | 0, e => cases e; exact ⟨rfl, fun z hz => by rw [List.mem_singleton.mp hz]; exact ⟨by decide, by decide⟩⟩
  | i + 1, e => simp [oneTab] at e⟩
theorem stpsTake {H : Hp} {as : List Addr} {ss : List Stp} (h : StpsAt H as ss) (n : Nat) : StpsAt H (as.take n) (ss.take n) :=
  ⟨by rw [List.length_take, List.length_take, h.1], fun i x b e1 e2 => by
    rw [List.getElem?_take] at e1 e2
    by_cases hi : i < n
    · rw [if_pos hi] at e1 e2
      exact h.2 _ x b e1 e2
    · rw [if_neg hi] at e1
      cases e1⟩
theorem StpsAt.drop {H : Hp} {as : List Addr} {ss : List Stp} (h : StpsAt H as ss) (n : Nat) : StpsAt H (as.drop n) (ss.drop n) :=
  ⟨by rw [List.length_drop, List.length_drop, h.1], fun i x b e1 e2 => by
    rw [List.getElem?_drop] at e1 e2
    exact h.2 _ x b e1 e2⟩
theorem stpsApp {H : Hp} {as bs : List Addr} {ts us : List Stp} (h : StpsAt H as ts) (g : StpsAt H bs us) : StpsAt H (as ++ bs) (ts ++ us) := by
  refine ⟨by rw [List.length_append, List.length_append, h.1, g.1], fun i x b e1 e2 => ?_⟩
  by_cases hi : i < ts.length
  · rw [List.getElem?_append_left hi] at e1
    rw [List.getElem?_append_left (by have := h.1; omega)] at e2
    exact h.2 i x b e1 e2
  · rw [List.getElem?_append_right (by omega)] at e1
    rw [List.getElem?_append_right (by have := h.1; omega), h.1] at e2
    exact g.2 _ x b e1 e2
theorem cut_drop {xs : List V} {n : Nat} : cutV xs (some (n : Int)) none = xs.drop n := by
  unfold cutV
  rw [HT.sIx_nat]
  show (xs.drop (min n xs.length)).take (xs.length - min n xs.length) = xs.drop n
  by_cases h : n ≤ xs.length
  · rw [Nat.min_eq_left h, List.take_of_length_le (by rw [List.length_drop]; omega)]
  · rw [Nat.min_eq_right (by omega), List.drop_length, List.drop_of_length_le (by omega), List.take_nil]
theorem GtsAt.eqv3 {K : PySem.W.Frag} {H : Hp} {n m : Nat} {a b : Addr} {as bs : List Addr} {gs : List Gt} (h : GtsAt H as gs) (h' : GtsAt H bs gs) (ok : ∀ g, g ∈ gs → GtOk m g) (m9 : m ≤ 1000) (g9 : gs.length ≤ 1000) (h1 : H a = some (.lst (as.map V.ref))) (h2 : H b = some (.lst (bs.map V.ref))) : Eqv K H (n + 4) (.ref a) (.ref b) := by
  refine Eqv.lst h1 h2 (by rw [List.length_map, List.length_map, h.1, h'.1]) (by rw [List.length_map, h'.1]; omega) fun i x y e1 e2 => ?_
  obtain ⟨x, hx, rfl⟩ := map_getR e1
  obtain ⟨y, hy, rfl⟩ := map_getR e2
  obtain ⟨g, hg, hat⟩ := h.get hx
  obtain ⟨g2, hg2, hat2⟩ := h'.get hy
  rw [hg] at hg2
  cases hg2
  exact hat.eqv2 hat2 (by have := (ok g (List.mem_of_getElem? hg)).len; omega)
theorem menu34 {w : Int} {v : V} (w0 : 0 ≤ w) (w1 : w < 1000000) (h : v ∈ [V.int 3, .int 4, .int 97, .int 1000000000, .int (3 + w)]) : ∃ m : Nat, v = .int (m : Int) ∧ 3 ≤ m ∧ m ≤ 1000000000 := by
  have e : v = .int 3 ∨ v = .int 4 ∨ v = .int 97 ∨ v = .int 1000000000 ∨ v = .int (3 + w) := by simpa using h
  rcases e with rfl | rfl | rfl | rfl | rfl
  · exact ⟨3, rfl, by decide, by decide⟩
  · exact ⟨4, rfl, by decide, by decide⟩
  · exact ⟨97, rfl, by decide, by decide⟩
  · exact ⟨1000000000, rfl, by decide, by decide⟩
  · exact ⟨(3 + w).toNat, by rw [show (((3 + w).toNat : Nat) : Int) = 3 + w by omega], by omega, by omega⟩

def sp_law (K : PySem.W.Frag) : Sp := fun vs H Q _ => ∃ (a : Addr) (ns : List Int), vs = [.ref a] ∧ SqL K H a (ns.map V.int) ∧ ns.length ≤ 63 ∧ ∀ H', Q (.bl true) H'
theorem ok_law (T : Txt K mg) : FnOk P w K mg base CX0 12 T.a_law T.fd_law ["script"] (sp_law K) := by
  refine T.F_law.ok sc_law (fun vs H Q E h => ?_) (fun cdv A outer s H vs Q E hr h => ?_)
  · obtain ⟨a, ns, rfl, _⟩ := h
    rfl
  · obtain ⟨a, ns, rfl, hS, hl, q⟩ := h
    have hC : PC K T.C_Program := ⟨T.cl_Program, T.na_Program_modulus, T.na_Program_cells, T.na_Program_inputs, T.na_Program_steps⟩
    refine ⟨_, (pss_cons (ps_set (i := 1) sc_law.nd rfl (.inr rfl) (pe_lst (pa_cons (pe_call (ok_law_numbers T) (hr.mono (by decide)) (by rfl) T.g_law_numbers T.F_law_numbers.kp T.b_law_numbers .nil pass0 (pa_cons (pv 0) pa_nil)) (pa_cons pe_int pa_nil))))
      (pss_cons (ps_set (i := 2) sc_law.nd rfl (.inr rfl) (pe_op op_add pe_int (pe_op op_mod (pe_call (ok_law_draw T) (hr.mono (by decide)) (by rfl) T.g_law_draw T.F_law_draw.kp T.b_law_draw .nil pass0 (pa_cons (pv 1) pa_nil)) pe_int)))
      (pss_cons (ps_set (i := 3) sc_law.nd rfl (.inr rfl) (pe_op op_mod (pe_call (ok_law_draw T) (hr.mono (by decide)) (by rfl) T.g_law_draw T.F_law_draw.kp T.b_law_draw .nil pass0 (pa_cons (pv 1) pa_nil)) pe_int))
      (Evl.pss_cut (ps_if (pt_cmpR op_eq (pe_op op_mod (pe_call (ok_law_draw T) (hr.mono (by decide)) (by rfl) T.g_law_draw T.F_law_draw.kp T.b_law_draw .nil pass0 (pa_cons (pv 1) pa_nil)) pe_int) pe_int (nomark _))
      (pss_cons (ps_set (i := 2) sc_law.nd rfl (.inr rfl) (pe_op op_add pe_int (pe_op op_mod (pe_call (ok_law_draw T) (hr.mono (by decide)) (by rfl) T.g_law_draw T.F_law_draw.kp T.b_law_draw .nil pass0 (pa_cons (pv 1) pa_nil)) pe_int)))
      (pss_one (ps_set (i := 3) sc_law.nd rfl (.inr rfl) pe_int)))
      pss_nil)
      (pss_cons (ps_setLc (i := 4) (own := [("k", 12)]) (g := gName 12) (tt := tYes) rfl sc_law.nd rfl rfl (sw_true rfl rfl rfl (by decide +kernel)) (pi_range1 (by rfl) T.m_range (pa_cons (pe_op op_mod (pe_call (ok_law_draw T) (hr.mono (by decide)) (by rfl) T.g_law_draw T.F_law_draw.kp T.b_law_draw .nil pass0 (pa_cons (pv 1) pa_nil)) pe_int) pa_nil)) (blkOk_by (N := N_law) (sc := defScope s_law) (by decide +kernel)) (fun _ _ _ _ _ => (pg_name (i := 12) sc_law.nd rfl (Or.inl rfl))) (fun _ _ _ _ _ => pts_nil) (fun _ _ _ _ _ => (pe_call (ok_law_step T) (hr.mono (by decide)) (by rfl) T.g_law_step T.F_law_step.kp T.b_law_step .nil pass0 (pa_cons (pv 1) (pa_cons pe_int (pa_cons (pv 2) (pa_cons (pv 3) pa_nil)))))))
      (pss_cons (ps_set (i := 5) sc_law.nd rfl (.inl rfl) (pe_lst pa_nil))
      (pss_cons (ps_for PassesOwn.never rfl (pi_list (pv 4)) (pg_name (i := 6) sc_law.nd rfl (Or.inl rfl))
      (pss_one (ps_expr (pe_bm PySem.F.plainAttrs_list PySem.F.slot_list_extend PySem.F.type_list_extend mt_extend (pv 5) (pa_cons (pe_call (ok_law_gates T) (hr.mono (by decide)) (by rfl) T.g_law_gates T.F_law_gates.kp T.b_law_gates .nil pass0 (pa_cons (pv 6) (pa_cons (pv 3) pa_nil))) pa_nil)))))
      (pss_cons (ps_set (i := 7) sc_law.nd rfl (.inl rfl) (pe_make T.mk_Program (ok_Program___init T) (hr.mono (by decide)) (by rfl) T.gc_Program T.b_Program___init .nil pass0 (pa_cons pe_int (pa_cons (pv 2) (pa_cons (pv 3) (pa_cons (pv 4) pa_nil))))))
      (pss_cons (ps_set (i := 8) sc_law.nd rfl (.inl rfl) (pe_call (ok_gates_of T) (hr.mono (by decide)) (by rfl) T.g_gates_of T.F_gates_of.kp T.b_gates_of .nil passL (pa_cons (pv 7) pa_nil)))
      (pss_cons (ps_if (PW.pt (pw_or (pt_not (pt_val (pe_call (ok_law_equal T 5) hr (by rfl) T.g_law_equal T.F_law_equal.kp T.b_law_equal .nil pass0 (pa_cons (pv 8) (pa_cons (pv 5) pa_nil))))) (pw_or1 (pt_not (pt_val (pe_call (ok_law_equal T 5) hr (by rfl) T.g_law_equal T.F_law_equal.kp T.b_law_equal .nil pass0 (pa_cons (pe_callTy (T := "list") (r := rListOf K) cr_list_of (by rfl) T.m_list (by decide +kernel) (pa_cons (pe_fld (pv 7) rfl) pa_nil)) (pa_cons (pv 4) pa_nil))))))))
      (pss_one (ps_ret pe_bl))
      pss_nil)
      (pss_cons (ps_expr (pe_bm PySem.F.plainAttrs_list PySem.F.slot_list_append PySem.F.type_list_append mt_append (pv 8) (pa_cons (pe_tup (pa_cons pe_int (pa_cons (pe_tup pa_nil) pa_nil))) pa_nil)))
      (pss_cons (ps_if (pt_not (pt_val (pe_call (ok_law_equal T 5) hr (by rfl) T.g_law_equal T.F_law_equal.kp T.b_law_equal .nil pass0 (pa_cons (pe_call (ok_gates_of T) (hr.mono (by decide)) (by rfl) T.g_gates_of T.F_gates_of.kp T.b_gates_of .nil passL (pa_cons (pv 7) pa_nil)) (pa_cons (pv 5) pa_nil)))))
      (pss_one (ps_ret pe_bl))
      pss_nil)
      (pss_cons (ps_set (i := 9) sc_law.nd rfl (.inl rfl) (pe_ix (r := rIxL K) ix_list (pe_lst (pa_cons pe_int (pa_cons pe_int (pa_cons pe_int (pa_cons (pe_op op_pow pe_int pe_int) (pa_cons (pe_op op_add pe_int (pe_call (ok_law_draw T) (hr.mono (by decide)) (by rfl) T.g_law_draw T.F_law_draw.kp T.b_law_draw .nil pass0 (pa_cons (pv 1) pa_nil))) pa_nil)))))) (pe_op op_mod (pe_call (ok_law_draw T) (hr.mono (by decide)) (by rfl) T.g_law_draw T.F_law_draw.kp T.b_law_draw .nil pass0 (pa_cons (pv 1) pa_nil)) pe_int) (fun _ _ => rfl)))
      (pss_cons (ps_if (pt_not (pt_val (pe_call (ok_law_refused T) (hr.mono (by decide)) (by rfl) T.g_law_refused T.F_law_refused.kp T.b_law_refused .nil pass0 (pa_cons (pe_make T.mk_Program (ok_Program___init T) (hr.mono (by decide)) (by rfl) T.gc_Program T.b_Program___init .nil pass0 (pa_cons (pv 9) (pa_cons (pv 2) (pa_cons (pv 3) (pa_cons (pv 4) pa_nil))))) pa_nil))))
      (pss_one (ps_ret pe_bl))
      pss_nil)
      (pss_cons (ps_set (i := 10) sc_law.nd rfl (.inl rfl) (pe_op op_mod (pe_call (ok_law_draw T) (hr.mono (by decide)) (by rfl) T.g_law_draw T.F_law_draw.kp T.b_law_draw .nil pass0 (pa_cons (pv 1) pa_nil)) (pe_op op_add (pe_callB (id := "len") (r := rLen K) cr_len (by rfl) T.m_len PySem.boot_len (pa_cons (pv 4) pa_nil)) pe_int)))
      (pss_cons (ps_set (i := 11) sc_law.nd rfl (.inl rfl) (pe_tup (pa_cons pe_str (pa_cons pe_int (pa_cons pe_int (pa_cons (pe_tup (pa_cons (pe_tup (pa_cons pe_int pa_nil)) pa_nil)) (pa_cons pe_int (pa_cons pe_int pa_nil))))))))
      (pss_one (ps_ret (pe_or (pe_cmpR op_lt (pv 2) pe_int (nomark _)) (pe_one (pe_call (ok_law_refused T) (hr.mono (by decide)) (by rfl) T.g_law_refused T.F_law_refused.kp T.b_law_refused .nil pass0 (pa_cons (pe_make T.mk_Program (ok_Program___init T) (hr.mono (by decide)) (by rfl) T.gc_Program T.b_Program___init .nil pass0 (pa_cons pe_int (pa_cons (pv 2) (pa_cons (pv 3) (pa_cons (pe_op op_cat (pe_op op_cat (pe_slice (r := rSlL K) sl_list (pv 4) po_none (po_some (pv 10))) (pe_lst (pa_cons (pv 11) pa_nil))) (pe_slice (r := rSlL K) sl_list (pv 4) (po_some (pv 10)) po_none)) pa_nil))))) pa_nil)))))))))))))))))))))), ?_⟩
    walk_at "start"
    walk_at "x"
    refine ⟨a, ns, rfl, hS, hl, fun n ms H1 hn s1 e1 r1 l1 => ?_⟩
    walk_at "x"
    refine ⟨by show 2 ≤ sizeLine; decide, fun d hd => ?_⟩
    have hD := Dr.mk e1 r1 l1 hd
    generalize upd H1 d (.lst [.ref n, .int 0]) = H2 at hD
    clear hn s1 e1 r1 l1 hd hS hl
    walk_at "x"
    refine ⟨d, n, rfl, hD, ?_⟩
    rintro _ H3 ⟨x, rfl, x0, x1⟩ hD3 _
    walk_at "x"
    refine ⟨d, n, rfl, hD3, ?_⟩
    rintro _ H4 ⟨y, rfl, y0, y1⟩ hD4 _
    walk_at "x"
    refine x_cut (fun σ' H' => ∃ c i : Nat, σ' = [some (.ref a), some (.ref d), some (.int (c : Int)), some (.int (i : Int)), none, none, none, none, none, none, none, none, none] ∧ 1 ≤ c ∧ c ≤ 60 ∧ i ≤ 60 ∧ Dr H' d n) ?_ ?_
    · walk_at "x"
      refine ⟨d, n, rfl, hD4, ?_⟩
      rintro _ H5 ⟨z, rfl, z0, z1⟩ hD5 _
      walk_at "x"
      refine x_ite (fun hc => ?_) (fun hc => ?_)
      · walk_at "x"
        refine ⟨d, n, rfl, hD5, ?_⟩
        rintro _ H6 ⟨w, rfl, w0, w1⟩ hD6 _
        walk_at "x"
        exact ⟨(58 + w % 3).toNat, 60, by rw [show (((58 + w % 3).toNat : Nat) : Int) = 58 + w % 3 by omega]; rfl, by omega, by omega, by decide, hD6⟩
      · walk_at "x"
        exact ⟨(1 + x % 20).toNat, (y % 21).toNat, by rw [show (((1 + x % 20).toNat : Nat) : Int) = 1 + x % 20 by omega, show (((y % 21).toNat : Nat) : Int) = y % 21 by omega], by omega, by omega, by omega, hD5⟩
    clear hD hD3 hD4
    rintro σ' H4 ⟨c, i, rfl, c1, c9, i9, hD4⟩
    walk_at "x"
    refine x_lcPreA ?_
    walk_at "x"
    refine ⟨d, n, rfl, hD4, ?_⟩
    rintro _ H5 ⟨z, rfl, z0, z1⟩ hD5 _
    walk_at "x"
    refine x_lcR1 (z % 21) (fun o k H' => StpsJ H5 2 c i d n o k H') (fun R r => r) (by omega) (by omega) (fun o ho => ⟨hD5.upd0 ho, Same.keep (same_upd ho), hD5.new ho, hD5.newN ho, [], [], upd_same, ⟨rfl, fun j x b h _ => by simp at h⟩, rfl, fun s h => by simp at h⟩) (fun x => rfl) ?_ ?_
    · rintro o k H6 ho hk hJ
      walk_at "x"
      refine ⟨d, n, 2, c, i, rfl, by decide, by decide, c1, by omega, by omega, hJ.1, ?_⟩
      rintro _ H7 ⟨b, s, rfl, hs, oks, nt⟩ hD7 k7
      obtain ⟨acc, e1, e2, h3⟩ := hJ.add ho hD7 k7 hs oks nt
      exact ⟨acc, e1, lt_line (by omega), h3⟩
    rintro so H6 hso ⟨hD6, _, hsd, hsn, as, S, hO, hSt, hSl, hok⟩
    have okp : PrOk S 2 c i := ⟨by decide, by decide, c1, by omega, by omega, by omega, fun s hs => (hok s hs).1⟩
    have S20 : S.length ≤ 20 := by omega
    have hal := hSt.1
    clear hD4 hD5 hso hsn
    walk_at "x"
    refine ⟨by show 0 ≤ sizeLine; decide, fun du hdu => ?_⟩
    have s7 := same_upd (o := .lst []) hdu
    have e7 : (upd H6 du (.lst [])) du = some (.lst (([] : List Addr).map V.ref)) := upd_same
    generalize upd H6 du (.lst []) = H7 at s7 e7
    walk_at "x"
    refine x_forL (p := so) (as.map V.ref) (fun k σ' H' => ∃ v6, (∃ bs gs, σ' = [some (.ref a), some (.ref d), some (.int (c : Int)), some (.int (i : Int)), some (.ref so), some (.ref du), v6, none, none, none, none, none, none] ∧ Same H6 H' ∧ H' du = some (.lst (bs.map V.ref)) ∧ GtsAt H' bs gs ∧ GtsAll i (S.take k) gs)) (fun R r => ⟨_, rfl, r⟩) (sq_of (s7 _ _ hO)) ⟨_, [], [], rfl, s7, e7, ⟨rfl, fun j x b h _ => by simp at h⟩, .nil⟩ (fun k σ' H' _ z => by obtain ⟨_, _, _, _, z, _⟩ := z; exact sq_of (z _ _ hO)) ?_ ?_
    · rintro k x σ' H8 hx ⟨v6, bs, gs, rfl, s8, e8, hG, hA⟩
      obtain ⟨b, hb, rfl⟩ := map_getR hx
      obtain ⟨s, hs1, hs2⟩ := hSt.get hb
      obtain ⟨oks, nt⟩ := hok s (List.mem_of_getElem? hs1)
      have hgl := hA.len
      rw [List.length_take] at hgl
      walk_at "x"
      refine x_tyL e8 ?_
      walk_at "x"
      refine ⟨b, s, c, i, rfl, hs2.tups (Tups.same s8), oks, nt, fun l ds hs H9 s9 e9 hDs hOf => ?_⟩
      have e8' := s9 _ _ e8
      have hl3 := hOf.len
      have hdl : du ≠ l → True := fun _ => trivial
      walk_at "x"
      refine ⟨du, l, _, _, rfl, rfl, e8', e9, by rw [List.length_map, List.length_map, hG.1, hDs.1]; exact Nat.le_of_lt (lt_line (by omega)), ?_⟩
      have hTp : Tups H9 (upd H9 du (.lst (bs.map V.ref ++ ds.map V.ref))) := (Tups.refl H9).put (no_tupL e8')
      exact ⟨_, bs ++ ds, gs ++ hs, rfl, sput (s8.trans s9) hdu, by rw [upd_same, List.map_append], ((hG.tups (Tups.same s9)).app hDs).tups hTp, by rw [take_snoc hs1]; exact .snoc hA hOf⟩
    rintro σ' H8 ⟨v6, bs, gs, rfl, s8, e8, hG, hA⟩
    rw [List.length_map, hal, List.take_length] at hA
    have hgl := hA.len
    have okG := hA.oks okp.ok
    have hdud : du ≠ d := hD6.new hdu
    have hD8 := hD6.same s8
    have hO8 := s8 _ _ hO
    have hSt8 := hSt.tups (Tups.same s8)
    clear hD6 hO hSt s8 s7 e7 hdu
    walk_at "x"
    refine x_make1 ?_
    walk_at "x"
    show ∀ x dx, _ → _ → _ → sp_Program___init K [V.ref x, V.int ((2 : Nat) : Int), _, _, _] _ _ _
    refine new_progA (m := 2) hC hO8 hSt8 okp fun pa L H9 hL s9 hP => ?_
    have hD9 := hD8.same s9
    have hO9 := s9 _ _ hO8
    have hSt9 := hSt8.tups (Tups.same s9)
    have e9 := s9 _ _ e8
    have hG9 := hG.tups (Tups.same s9)
    have hLd : L ≠ d := fun e => hD8.ne (e ▸ hL)
    clear hD8 hO8 hSt8 e8 hG s9 hL
    walk_at "x"
    refine ⟨pa, L, as, S, 2, c, i, rfl, hP, okp, fun h => absurd rfl h, fun _ h => ?_, fun _ _ ga cs hs H10 s10 hga eg hGg hAg => ?_⟩
    · obtain ⟨s, hs, ht⟩ := h
      rw [(hok s hs).2] at ht
      cases ht
    obtain rfl := hA.uniq hAg
    have hG10 := hG9.tups (Tups.same s10)
    walk_at "x"
    refine ⟨_, _, rfl, GtsAt.eqv3 (n := 1) hGg hG10 okG (by omega) (by omega) eg (s10 _ _ e9), ?_⟩
    walk_at "x"
    walk_at "f"
    have hP10 := hP.same s10
    obtain ⟨dx10, hp10, hCP⟩ := id hP10.ob
    refine x_fldR hp10 hCP.cl hCP.s progF_s ?_
    walk_at "x"
    refine x_listL (sq_of hP10.lst) fun ls hls => ?_
    have u11 := same_upd (o := .lst (as.map V.ref)) hls
    have e11 : (upd H10 ls (.lst (as.map V.ref))) ls = some (.lst (as.map V.ref)) := upd_same
    generalize upd H10 ls (.lst (as.map V.ref)) = H11 at u11 e11
    have s911 := s10.trans u11
    have hSt11 := hSt9.tups (Tups.same s911)
    walk_at "x"
    refine ⟨_, _, rfl, Eqv.lst (n := 4) e11 (s911 _ _ hO9) rfl (by rw [List.length_map]; omega) (fun j x y g1 g2 => ?_), ?_⟩
    · rw [g1] at g2
      cases g2
      obtain ⟨b, hb, rfl⟩ := map_getR g1
      obtain ⟨s, gs1, hs1⟩ := hSt11.get hb
      exact hs1.eqv (okp.ok s (List.mem_of_getElem? gs1))
    walk_at "x"
    walk_at "f"
    have eg11 := u11 _ _ eg
    refine x_tyL eg11 ?_
    walk_at "x"
    refine ⟨by show 0 ≤ sizeLine; decide, fun t0 ht0 => ?_⟩
    have u12 := same_upd (o := .tup []) ht0
    have eg12 := u12 _ _ eg11
    generalize upd H11 t0 (.tup []) = H12 at u12 eg12
    walk_at "x"
    refine ⟨by show 2 ≤ sizeLine; decide, fun t1 ht1 => ?_⟩
    have u13 := same_upd (o := .tup [V.int 0, .ref t0]) ht1
    have eg13 := u13 _ _ eg12
    generalize upd H12 t1 (.tup [V.int 0, .ref t0]) = H13 at u13 eg13
    walk_at "x"
    refine x_app eg13 (by rw [List.length_map, hGg.1]; omega) ?_
    have s914 : Same H9 (upd H13 ga (.lst (cs.map V.ref ++ [V.ref t1]))) := sput ((s911.trans u12).trans u13) hga
    generalize upd H13 ga (.lst (cs.map V.ref ++ [V.ref t1])) = H14 at s914
    have hP14 := hP.same s914
    have e14 := s914 _ _ e9
    have hG14 := hG9.tups (Tups.same s914)
    have hO14 := s914 _ _ hO9
    have hSt14 := hSt9.tups (Tups.same s914)
    have hD14 := hD9.same s914
    clear hP e9 hG9 hO9 hSt9 hD9 s10 s911 u11 e11 hSt11 eg11 u12 eg12 u13 eg13 s914 hP10 hp10 hG10 hGg eg hga
    walk_at "x"
    refine ⟨pa, L, as, S, 2, c, i, rfl, hP14, okp, fun h => absurd rfl h, fun _ h => ?_, fun _ _ ga cs hs H15 s15 hga eg hGg hAg => ?_⟩
    · obtain ⟨s, hs, ht⟩ := h
      rw [(hok s hs).2] at ht
      cases ht
    obtain rfl := hA.uniq hAg
    have hG15 := hG14.tups (Tups.same s15)
    walk_at "x"
    refine ⟨_, _, rfl, GtsAt.eqv3 (n := 1) hGg hG15 okG (by omega) (by omega) eg (s15 _ _ e14), ?_⟩
    walk_at "x"
    walk_at "f"
    have hD15 := hD14.same s15
    have hO15 := s15 _ _ hO14
    have hSt15 := hSt14.tups (Tups.same s15)
    clear hP14 e14 hG14 hO14 hSt14 hD14 s15 hga eg hGg hG15
    refine ⟨d, n, rfl, hD15, ?_⟩
    rintro _ H16 ⟨w, rfl, w0, w1⟩ hD16 k16
    walk_at "x"
    rw [show ((10 : Int) ^ (9 : Int).toNat) = 1000000000 by decide]
    refine ⟨by show 5 ≤ sizeLine; decide, fun u hu => ?_⟩
    have hud := hD16.new hu
    have hO16 := k16 _ _ hO15 hsd
    have hSt16 := hSt15.tups (keep_tupsA k16 hD15)
    have s17 := same_upd (o := .lst [V.int 3, .int 4, .int 97, .int 1000000000, .int (3 + w)]) hu
    have e17 : (upd H16 u (.lst [V.int 3, .int 4, .int 97, .int 1000000000, .int (3 + w)])) u = some (.lst [V.int 3, .int 4, .int 97, .int 1000000000, .int (3 + w)]) := upd_same
    generalize upd H16 u (.lst [V.int 3, .int 4, .int 97, .int 1000000000, .int (3 + w)]) = H17 at s17 e17
    have hD17 := hD16.same s17
    have hO17 := s17 _ _ hO16
    have hSt17 := hSt16.tups (Tups.same s17)
    walk_at "x"
    refine ⟨d, n, rfl, hD17, ?_⟩
    rintro _ H18 ⟨f, rfl, f0, f1⟩ hD18 k18
    walk_at "x"
    obtain ⟨v, hv, hm⟩ := at_lt (xs := [V.int 3, .int 4, .int 97, .int 1000000000, .int (3 + w)]) (i := f % 5) (Int.emod_nonneg _ (by decide)) (Int.emod_lt_of_pos f (show (0 : Int) < 5 by decide))
    refine x_ixL (sq_of (k18 _ _ e17 hud)) hv ?_
    obtain ⟨m, rfl, m3, m9⟩ := menu34 w0 w1 hm
    have hO18 := k18 _ _ hO17 hsd
    have hSt18 := hSt17.tups (keep_tupsA k18 hD17)
    have okm : PrOk S m c i := ⟨by omega, m9, c1, by omega, by omega, by omega, fun s hs => (hok s hs).1.any (by omega) (hok s hs).2⟩
    clear hD15 hO15 hSt15 hD16 k16 hO16 hSt16 s17 e17 hD17 hO17 hSt17 k18 hud hu hv hm
    walk_at "x"
    refine x_make1 ?_
    walk_at "x"
    refine new_progA (m := m) hC hO18 hSt18 okm fun pb L2 H19 hL2 s19 hP19 => ?_
    have hD19 := hD18.same s19
    have hO19 := s19 _ _ hO18
    have hSt19 := hSt18.tups (Tups.same s19)
    walk_at "x"
    refine ⟨pb, L2, as, S, m, c, i, rfl, hP19, okm, .inl (by omega), fun H20 s20 => ?_⟩
    have hD20 := hD19.same s20
    have hO20 := s20 _ _ hO19
    have hSt20 := hSt19.tups (Tups.same s20)
    clear hD18 hO18 hSt18 hL2 s19 hP19 hD19 hO19 hSt19 s20
    walk_at "x"
    walk_at "f"
    refine ⟨d, n, rfl, hD20, ?_⟩
    rintro _ H21 ⟨g, rfl, g0, g1⟩ hD21 k21
    have hO21 := k21 _ _ hO20 hsd
    have hSt21 := hSt20.tups (keep_tupsA k21 hD20)
    clear hD20 hO20 hSt20 k21
    walk_at "x"
    refine x_len (sq_of hO21) ?_
    rw [List.length_map, hal]
    walk_at "x"
    obtain ⟨A, eA, hA9⟩ : ∃ A : Nat, g % ((S.length : Int) + 1) = (A : Int) ∧ A ≤ S.length := by
      have h0 := Int.emod_nonneg g (show (S.length : Int) + 1 ≠ 0 by omega)
      have h1 := Int.emod_lt_of_pos g (show (0 : Int) < (S.length : Int) + 1 by omega)
      exact ⟨(g % ((S.length : Int) + 1)).toNat, by omega, by omega⟩
    rw [eA]
    refine ⟨by show 1 ≤ sizeLine; decide, fun r1 hr1 => ?_⟩
    have v1 := same_upd (o := .tup [V.int 1]) hr1
    have b1 : (upd H21 r1 (.tup [V.int 1])) r1 = some (.tup (([1] : List Int).map V.int)) := upd_same
    have hO22 := v1 _ _ hO21
    have hSt22 := hSt21.tups (Tups.same v1)
    generalize upd H21 r1 (.tup [V.int 1]) = H22 at v1 b1 hO22 hSt22
    walk_at "x"
    refine ⟨by show 1 ≤ sizeLine; decide, fun r2 hr2 => ?_⟩
    have v2 := same_upd (o := .tup [V.ref r1]) hr2
    have b2 : (upd H22 r2 (.tup [V.ref r1])) r2 = some (.tup ([r1].map V.ref)) := upd_same
    have b1 := v2 _ _ b1
    have hO23 := v2 _ _ hO22
    have hSt23 := hSt22.tups (Tups.same v2)
    generalize upd H22 r2 (.tup [V.ref r1]) = H23 at v2 b1 b2 hO23 hSt23
    have hTb : TbAt H23 r2 oneTab := ⟨[r1], b2, rfl, fun k r b e1 e2 => by
      match k, e1, e2 with
      | 0, e1, e2 => cases e1; cases e2; exact b1
      | k + 1, e1, _ => simp [oneTab] at e1⟩
    walk_at "x"
    refine ⟨by show 6 ≤ sizeLine; decide, fun lk hlk => ?_⟩
    have v3 := same_upd (o := .tup [V.str "table", .int 0, .int 1, .ref r2, .int 1, .int 2]) hlk
    have b3 : StpAt (upd H23 lk (.tup [V.str "table", .int 0, .int 1, .ref r2, .int 1, .int 2])) lk (.tab 0 1 oneTab 1 2) := ⟨r2, upd_same, hTb.tups (Tups.same v3)⟩
    have hO24 := v3 _ _ hO23
    have hSt24 := hSt23.tups (Tups.same v3)
    generalize upd H23 lk (.tup [V.str "table", .int 0, .int 1, .ref r2, .int 1, .int 2]) = H24 at v3 b3 hO24 hSt24
    clear hO21 hSt21 v1 b1 hO22 hSt22 v2 b2 hO23 hSt23 hTb v3 hr1 hr2 hlk hD21
    walk_at "x"
    refine x_ite (fun hc3 => ?_) (fun hc3 => ?_)
    · exact q _
    walk_at "x"
    refine x_make1 ?_
    walk_at "x"
    refine x_sl ?_
    walk_at "x"
    refine x_noPart ?_
    refine ⟨_, rfl, (A : Int), rfl, so, _, rfl, sq_of hO24, fun o1 ho1 => ?_⟩
    rw [cut_take, ← List.map_take]
    have w1 := same_upd (o := .lst ((as.take A).map V.ref)) ho1
    have h1 : (upd H24 o1 (.lst ((as.take A).map V.ref))) o1 = some (.lst ((as.take A).map V.ref)) := upd_same
    have hO25 := w1 _ _ hO24
    have hSt25 := hSt24.tups (Tups.same w1)
    have b3 := b3.tups (Tups.same w1)
    generalize upd H24 o1 (.lst ((as.take A).map V.ref)) = H25 at w1 h1 hO25 hSt25 b3
    walk_at "x"
    refine ⟨by show 1 ≤ sizeLine; decide, fun o2 ho2 => ?_⟩
    have w2 := same_upd (o := .lst [V.ref lk]) ho2
    have h2 : (upd H25 o2 (.lst [V.ref lk])) o2 = some (.lst [V.ref lk]) := upd_same
    have h1 := w2 _ _ h1
    have hO26 := w2 _ _ hO25
    have hSt26 := hSt25.tups (Tups.same w2)
    have b3 := b3.tups (Tups.same w2)
    generalize upd H25 o2 (.lst [V.ref lk]) = H26 at w2 h1 h2 hO26 hSt26 b3
    walk_at "x"
    refine x_cat h1 h2 (by rw [List.length_map, List.length_take]; show _ + 1 ≤ _; omega) fun o3 ho3 => ?_
    have w3 := same_upd (o := .lst ((as.take A).map V.ref ++ [V.ref lk])) ho3
    have h3 : (upd H26 o3 (.lst ((as.take A).map V.ref ++ [V.ref lk]))) o3 = some (.lst ((as.take A ++ [lk]).map V.ref)) := by rw [upd_same, List.map_append]; rfl
    have hO27 := w3 _ _ hO26
    have hSt27 := hSt26.tups (Tups.same w3)
    have b3 := b3.tups (Tups.same w3)
    generalize upd H26 o3 (.lst ((as.take A).map V.ref ++ [V.ref lk])) = H27 at w3 h3 hO27 hSt27 b3
    walk_at "x"
    refine x_sl ?_
    walk_at "x"
    refine ⟨_, rfl, (A : Int), rfl, ?_⟩
    refine x_noPart ?_
    refine ⟨so, _, rfl, sq_of hO27, fun o4 ho4 => ?_⟩
    rw [cut_drop, ← List.map_drop]
    have w4 := same_upd (o := .lst ((as.drop A).map V.ref)) ho4
    have h4 : (upd H27 o4 (.lst ((as.drop A).map V.ref))) o4 = some (.lst ((as.drop A).map V.ref)) := upd_same
    have h3 := w4 _ _ h3
    have hSt28 := hSt27.tups (Tups.same w4)
    have b3 := b3.tups (Tups.same w4)
    generalize upd H27 o4 (.lst ((as.drop A).map V.ref)) = H28 at w4 h3 h4 hSt28 b3
    walk_at "x"
    refine x_cat h3 h4 (by rw [List.length_map, List.length_map, List.length_append, List.length_take, List.length_drop]; show _ + 1 + _ ≤ _; omega) fun o5 ho5 => ?_
    have w5 := same_upd (o := .lst ((as.take A ++ [lk]).map V.ref ++ (as.drop A).map V.ref)) ho5
    have h5 : (upd H28 o5 (.lst ((as.take A ++ [lk]).map V.ref ++ (as.drop A).map V.ref))) o5 = some (.lst ((as.take A ++ [lk] ++ as.drop A).map V.ref)) := by rw [upd_same, ← List.map_append]
    have hSt29 := hSt28.tups (Tups.same w5)
    have b3 := b3.tups (Tups.same w5)
    generalize upd H28 o5 (.lst ((as.take A ++ [lk]).map V.ref ++ (as.drop A).map V.ref)) = H29 at w5 h5 hSt29 b3
    have hAll : StpsAt H29 (as.take A ++ [lk] ++ as.drop A) (S.take A ++ [.tab 0 1 oneTab 1 2] ++ S.drop A) := stpsApp ((stpsTake hSt29 A).snoc b3) (hSt29.drop A)
    have okL : PrOk (S.take A ++ [Stp.tab 0 1 oneTab 1 2] ++ S.drop A) 2 c i := ⟨by decide, by decide, c1, by omega, by omega, by rw [List.length_append, List.length_append, List.length_take, List.length_drop]; show _ + 1 + _ ≤ _; omega, fun s hs => by
      rcases List.mem_append.mp hs with h | h
      · rcases List.mem_append.mp h with h | h
        · exact (hok s (List.mem_of_mem_take h)).1
        · rw [List.mem_singleton.mp h]
          exact ⟨by omega, by omega, by omega, by decide, by decide, by decide, .inl rfl, oneTab_ok, by decide, p2prime⟩
      · exact (hok s (List.mem_of_mem_drop h)).1⟩
    walk_at "x"
    show ∀ x dx, _ → _ → _ → sp_Program___init K [V.ref x, V.int ((2 : Nat) : Int), _, _, _] _ _ _
    refine new_progA (m := 2) hC h5 hAll okL fun pc L3 H30 _ s30 hP30 => ?_
    walk_at "x"
    exact ⟨pc, L3, _, _, 2, c, i, rfl, hP30, okL, .inr ⟨_, List.mem_append_left _ (List.mem_append_right _ List.mem_cons_self), rfl⟩, fun H31 _ => q H31⟩


theorem all_mk {l : PySem.W.OpenLaw} {w : World} {K : PySem.W.Frag} {h : Heap} {mg : Str → Option Value} {fa : Addr} (X : K.In h) (G : h.Ns mainGlobals mg) (hfa : mg "law" = some (.ref fa))
    {f0 : Addr} {od0 an0 : Option Addr} {sl0 : Array (Option Value)} {oc0 kV0 dc0 pm0 cd0 ct0 : Value}
    {f1 : Addr} {od1 an1 : Option Addr} {sl1 : Array (Option Value)} {oc1 kV1 dc1 pm1 cd1 ct1 : Value}
    {f2 : Addr} {od2 an2 : Option Addr} {sl2 : Array (Option Value)} {oc2 kV2 dc2 pm2 cd2 ct2 : Value}
    {f3 : Addr} {od3 an3 : Option Addr} {sl3 : Array (Option Value)} {oc3 kV3 dc3 pm3 cd3 ct3 : Value}
    {f4 : Addr} {od4 an4 : Option Addr} {sl4 : Array (Option Value)} {oc4 kV4 dc4 pm4 cd4 ct4 : Value}
    {f5 : Addr} {od5 an5 : Option Addr} {sl5 : Array (Option Value)} {oc5 kV5 dc5 pm5 cd5 ct5 : Value}
    {f6 : Addr} {od6 an6 : Option Addr} {sl6 : Array (Option Value)} {oc6 kV6 dc6 pm6 cd6 ct6 : Value}
    {f7 : Addr} {od7 an7 : Option Addr} {sl7 : Array (Option Value)} {oc7 kV7 dc7 pm7 cd7 ct7 : Value}
    {f8 : Addr} {od8 an8 : Option Addr} {sl8 : Array (Option Value)} {oc8 kV8 dc8 pm8 cd8 ct8 : Value}
    {f9 : Addr} {od9 an9 : Option Addr} {sl9 : Array (Option Value)} {oc9 kV9 dc9 pm9 cd9 ct9 : Value}
    {f10 : Addr} {od10 an10 : Option Addr} {sl10 : Array (Option Value)} {oc10 kV10 dc10 pm10 cd10 ct10 : Value}
    {f11 : Addr} {od11 an11 : Option Addr} {sl11 : Array (Option Value)} {oc11 kV11 dc11 pm11 cd11 ct11 : Value}
    {f12 : Addr} {od12 an12 : Option Addr} {sl12 : Array (Option Value)} {oc12 kV12 dc12 pm12 cd12 ct12 : Value}
    {f13 : Addr} {od13 an13 : Option Addr} {sl13 : Array (Option Value)} {oc13 kV13 dc13 pm13 cd13 ct13 : Value}
    {f14 : Addr} {od14 an14 : Option Addr} {sl14 : Array (Option Value)} {oc14 kV14 dc14 pm14 cd14 ct14 : Value}
    {f15 : Addr} {od15 an15 : Option Addr} {sl15 : Array (Option Value)} {oc15 kV15 dc15 pm15 cd15 ct15 : Value}
    {f16 : Addr} {od16 an16 : Option Addr} {sl16 : Array (Option Value)} {oc16 kV16 dc16 pm16 cd16 ct16 : Value}
    {f17 : Addr} {od17 an17 : Option Addr} {sl17 : Array (Option Value)} {oc17 kV17 dc17 pm17 cd17 ct17 : Value}
    {f18 : Addr} {od18 an18 : Option Addr} {sl18 : Array (Option Value)} {oc18 kV18 dc18 pm18 cd18 ct18 : Value}
    {f19 : Addr} {od19 an19 : Option Addr} {sl19 : Array (Option Value)} {oc19 kV19 dc19 pm19 cd19 ct19 : Value}
    {f20 : Addr} {od20 an20 : Option Addr} {sl20 : Array (Option Value)} {oc20 kV20 dc20 pm20 cd20 ct20 : Value}
    {f21 : Addr} {od21 an21 : Option Addr} {sl21 : Array (Option Value)} {oc21 kV21 dc21 pm21 cd21 ct21 : Value}
    {f22 : Addr} {od22 an22 : Option Addr} {sl22 : Array (Option Value)} {oc22 kV22 dc22 pm22 cd22 ct22 : Value}
    {f23 : Addr} {od23 an23 : Option Addr} {sl23 : Array (Option Value)} {oc23 kV23 dc23 pm23 cd23 ct23 : Value}
    {f24 : Addr} {od24 an24 : Option Addr} {sl24 : Array (Option Value)} {oc24 kV24 dc24 pm24 cd24 ct24 : Value}
    {f25 : Addr} {od25 an25 : Option Addr} {sl25 : Array (Option Value)} {oc25 kV25 dc25 pm25 cd25 ct25 : Value}
    {f26 : Addr} {od26 an26 : Option Addr} {sl26 : Array (Option Value)} {oc26 kV26 dc26 pm26 cd26 ct26 : Value}
    {f27 : Addr} {od27 an27 : Option Addr} {sl27 : Array (Option Value)} {oc27 kV27 dc27 pm27 cd27 ct27 : Value}
    {C_Program : Addr}
    {E_BrimfulError : Addr}
    {E_BadStep : Addr}
    {E_BadGate : Addr}
    {E_BadMemory : Addr}
    {t_GREATEST_MODULUS : Tok}
    {t_MOST_CELLS : Tok}
    {t_MOST_FACTORS : Tok}
    {t_MOST_INPUTS : Tok}
    {t_MOST_STEPS : Tok}
    (aC_Program : PySem.W.nsIn K mainGlobals "Program" = some (some (.ref C_Program)))
    (pg_Program : PySem.W.plainGet K C_Program Str.empty = true) (hd_Program : PySem.W.hasDictIn K C_Program = true) (po_Program : PySem.W.plainOver K C_Program = true)
    (sa_Program : PySem.W.findIn K (.ref C_Program) "__setattr__" = some (some (.builtin "object.__setattr__"))) (mk_Program : PySem.W.makesIn K C_Program = true) (kc_Program : PySem.W.keepIn K (.ref C_Program) = true)
    (hnE : PySem.W.specialIn K (.builtin "object.__class__") "__get__" = some (some (.builtin "getset_descriptor.__get__"))) (htE : PySem.W.takesIn K (.builtin "object.__class__") = some true)
    (aE_BrimfulError : PySem.W.nsIn K mainGlobals "BrimfulError" = some (some (.ref E_BrimfulError))) (xE_BrimfulError : PySem.W.excIn K E_BrimfulError [.type "ValueError", .type "Exception", .type "BaseException", .type "object"] "ValueError.__new__" = true) (kE_BrimfulError : PySem.W.keepIn K (.ref E_BrimfulError) = true)
    (bE_BrimfulError : PySem.W.subIn K (.ref E_BrimfulError) (.type "BaseException") = some true) (tE_BrimfulError : PySem.W.typeIn K (.ref E_BrimfulError) = some (.type "type")) (dE_BrimfulError : PySem.W.hasDictIn K E_BrimfulError = true)
    (h1E_BrimfulError : PySem.W.findIn K (.ref E_BrimfulError) "__getattribute__" = some (some (.builtin "BaseException.__getattribute__"))) (h2E_BrimfulError : PySem.W.findIn K (.ref E_BrimfulError) "__getattr__" = some none) (h3E_BrimfulError : PySem.W.findIn K (.ref E_BrimfulError) "__class__" = some (some (.builtin "object.__class__"))) (h4E_BrimfulError : PySem.W.mroIn K E_BrimfulError (.type "object") = some true)
    (aE_BadStep : PySem.W.nsIn K mainGlobals "BadStep" = some (some (.ref E_BadStep))) (xE_BadStep : PySem.W.excIn K E_BadStep [.type "ValueError", .type "Exception", .type "BaseException", .type "object"] "ValueError.__new__" = true) (kE_BadStep : PySem.W.keepIn K (.ref E_BadStep) = true)
    (bE_BadStep : PySem.W.subIn K (.ref E_BadStep) (.type "BaseException") = some true) (tE_BadStep : PySem.W.typeIn K (.ref E_BadStep) = some (.type "type")) (dE_BadStep : PySem.W.hasDictIn K E_BadStep = true)
    (h1E_BadStep : PySem.W.findIn K (.ref E_BadStep) "__getattribute__" = some (some (.builtin "BaseException.__getattribute__"))) (h2E_BadStep : PySem.W.findIn K (.ref E_BadStep) "__getattr__" = some none) (h3E_BadStep : PySem.W.findIn K (.ref E_BadStep) "__class__" = some (some (.builtin "object.__class__"))) (h4E_BadStep : PySem.W.mroIn K E_BadStep (.type "object") = some true)
    (aE_BadGate : PySem.W.nsIn K mainGlobals "BadGate" = some (some (.ref E_BadGate))) (xE_BadGate : PySem.W.excIn K E_BadGate [.type "ValueError", .type "Exception", .type "BaseException", .type "object"] "ValueError.__new__" = true) (kE_BadGate : PySem.W.keepIn K (.ref E_BadGate) = true)
    (bE_BadGate : PySem.W.subIn K (.ref E_BadGate) (.type "BaseException") = some true) (tE_BadGate : PySem.W.typeIn K (.ref E_BadGate) = some (.type "type")) (dE_BadGate : PySem.W.hasDictIn K E_BadGate = true)
    (h1E_BadGate : PySem.W.findIn K (.ref E_BadGate) "__getattribute__" = some (some (.builtin "BaseException.__getattribute__"))) (h2E_BadGate : PySem.W.findIn K (.ref E_BadGate) "__getattr__" = some none) (h3E_BadGate : PySem.W.findIn K (.ref E_BadGate) "__class__" = some (some (.builtin "object.__class__"))) (h4E_BadGate : PySem.W.mroIn K E_BadGate (.type "object") = some true)
    (aE_BadMemory : PySem.W.nsIn K mainGlobals "BadMemory" = some (some (.ref E_BadMemory))) (xE_BadMemory : PySem.W.excIn K E_BadMemory [.type "ValueError", .type "Exception", .type "BaseException", .type "object"] "ValueError.__new__" = true) (kE_BadMemory : PySem.W.keepIn K (.ref E_BadMemory) = true)
    (bE_BadMemory : PySem.W.subIn K (.ref E_BadMemory) (.type "BaseException") = some true) (tE_BadMemory : PySem.W.typeIn K (.ref E_BadMemory) = some (.type "type")) (dE_BadMemory : PySem.W.hasDictIn K E_BadMemory = true)
    (h1E_BadMemory : PySem.W.findIn K (.ref E_BadMemory) "__getattribute__" = some (some (.builtin "BaseException.__getattribute__"))) (h2E_BadMemory : PySem.W.findIn K (.ref E_BadMemory) "__getattr__" = some none) (h3E_BadMemory : PySem.W.findIn K (.ref E_BadMemory) "__class__" = some (some (.builtin "object.__class__"))) (h4E_BadMemory : PySem.W.mroIn K E_BadMemory (.type "object") = some true)
    (sE_BrimfulError_BrimfulError : PySem.W.subIn K (.ref E_BrimfulError) (.ref E_BrimfulError) = some true)
    (sE_BrimfulError_BadStep : PySem.W.subIn K (.ref E_BrimfulError) (.ref E_BadStep) = some false)
    (sE_BrimfulError_BadGate : PySem.W.subIn K (.ref E_BrimfulError) (.ref E_BadGate) = some false)
    (sE_BrimfulError_BadMemory : PySem.W.subIn K (.ref E_BrimfulError) (.ref E_BadMemory) = some false)
    (sE_BadStep_BrimfulError : PySem.W.subIn K (.ref E_BadStep) (.ref E_BrimfulError) = some true)
    (sE_BadStep_BadStep : PySem.W.subIn K (.ref E_BadStep) (.ref E_BadStep) = some true)
    (sE_BadStep_BadGate : PySem.W.subIn K (.ref E_BadStep) (.ref E_BadGate) = some false)
    (sE_BadStep_BadMemory : PySem.W.subIn K (.ref E_BadStep) (.ref E_BadMemory) = some false)
    (sE_BadGate_BrimfulError : PySem.W.subIn K (.ref E_BadGate) (.ref E_BrimfulError) = some true)
    (sE_BadGate_BadStep : PySem.W.subIn K (.ref E_BadGate) (.ref E_BadStep) = some false)
    (sE_BadGate_BadGate : PySem.W.subIn K (.ref E_BadGate) (.ref E_BadGate) = some true)
    (sE_BadGate_BadMemory : PySem.W.subIn K (.ref E_BadGate) (.ref E_BadMemory) = some false)
    (sE_BadMemory_BrimfulError : PySem.W.subIn K (.ref E_BadMemory) (.ref E_BrimfulError) = some true)
    (sE_BadMemory_BadStep : PySem.W.subIn K (.ref E_BadMemory) (.ref E_BadStep) = some false)
    (sE_BadMemory_BadGate : PySem.W.subIn K (.ref E_BadMemory) (.ref E_BadGate) = some false)
    (sE_BadMemory_BadMemory : PySem.W.subIn K (.ref E_BadMemory) (.ref E_BadMemory) = some true)
    (a0 : PySem.W.nsIn K mainGlobals "is_below" = some (some (.ref f0)))
    (l0 : K.lookup f0 = some ⟨oc0, od0, .func (PySem.W.fnOf "is_below" "is_below" (defArgs s_is_below) (defBody s_is_below) (defScope s_is_below) .none kV0 dc0 pm0 an0 cd0 ct0), sl0⟩)
    (c0 : PySem.W.codeIn K cd0 "is_below" = true) (k0 : PySem.W.keepIn K (.ref f0) = true)
    (a1 : PySem.W.nsIn K mainGlobals "is_modulus" = some (some (.ref f1)))
    (l1 : K.lookup f1 = some ⟨oc1, od1, .func (PySem.W.fnOf "is_modulus" "is_modulus" (defArgs s_is_modulus) (defBody s_is_modulus) (defScope s_is_modulus) .none kV1 dc1 pm1 an1 cd1 ct1), sl1⟩)
    (c1 : PySem.W.codeIn K cd1 "is_modulus" = true) (k1 : PySem.W.keepIn K (.ref f1) = true)
    (a2 : PySem.W.nsIn K mainGlobals "is_prime" = some (some (.ref f2)))
    (l2 : K.lookup f2 = some ⟨oc2, od2, .func (PySem.W.fnOf "is_prime" "is_prime" (defArgs s_is_prime) (defBody s_is_prime) (defScope s_is_prime) .none kV2 dc2 pm2 an2 cd2 ct2), sl2⟩)
    (c2 : PySem.W.codeIn K cd2 "is_prime" = true) (k2 : PySem.W.keepIn K (.ref f2) = true)
    (a3 : PySem.W.nsIn K mainGlobals "gates_of" = some (some (.ref f3)))
    (l3 : K.lookup f3 = some ⟨oc3, od3, .func (PySem.W.fnOf "gates_of" "gates_of" (defArgs s_gates_of) (defBody s_gates_of) (defScope s_gates_of) .none kV3 dc3 pm3 an3 cd3 ct3), sl3⟩)
    (c3 : PySem.W.codeIn K cd3 "gates_of" = true) (k3 : PySem.W.keepIn K (.ref f3) = true)
    (a4 : PySem.W.nsIn K mainGlobals "_gates_of_step" = some (some (.ref f4)))
    (l4 : K.lookup f4 = some ⟨oc4, od4, .func (PySem.W.fnOf "_gates_of_step" "_gates_of_step" (defArgs s_gates_of_step) (defBody s_gates_of_step) (defScope s_gates_of_step) .none kV4 dc4 pm4 an4 cd4 ct4), sl4⟩)
    (c4 : PySem.W.codeIn K cd4 "_gates_of_step" = true) (k4 : PySem.W.keepIn K (.ref f4) = true)
    (a5 : PySem.W.nsIn K mainGlobals "is_step" = some (some (.ref f5)))
    (l5 : K.lookup f5 = some ⟨oc5, od5, .func (PySem.W.fnOf "is_step" "is_step" (defArgs s_is_step) (defBody s_is_step) (defScope s_is_step) .none kV5 dc5 pm5 an5 cd5 ct5), sl5⟩)
    (c5 : PySem.W.codeIn K cd5 "is_step" = true) (k5 : PySem.W.keepIn K (.ref f5) = true)
    (a6 : PySem.W.nsIn K mainGlobals "_are_factors" = some (some (.ref f6)))
    (l6 : K.lookup f6 = some ⟨oc6, od6, .func (PySem.W.fnOf "_are_factors" "_are_factors" (defArgs s_are_factors) (defBody s_are_factors) (defScope s_are_factors) .none kV6 dc6 pm6 an6 cd6 ct6), sl6⟩)
    (c6 : PySem.W.codeIn K cd6 "_are_factors" = true) (k6 : PySem.W.keepIn K (.ref f6) = true)
    (a7 : PySem.W.nsIn K mainGlobals "_is_factor" = some (some (.ref f7)))
    (l7 : K.lookup f7 = some ⟨oc7, od7, .func (PySem.W.fnOf "_is_factor" "_is_factor" (defArgs s_is_factor) (defBody s_is_factor) (defScope s_is_factor) .none kV7 dc7 pm7 an7 cd7 ct7), sl7⟩)
    (c7 : PySem.W.codeIn K cd7 "_is_factor" = true) (k7 : PySem.W.keepIn K (.ref f7) = true)
    (a8 : PySem.W.nsIn K mainGlobals "_are_three_cells" = some (some (.ref f8)))
    (l8 : K.lookup f8 = some ⟨oc8, od8, .func (PySem.W.fnOf "_are_three_cells" "_are_three_cells" (defArgs s_are_three_cells) (defBody s_are_three_cells) (defScope s_are_three_cells) .none kV8 dc8 pm8 an8 cd8 ct8), sl8⟩)
    (c8 : PySem.W.codeIn K cd8 "_are_three_cells" = true) (k8 : PySem.W.keepIn K (.ref f8) = true)
    (a9 : PySem.W.nsIn K mainGlobals "_is_sign" = some (some (.ref f9)))
    (l9 : K.lookup f9 = some ⟨oc9, od9, .func (PySem.W.fnOf "_is_sign" "_is_sign" (defArgs s_is_sign) (defBody s_is_sign) (defScope s_is_sign) .none kV9 dc9 pm9 an9 cd9 ct9), sl9⟩)
    (c9 : PySem.W.codeIn K cd9 "_is_sign" = true) (k9 : PySem.W.keepIn K (.ref f9) = true)
    (a10 : PySem.W.nsIn K mainGlobals "is_table" = some (some (.ref f10)))
    (l10 : K.lookup f10 = some ⟨oc10, od10, .func (PySem.W.fnOf "is_table" "is_table" (defArgs s_is_table) (defBody s_is_table) (defScope s_is_table) .none kV10 dc10 pm10 an10 cd10 ct10), sl10⟩)
    (c10 : PySem.W.codeIn K cd10 "is_table" = true) (k10 : PySem.W.keepIn K (.ref f10) = true)
    (a11 : PySem.W.nsIn K mainGlobals "_is_row" = some (some (.ref f11)))
    (l11 : K.lookup f11 = some ⟨oc11, od11, .func (PySem.W.fnOf "_is_row" "_is_row" (defArgs s_is_row) (defBody s_is_row) (defScope s_is_row) .none kV11 dc11 pm11 an11 cd11 ct11), sl11⟩)
    (c11 : PySem.W.codeIn K cd11 "_is_row" = true) (k11 : PySem.W.keepIn K (.ref f11) = true)
    (a12 : PySem.W.nsIn K mainGlobals "_check_sizes" = some (some (.ref f12)))
    (l12 : K.lookup f12 = some ⟨oc12, od12, .func (PySem.W.fnOf "_check_sizes" "_check_sizes" (defArgs s_check_sizes) (defBody s_check_sizes) (defScope s_check_sizes) .none kV12 dc12 pm12 an12 cd12 ct12), sl12⟩)
    (c12 : PySem.W.codeIn K cd12 "_check_sizes" = true) (k12 : PySem.W.keepIn K (.ref f12) = true)
    (a13 : PySem.W.nsIn K mainGlobals "_check_steps" = some (some (.ref f13)))
    (l13 : K.lookup f13 = some ⟨oc13, od13, .func (PySem.W.fnOf "_check_steps" "_check_steps" (defArgs s_check_steps) (defBody s_check_steps) (defScope s_check_steps) .none kV13 dc13 pm13 an13 cd13 ct13), sl13⟩)
    (c13 : PySem.W.codeIn K cd13 "_check_steps" = true) (k13 : PySem.W.keepIn K (.ref f13) = true)
    (a14 : PySem.W.nsIn K mainGlobals "_law_mixed" = some (some (.ref f14)))
    (l14 : K.lookup f14 = some ⟨oc14, od14, .func (PySem.W.fnOf "_law_mixed" "_law_mixed" (defArgs s_law_mixed) (defBody s_law_mixed) (defScope s_law_mixed) .none kV14 dc14 pm14 an14 cd14 ct14), sl14⟩)
    (c14 : PySem.W.codeIn K cd14 "_law_mixed" = true) (k14 : PySem.W.keepIn K (.ref f14) = true)
    (a15 : PySem.W.nsIn K mainGlobals "_law_numbers" = some (some (.ref f15)))
    (l15 : K.lookup f15 = some ⟨oc15, od15, .func (PySem.W.fnOf "_law_numbers" "_law_numbers" (defArgs s_law_numbers) (defBody s_law_numbers) (defScope s_law_numbers) .none kV15 dc15 pm15 an15 cd15 ct15), sl15⟩)
    (c15 : PySem.W.codeIn K cd15 "_law_numbers" = true) (k15 : PySem.W.keepIn K (.ref f15) = true)
    (a16 : PySem.W.nsIn K mainGlobals "_law_draw" = some (some (.ref f16)))
    (l16 : K.lookup f16 = some ⟨oc16, od16, .func (PySem.W.fnOf "_law_draw" "_law_draw" (defArgs s_law_draw) (defBody s_law_draw) (defScope s_law_draw) .none kV16 dc16 pm16 an16 cd16 ct16), sl16⟩)
    (c16 : PySem.W.codeIn K cd16 "_law_draw" = true) (k16 : PySem.W.keepIn K (.ref f16) = true)
    (a17 : PySem.W.nsIn K mainGlobals "_law_equal" = some (some (.ref f17)))
    (l17 : K.lookup f17 = some ⟨oc17, od17, .func (PySem.W.fnOf "_law_equal" "_law_equal" (defArgs s_law_equal) (defBody s_law_equal) (defScope s_law_equal) .none kV17 dc17 pm17 an17 cd17 ct17), sl17⟩)
    (c17 : PySem.W.codeIn K cd17 "_law_equal" = true) (k17 : PySem.W.keepIn K (.ref f17) = true)
    (a18 : PySem.W.nsIn K mainGlobals "_law_all_equal" = some (some (.ref f18)))
    (l18 : K.lookup f18 = some ⟨oc18, od18, .func (PySem.W.fnOf "_law_all_equal" "_law_all_equal" (defArgs s_law_all_equal) (defBody s_law_all_equal) (defScope s_law_all_equal) .none kV18 dc18 pm18 an18 cd18 ct18), sl18⟩)
    (c18 : PySem.W.codeIn K cd18 "_law_all_equal" = true) (k18 : PySem.W.keepIn K (.ref f18) = true)
    (a19 : PySem.W.nsIn K mainGlobals "_law_gcd" = some (some (.ref f19)))
    (l19 : K.lookup f19 = some ⟨oc19, od19, .func (PySem.W.fnOf "_law_gcd" "_law_gcd" (defArgs s_law_gcd) (defBody s_law_gcd) (defScope s_law_gcd) .none kV19 dc19 pm19 an19 cd19 ct19), sl19⟩)
    (c19 : PySem.W.codeIn K cd19 "_law_gcd" = true) (k19 : PySem.W.keepIn K (.ref f19) = true)
    (a20 : PySem.W.nsIn K mainGlobals "_law_factors" = some (some (.ref f20)))
    (l20 : K.lookup f20 = some ⟨oc20, od20, .func (PySem.W.fnOf "_law_factors" "_law_factors" (defArgs s_law_factors) (defBody s_law_factors) (defScope s_law_factors) .none kV20 dc20 pm20 an20 cd20 ct20), sl20⟩)
    (c20 : PySem.W.codeIn K cd20 "_law_factors" = true) (k20 : PySem.W.keepIn K (.ref f20) = true)
    (a21 : PySem.W.nsIn K mainGlobals "_law_number" = some (some (.ref f21)))
    (l21 : K.lookup f21 = some ⟨oc21, od21, .func (PySem.W.fnOf "_law_number" "_law_number" (defArgs s_law_number) (defBody s_law_number) (defScope s_law_number) .none kV21 dc21 pm21 an21 cd21 ct21), sl21⟩)
    (c21 : PySem.W.codeIn K cd21 "_law_number" = true) (k21 : PySem.W.keepIn K (.ref f21) = true)
    (a22 : PySem.W.nsIn K mainGlobals "_law_step" = some (some (.ref f22)))
    (l22 : K.lookup f22 = some ⟨oc22, od22, .func (PySem.W.fnOf "_law_step" "_law_step" (defArgs s_law_step) (defBody s_law_step) (defScope s_law_step) .none kV22 dc22 pm22 an22 cd22 ct22), sl22⟩)
    (c22 : PySem.W.codeIn K cd22 "_law_step" = true) (k22 : PySem.W.keepIn K (.ref f22) = true)
    (a23 : PySem.W.nsIn K mainGlobals "_law_rising" = some (some (.ref f23)))
    (l23 : K.lookup f23 = some ⟨oc23, od23, .func (PySem.W.fnOf "_law_rising" "_law_rising" (defArgs s_law_rising) (defBody s_law_rising) (defScope s_law_rising) .none kV23 dc23 pm23 an23 cd23 ct23), sl23⟩)
    (c23 : PySem.W.codeIn K cd23 "_law_rising" = true) (k23 : PySem.W.keepIn K (.ref f23) = true)
    (a24 : PySem.W.nsIn K mainGlobals "_law_gates" = some (some (.ref f24)))
    (l24 : K.lookup f24 = some ⟨oc24, od24, .func (PySem.W.fnOf "_law_gates" "_law_gates" (defArgs s_law_gates) (defBody s_law_gates) (defScope s_law_gates) .none kV24 dc24 pm24 an24 cd24 ct24), sl24⟩)
    (c24 : PySem.W.codeIn K cd24 "_law_gates" = true) (k24 : PySem.W.keepIn K (.ref f24) = true)
    (a25 : PySem.W.nsIn K mainGlobals "_law_refused" = some (some (.ref f25)))
    (l25 : K.lookup f25 = some ⟨oc25, od25, .func (PySem.W.fnOf "_law_refused" "_law_refused" (defArgs s_law_refused) (defBody s_law_refused) (defScope s_law_refused) .none kV25 dc25 pm25 an25 cd25 ct25), sl25⟩)
    (c25 : PySem.W.codeIn K cd25 "_law_refused" = true) (k25 : PySem.W.keepIn K (.ref f25) = true)
    (a26 : PySem.W.nsIn K mainGlobals "law" = some (some (.ref f26)))
    (l26 : K.lookup f26 = some ⟨oc26, od26, .func (PySem.W.fnOf "law" "law" (defArgs s_law) (defBody s_law) (defScope s_law) .none kV26 dc26 pm26 an26 cd26 ct26), sl26⟩)
    (c26 : PySem.W.codeIn K cd26 "law" = true) (k26 : PySem.W.keepIn K (.ref f26) = true)
    (a27 : PySem.W.findIn K (.ref C_Program) "__init__" = some (some (.ref f27))) (i27 : PySem.W.isFn K (.ref f27) = true)
    (l27 : K.lookup f27 = some ⟨oc27, od27, .func (PySem.W.fnOf "__init__" "Program.__init__" (defArgs s_Program___init) (defBody s_Program___init) (defScope s_Program___init) .none kV27 dc27 pm27 an27 cd27 ct27), sl27⟩)
    (c27 : PySem.W.codeIn K cd27 "Program.__init__" = true) (k27 : PySem.W.keepIn K (.ref f27) = true)
    (n_Program_modulus : PySem.W.findIn K (.ref C_Program) "modulus" = some none)
    (n_Program_cells : PySem.W.findIn K (.ref C_Program) "cells" = some none)
    (n_Program_inputs : PySem.W.findIn K (.ref C_Program) "inputs" = some none)
    (n_Program_steps : PySem.W.findIn K (.ref C_Program) "steps" = some none)
    (z_all : PySem.W.nsIn K mainGlobals "all" = some none)
    (z_any : PySem.W.nsIn K mainGlobals "any" = some none)
    (z_bool : PySem.W.nsIn K mainGlobals "bool" = some none)
    (z_enumerate : PySem.W.nsIn K mainGlobals "enumerate" = some none)
    (z_int : PySem.W.nsIn K mainGlobals "int" = some none)
    (z_isinstance : PySem.W.nsIn K mainGlobals "isinstance" = some none)
    (z_len : PySem.W.nsIn K mainGlobals "len" = some none)
    (z_list : PySem.W.nsIn K mainGlobals "list" = some none)
    (z_range : PySem.W.nsIn K mainGlobals "range" = some none)
    (z_set : PySem.W.nsIn K mainGlobals "set" = some none)
    (z_sorted : PySem.W.nsIn K mainGlobals "sorted" = some none)
    (z_str : PySem.W.nsIn K mainGlobals "str" = some none)
    (z_tuple : PySem.W.nsIn K mainGlobals "tuple" = some none)
    (z_gcd : PySem.W.nsIn K mainGlobals "gcd" = some (some (.builtin "math.gcd")))
    (z_isqrt : PySem.W.nsIn K mainGlobals "isqrt" = some (some (.builtin "math.isqrt")))
    (z_GREATEST_MODULUS : PySem.W.nsIn K mainGlobals "GREATEST_MODULUS" = some (some (.int 1000000000 t_GREATEST_MODULUS)))
    (z_MOST_CELLS : PySem.W.nsIn K mainGlobals "MOST_CELLS" = some (some (.int 60 t_MOST_CELLS)))
    (z_MOST_FACTORS : PySem.W.nsIn K mainGlobals "MOST_FACTORS" = some (some (.int 3 t_MOST_FACTORS)))
    (z_MOST_INPUTS : PySem.W.nsIn K mainGlobals "MOST_INPUTS" = some (some (.int 60 t_MOST_INPUTS)))
    (z_MOST_STEPS : PySem.W.nsIn K mainGlobals "MOST_STEPS" = some (some (.int 20000 t_MOST_STEPS)))
    : ∃ fd : FuncData, (∀ (s : Shared) (v : Value), BindsTo s fd ⟨[v], []⟩ [("script", v)]) ∧ ∀ base : Heap, K.In base → base.Ns mainGlobals mg → FnOk l.prog w K mg base CX0 12 fa fd ["script"] (sp_law K) := by
  have e := hfa.symm.trans (PySem.W.mg_of X G a26)
  cases e
  have F0 := fun_mk (st := s_is_below) l0 c0 k0
  have b0 := F0.binds (ps := ["value", "bound"]) fun _ _ _ _ _ _ us hl => match us, hl with | [_, _], _ => rfl
  have F1 := fun_mk (st := s_is_modulus) l1 c1 k1
  have b1 := F1.binds (ps := ["value"]) fun _ _ _ _ _ _ us hl => match us, hl with | [_], _ => rfl
  have F2 := fun_mk (st := s_is_prime) l2 c2 k2
  have b2 := F2.binds (ps := ["n"]) fun _ _ _ _ _ _ us hl => match us, hl with | [_], _ => rfl
  have F3 := fun_mk (st := s_gates_of) l3 c3 k3
  have b3 := F3.binds (ps := ["program"]) fun _ _ _ _ _ _ us hl => match us, hl with | [_], _ => rfl
  have F4 := fun_mk (st := s_gates_of_step) l4 c4 k4
  have b4 := F4.binds (ps := ["step", "inputs"]) fun _ _ _ _ _ _ us hl => match us, hl with | [_, _], _ => rfl
  have F5 := fun_mk (st := s_is_step) l5 c5 k5
  have b5 := F5.binds (ps := ["step", "modulus", "cells", "inputs"]) fun _ _ _ _ _ _ us hl => match us, hl with | [_, _, _, _], _ => rfl
  have F6 := fun_mk (st := s_are_factors) l6 c6 k6
  have b6 := F6.binds (ps := ["factors", "target", "cells", "inputs"]) fun _ _ _ _ _ _ us hl => match us, hl with | [_, _, _, _], _ => rfl
  have F7 := fun_mk (st := s_is_factor) l7 c7 k7
  have b7 := F7.binds (ps := ["factor", "target", "cells", "inputs"]) fun _ _ _ _ _ _ us hl => match us, hl with | [_, _, _, _], _ => rfl
  have F8 := fun_mk (st := s_are_three_cells) l8 c8 k8
  have b8 := F8.binds (ps := ["target", "a", "b", "cells"]) fun _ _ _ _ _ _ us hl => match us, hl with | [_, _, _, _], _ => rfl
  have F9 := fun_mk (st := s_is_sign) l9 c9 k9
  have b9 := F9.binds (ps := ["sign", "modulus"]) fun _ _ _ _ _ _ us hl => match us, hl with | [_, _], _ => rfl
  have F10 := fun_mk (st := s_is_table) l10 c10 k10
  have b10 := F10.binds (ps := ["table", "modulus"]) fun _ _ _ _ _ _ us hl => match us, hl with | [_, _], _ => rfl
  have F11 := fun_mk (st := s_is_row) l11 c11 k11
  have b11 := F11.binds (ps := ["row", "size", "modulus"]) fun _ _ _ _ _ _ us hl => match us, hl with | [_, _, _], _ => rfl
  have F12 := fun_mk (st := s_check_sizes) l12 c12 k12
  have b12 := F12.binds (ps := ["modulus", "cells", "inputs"]) fun _ _ _ _ _ _ us hl => match us, hl with | [_, _, _], _ => rfl
  have F13 := fun_mk (st := s_check_steps) l13 c13 k13
  have b13 := F13.binds (ps := ["steps", "modulus", "cells", "inputs"]) fun _ _ _ _ _ _ us hl => match us, hl with | [_, _, _, _], _ => rfl
  have F14 := fun_mk (st := s_law_mixed) l14 c14 k14
  have b14 := F14.binds (ps := ["number", "k"]) fun _ _ _ _ _ _ us hl => match us, hl with | [_, _], _ => rfl
  have F15 := fun_mk (st := s_law_numbers) l15 c15 k15
  have b15 := F15.binds (ps := ["script"]) fun _ _ _ _ _ _ us hl => match us, hl with | [_], _ => rfl
  have F16 := fun_mk (st := s_law_draw) l16 c16 k16
  have b16 := F16.binds (ps := ["draws"]) fun _ _ _ _ _ _ us hl => match us, hl with | [_], _ => rfl
  have F17 := fun_mk (st := s_law_equal) l17 c17 k17
  have b17 := F17.binds (ps := ["actual", "due"]) fun _ _ _ _ _ _ us hl => match us, hl with | [_, _], _ => rfl
  have F18 := fun_mk (st := s_law_all_equal) l18 c18 k18
  have b18 := F18.binds (ps := ["actual", "due"]) fun _ _ _ _ _ _ us hl => match us, hl with | [_, _], _ => rfl
  have F19 := fun_mk (st := s_law_gcd) l19 c19 k19
  have b19 := F19.binds (ps := ["a", "b"]) fun _ _ _ _ _ _ us hl => match us, hl with | [_, _], _ => rfl
  have F20 := fun_mk (st := s_law_factors) l20 c20 k20
  have b20 := F20.binds (ps := ["draws", "cells", "inputs", "target"]) fun _ _ _ _ _ _ us hl => match us, hl with | [_, _, _, _], _ => rfl
  have F21 := fun_mk (st := s_law_number) l21 c21 k21
  have b21 := F21.binds (ps := ["draws", "modulus"]) fun _ _ _ _ _ _ us hl => match us, hl with | [_, _], _ => rfl
  have F22 := fun_mk (st := s_law_step) l22 c22 k22
  have b22 := F22.binds (ps := ["draws", "modulus", "cells", "inputs"]) fun _ _ _ _ _ _ us hl => match us, hl with | [_, _, _, _], _ => rfl
  have F23 := fun_mk (st := s_law_rising) l23 c23 k23
  have b23 := F23.binds (ps := ["row"]) fun _ _ _ _ _ _ us hl => match us, hl with | [_], _ => rfl
  have F24 := fun_mk (st := s_law_gates) l24 c24 k24
  have b24 := F24.binds (ps := ["step", "inputs"]) fun _ _ _ _ _ _ us hl => match us, hl with | [_, _], _ => rfl
  have F25 := fun_mk (st := s_law_refused) l25 c25 k25
  have b25 := F25.binds (ps := ["program"]) fun _ _ _ _ _ _ us hl => match us, hl with | [_], _ => rfl
  have F26 := fun_mk (st := s_law) l26 c26 k26
  have b26 := F26.binds (ps := ["script"]) fun _ _ _ _ _ _ us hl => match us, hl with | [_], _ => rfl
  have F27 := fun_mk (st := s_Program___init) l27 c27 k27
  have b27 := F27.binds (ps := ["self", "modulus", "cells", "inputs", "steps"]) fun _ _ _ _ _ _ us hl => match us, hl with | [_, _, _, _, _], _ => rfl
  exact ⟨PySem.W.fnOf "law" "law" (defArgs s_law) (defBody s_law) (defScope s_law) .none kV26 dc26 pm26 an26 cd26 ct26, fun s v => .of_eq rfl, fun base _ _ => ok_law (⟨_, _, F0, b0, PySem.W.mg_of X G a0, _, _, F1, b1, PySem.W.mg_of X G a1, _, _, F2, b2, PySem.W.mg_of X G a2, _, _, F3, b3, PySem.W.mg_of X G a3, _, _, F4, b4, PySem.W.mg_of X G a4, _, _, F5, b5, PySem.W.mg_of X G a5, _, _, F6, b6, PySem.W.mg_of X G a6, _, _, F7, b7, PySem.W.mg_of X G a7, _, _, F8, b8, PySem.W.mg_of X G a8, _, _, F9, b9, PySem.W.mg_of X G a9, _, _, F10, b10, PySem.W.mg_of X G a10, _, _, F11, b11, PySem.W.mg_of X G a11, _, _, F12, b12, PySem.W.mg_of X G a12, _, _, F13, b13, PySem.W.mg_of X G a13, _, _, F14, b14, PySem.W.mg_of X G a14, _, _, F15, b15, PySem.W.mg_of X G a15, _, _, F16, b16, PySem.W.mg_of X G a16, _, _, F17, b17, PySem.W.mg_of X G a17, _, _, F18, b18, PySem.W.mg_of X G a18, _, _, F19, b19, PySem.W.mg_of X G a19, _, _, F20, b20, PySem.W.mg_of X G a20, _, _, F21, b21, PySem.W.mg_of X G a21, _, _, F22, b22, PySem.W.mg_of X G a22, _, _, F23, b23, PySem.W.mg_of X G a23, _, _, F24, b24, PySem.W.mg_of X G a24, _, _, F25, b25, PySem.W.mg_of X G a25, _, _, F26, b26, PySem.W.mg_of X G a26, _, _, F27, b27, C_Program, ⟨pg_Program, hd_Program, po_Program, sa_Program⟩, PySem.W.mg_of X G aC_Program, n_Program_modulus, n_Program_cells, n_Program_inputs, n_Program_steps, ⟨mk_Program, a27, i27, kc_Program⟩, E_BrimfulError, PySem.W.mg_of X G aE_BrimfulError, xE_BrimfulError, kE_BrimfulError, bE_BrimfulError, tE_BrimfulError, dE_BrimfulError, ⟨h1E_BrimfulError, h2E_BrimfulError, bE_BrimfulError, dE_BrimfulError, h3E_BrimfulError, hnE, htE, h4E_BrimfulError⟩, E_BadStep, PySem.W.mg_of X G aE_BadStep, xE_BadStep, kE_BadStep, bE_BadStep, tE_BadStep, dE_BadStep, ⟨h1E_BadStep, h2E_BadStep, bE_BadStep, dE_BadStep, h3E_BadStep, hnE, htE, h4E_BadStep⟩, E_BadGate, PySem.W.mg_of X G aE_BadGate, xE_BadGate, kE_BadGate, bE_BadGate, tE_BadGate, dE_BadGate, ⟨h1E_BadGate, h2E_BadGate, bE_BadGate, dE_BadGate, h3E_BadGate, hnE, htE, h4E_BadGate⟩, E_BadMemory, PySem.W.mg_of X G aE_BadMemory, xE_BadMemory, kE_BadMemory, bE_BadMemory, tE_BadMemory, dE_BadMemory, ⟨h1E_BadMemory, h2E_BadMemory, bE_BadMemory, dE_BadMemory, h3E_BadMemory, hnE, htE, h4E_BadMemory⟩, sE_BrimfulError_BrimfulError, sE_BrimfulError_BadStep, sE_BrimfulError_BadGate, sE_BrimfulError_BadMemory, sE_BadStep_BrimfulError, sE_BadStep_BadStep, sE_BadStep_BadGate, sE_BadStep_BadMemory, sE_BadGate_BrimfulError, sE_BadGate_BadStep, sE_BadGate_BadGate, sE_BadGate_BadMemory, sE_BadMemory_BrimfulError, sE_BadMemory_BadStep, sE_BadMemory_BadGate, sE_BadMemory_BadMemory, PySem.W.mg_none_of X G z_all, PySem.W.mg_none_of X G z_any, PySem.W.mg_none_of X G z_bool, PySem.W.mg_none_of X G z_enumerate, PySem.W.mg_none_of X G z_int, PySem.W.mg_none_of X G z_isinstance, PySem.W.mg_none_of X G z_len, PySem.W.mg_none_of X G z_list, PySem.W.mg_none_of X G z_range, PySem.W.mg_none_of X G z_set, PySem.W.mg_none_of X G z_sorted, PySem.W.mg_none_of X G z_str, PySem.W.mg_none_of X G z_tuple, PySem.W.mg_of X G z_gcd, PySem.W.mg_of X G z_isqrt, _, PySem.W.mg_of X G z_GREATEST_MODULUS, _, PySem.W.mg_of X G z_MOST_CELLS, _, PySem.W.mg_of X G z_MOST_FACTORS, _, PySem.W.mg_of X G z_MOST_INPUTS, _, PySem.W.mg_of X G z_MOST_STEPS⟩ : Txt K mg)⟩
end
end Br
open PySem PySem.W PyProof.Rows
set_option maxRecDepth 100000 in
set_option maxHeartbeats 0 in
theorem PySem.Challenge.cw_brimful_k34_programs_become_gates_holds : PySem.Challenge.rw_brimful_k34_programs_become_gates.Holds := by
  w_on; o_law; k_head; (case hw => w_witness2)
  k_fill
  refine L2.walk_of (l := PySem.Challenge.rw_brimful_k34_programs_become_gates) (n := 63) (k := 12) (x := "script") (CX := fun _ => L2.CX0) (sp := fun w => Br.sp_law _) rfl (by decide) rfl ⟨rfl, by decide, by decide⟩ (fun w h Y => PySem.W.kIn_of Y) ?F (fun _ _ a ns hl _ hS => ⟨a, ns, rfl, hS, hl, fun _ => rfl⟩) (fun _ _ _ _ _ h => h)
  case F =>
    intro w mg fa h KX G hmg
    refine' Br.all_mk KX G hmg ?aC_Program ?pg_Program ?hd_Program ?po_Program ?sa_Program ?mk_Program ?kc_Program ?hnE ?htE ?aE_BrimfulError ?xE_BrimfulError ?kE_BrimfulError ?bE_BrimfulError ?tE_BrimfulError ?dE_BrimfulError ?h1E_BrimfulError ?h2E_BrimfulError ?h3E_BrimfulError ?h4E_BrimfulError ?aE_BadStep ?xE_BadStep ?kE_BadStep ?bE_BadStep ?tE_BadStep ?dE_BadStep ?h1E_BadStep ?h2E_BadStep ?h3E_BadStep ?h4E_BadStep ?aE_BadGate ?xE_BadGate ?kE_BadGate ?bE_BadGate ?tE_BadGate ?dE_BadGate ?h1E_BadGate ?h2E_BadGate ?h3E_BadGate ?h4E_BadGate ?aE_BadMemory ?xE_BadMemory ?kE_BadMemory ?bE_BadMemory ?tE_BadMemory ?dE_BadMemory ?h1E_BadMemory ?h2E_BadMemory ?h3E_BadMemory ?h4E_BadMemory ?sE_BrimfulError_BrimfulError ?sE_BrimfulError_BadStep ?sE_BrimfulError_BadGate ?sE_BrimfulError_BadMemory ?sE_BadStep_BrimfulError ?sE_BadStep_BadStep ?sE_BadStep_BadGate ?sE_BadStep_BadMemory ?sE_BadGate_BrimfulError ?sE_BadGate_BadStep ?sE_BadGate_BadGate ?sE_BadGate_BadMemory ?sE_BadMemory_BrimfulError ?sE_BadMemory_BadStep ?sE_BadMemory_BadGate ?sE_BadMemory_BadMemory ?a0 ?l0 ?c0 ?k0 ?a1 ?l1 ?c1 ?k1 ?a2 ?l2 ?c2 ?k2 ?a3 ?l3 ?c3 ?k3 ?a4 ?l4 ?c4 ?k4 ?a5 ?l5 ?c5 ?k5 ?a6 ?l6 ?c6 ?k6 ?a7 ?l7 ?c7 ?k7 ?a8 ?l8 ?c8 ?k8 ?a9 ?l9 ?c9 ?k9 ?a10 ?l10 ?c10 ?k10 ?a11 ?l11 ?c11 ?k11 ?a12 ?l12 ?c12 ?k12 ?a13 ?l13 ?c13 ?k13 ?a14 ?l14 ?c14 ?k14 ?a15 ?l15 ?c15 ?k15 ?a16 ?l16 ?c16 ?k16 ?a17 ?l17 ?c17 ?k17 ?a18 ?l18 ?c18 ?k18 ?a19 ?l19 ?c19 ?k19 ?a20 ?l20 ?c20 ?k20 ?a21 ?l21 ?c21 ?k21 ?a22 ?l22 ?c22 ?k22 ?a23 ?l23 ?c23 ?k23 ?a24 ?l24 ?c24 ?k24 ?a25 ?l25 ?c25 ?k25 ?a26 ?l26 ?c26 ?k26 ?a27 ?i27 ?l27 ?c27 ?k27 ?n_Program_modulus ?n_Program_cells ?n_Program_inputs ?n_Program_steps ?z_all ?z_any ?z_bool ?z_enumerate ?z_int ?z_isinstance ?z_len ?z_list ?z_range ?z_set ?z_sorted ?z_str ?z_tuple ?z_gcd ?z_isqrt ?z_GREATEST_MODULUS ?z_MOST_CELLS ?z_MOST_FACTORS ?z_MOST_INPUTS ?z_MOST_STEPS
    (case aC_Program => k_is)
    (case pg_Program => k_is)
    (case hd_Program => k_is)
    (case po_Program => k_is)
    (case sa_Program => k_is)
    (case mk_Program => k_is)
    (case kc_Program => k_is)
    (case hnE => k_is)
    (case htE => k_is)
    (case aE_BrimfulError => k_is)
    (case xE_BrimfulError => k_exc)
    (case kE_BrimfulError => k_is)
    (case bE_BrimfulError => k_is)
    (case tE_BrimfulError => k_is)
    (case dE_BrimfulError => k_is)
    (case h1E_BrimfulError => k_is)
    (case h2E_BrimfulError => k_is)
    (case h3E_BrimfulError => k_is)
    (case h4E_BrimfulError => k_is)
    (case aE_BadStep => k_is)
    (case xE_BadStep => k_exc)
    (case kE_BadStep => k_is)
    (case bE_BadStep => k_is)
    (case tE_BadStep => k_is)
    (case dE_BadStep => k_is)
    (case h1E_BadStep => k_is)
    (case h2E_BadStep => k_is)
    (case h3E_BadStep => k_is)
    (case h4E_BadStep => k_is)
    (case aE_BadGate => k_is)
    (case xE_BadGate => k_exc)
    (case kE_BadGate => k_is)
    (case bE_BadGate => k_is)
    (case tE_BadGate => k_is)
    (case dE_BadGate => k_is)
    (case h1E_BadGate => k_is)
    (case h2E_BadGate => k_is)
    (case h3E_BadGate => k_is)
    (case h4E_BadGate => k_is)
    (case aE_BadMemory => k_is)
    (case xE_BadMemory => k_exc)
    (case kE_BadMemory => k_is)
    (case bE_BadMemory => k_is)
    (case tE_BadMemory => k_is)
    (case dE_BadMemory => k_is)
    (case h1E_BadMemory => k_is)
    (case h2E_BadMemory => k_is)
    (case h3E_BadMemory => k_is)
    (case h4E_BadMemory => k_is)
    (case sE_BrimfulError_BrimfulError => first | rfl | k_is)
    (case sE_BrimfulError_BadStep => first | rfl | k_is)
    (case sE_BrimfulError_BadGate => first | rfl | k_is)
    (case sE_BrimfulError_BadMemory => first | rfl | k_is)
    (case sE_BadStep_BrimfulError => first | rfl | k_is)
    (case sE_BadStep_BadStep => first | rfl | k_is)
    (case sE_BadStep_BadGate => first | rfl | k_is)
    (case sE_BadStep_BadMemory => first | rfl | k_is)
    (case sE_BadGate_BrimfulError => first | rfl | k_is)
    (case sE_BadGate_BadStep => first | rfl | k_is)
    (case sE_BadGate_BadGate => first | rfl | k_is)
    (case sE_BadGate_BadMemory => first | rfl | k_is)
    (case sE_BadMemory_BrimfulError => first | rfl | k_is)
    (case sE_BadMemory_BadStep => first | rfl | k_is)
    (case sE_BadMemory_BadGate => first | rfl | k_is)
    (case sE_BadMemory_BadMemory => first | rfl | k_is)
    (case a0 => k_is)
    (case l0 => k_is)
    (case c0 => k_is)
    (case k0 => k_is)
    (case a1 => k_is)
    (case l1 => k_is)
    (case c1 => k_is)
    (case k1 => k_is)
    (case a2 => k_is)
    (case l2 => k_is)
    (case c2 => k_is)
    (case k2 => k_is)
    (case a3 => k_is)
    (case l3 => k_is)
    (case c3 => k_is)
    (case k3 => k_is)
    (case a4 => k_is)
    (case l4 => k_is)
    (case c4 => k_is)
    (case k4 => k_is)
    (case a5 => k_is)
    (case l5 => k_is)
    (case c5 => k_is)
    (case k5 => k_is)
    (case a6 => k_is)
    (case l6 => k_is)
    (case c6 => k_is)
    (case k6 => k_is)
    (case a7 => k_is)
    (case l7 => k_is)
    (case c7 => k_is)
    (case k7 => k_is)
    (case a8 => k_is)
    (case l8 => k_is)
    (case c8 => k_is)
    (case k8 => k_is)
    (case a9 => k_is)
    (case l9 => k_is)
    (case c9 => k_is)
    (case k9 => k_is)
    (case a10 => k_is)
    (case l10 => k_is)
    (case c10 => k_is)
    (case k10 => k_is)
    (case a11 => k_is)
    (case l11 => k_is)
    (case c11 => k_is)
    (case k11 => k_is)
    (case a12 => k_is)
    (case l12 => k_is)
    (case c12 => k_is)
    (case k12 => k_is)
    (case a13 => k_is)
    (case l13 => k_is)
    (case c13 => k_is)
    (case k13 => k_is)
    (case a14 => k_is)
    (case l14 => k_is)
    (case c14 => k_is)
    (case k14 => k_is)
    (case a15 => k_is)
    (case l15 => k_is)
    (case c15 => k_is)
    (case k15 => k_is)
    (case a16 => k_is)
    (case l16 => k_is)
    (case c16 => k_is)
    (case k16 => k_is)
    (case a17 => k_is)
    (case l17 => k_is)
    (case c17 => k_is)
    (case k17 => k_is)
    (case a18 => k_is)
    (case l18 => k_is)
    (case c18 => k_is)
    (case k18 => k_is)
    (case a19 => k_is)
    (case l19 => k_is)
    (case c19 => k_is)
    (case k19 => k_is)
    (case a20 => k_is)
    (case l20 => k_is)
    (case c20 => k_is)
    (case k20 => k_is)
    (case a21 => k_is)
    (case l21 => k_is)
    (case c21 => k_is)
    (case k21 => k_is)
    (case a22 => k_is)
    (case l22 => k_is)
    (case c22 => k_is)
    (case k22 => k_is)
    (case a23 => k_is)
    (case l23 => k_is)
    (case c23 => k_is)
    (case k23 => k_is)
    (case a24 => k_is)
    (case l24 => k_is)
    (case c24 => k_is)
    (case k24 => k_is)
    (case a25 => k_is)
    (case l25 => k_is)
    (case c25 => k_is)
    (case k25 => k_is)
    (case a26 => k_is)
    (case l26 => k_is)
    (case c26 => k_is)
    (case k26 => k_is)
    (case a27 => k_is)
    (case i27 => k_is)
    (case l27 => k_is)
    (case c27 => k_is)
    (case k27 => k_is)
    (case n_Program_modulus => k_is)
    (case n_Program_cells => k_is)
    (case n_Program_inputs => k_is)
    (case n_Program_steps => k_is)
    (case z_all => k_is)
    (case z_any => k_is)
    (case z_bool => k_is)
    (case z_enumerate => k_is)
    (case z_int => k_is)
    (case z_isinstance => k_is)
    (case z_len => k_is)
    (case z_list => k_is)
    (case z_range => k_is)
    (case z_set => k_is)
    (case z_sorted => k_is)
    (case z_str => k_is)
    (case z_tuple => k_is)
    (case z_gcd => k_is)
    (case z_isqrt => k_is)
    (case z_GREATEST_MODULUS => k_is)
    (case z_MOST_CELLS => k_is)
    (case z_MOST_FACTORS => k_is)
    (case z_MOST_INPUTS => k_is)
    (case z_MOST_STEPS => k_is)
