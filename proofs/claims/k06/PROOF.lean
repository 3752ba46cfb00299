import PyProof.Rows.All
import Wide.All
import OpenK.AllK
import Wide.FinOn
import HandS.ForMost
import HandS.Gcd
import HandS.Wide
import HandS.IsInst
import HandS.Steps
import HandS.SortKw
import HandS.Style
import HandS.Star
import HandS.SetFor
import HandS.TupAny
import PyProof.SetRoads
import PyProof.Rows.SetFrom
import KE.DataMinMax
import HandS.Evl
import HandS.Walk
import HandS.ForExc
import HandS.ExcIs
import HandS.RaiseMore
import HandS.Codes
import HandS.Flt
import HandS.FStr
import KE.GoesEnum
import PyProof.Rows.MatchSeqLen
import Flt.RightSqrt
import PySem.Challenge.RW_brimful_k06_programs_are_joined_and_part
set_option Elab.async false
set_option linter.all false
set_option maxRecDepth 100000
set_option maxHeartbeats 4000000

namespace Br
open PySem PySem.Spec PyProof.Rows L2

/-! ### readings with names -/
def rLen (K : PySem.W.Frag) : List V → Hp → VK → Prop := fun xs H Q => ∃ p ys, xs = [.ref p] ∧ (SqL K H p ys ∨ SqT K H p ys) ∧ Q (.int ys.length) H
theorem cr_len {X : Cx} : CallR X (.builtin "len") (rLen X.K) := call_len_seq
def rInt1 : List V → Hp → VK → Prop := fun xs H Q => (∃ i, xs = [.int i] ∧ Q (.int i) H) ∨ ∃ k, xs = [.bl k] ∧ Q (.int (if k then 1 else 0)) H
theorem cr_int1 {X : Cx} : CallR X (.type "int") rInt1 := call_int1
def rMin2 : List V → Hp → VK → Prop := fun xs H Q => ∃ i j, xs = [.int i, .int j] ∧ Q (.int (if j < i then j else i)) H
theorem cr_min2 {X : Cx} (hc : X.calm = true) : CallR X (.builtin "min") rMin2 := call_min2 hc
def rMax2 : List V → Hp → VK → Prop := fun xs H Q => ∃ i j, xs = [.int i, .int j] ∧ Q (.int (if j > i then j else i)) H
theorem cr_max2 {X : Cx} (hc : X.calm = true) : CallR X (.builtin "max") rMax2 := call_max2 hc
def rListOf (K : PySem.W.Frag) : List V → Hp → VK → Prop := fun xs H Q => ∃ p ys, xs = [.ref p] ∧ (SqL K H p ys ∨ SqT K H p ys) ∧ ∀ l, H l = none → Q (.ref l) (upd H l (.lst ys))
theorem cr_list_of {X : Cx} : CallR X (.type "list") (rListOf X.K) := call_list_of
def rTupOf (K : PySem.W.Frag) : List V → Hp → VK → Prop := fun xs H Q => ∃ p ys, xs = [.ref p] ∧ ((SqL K H p ys ∧ ∀ l, H l = none → Q (.ref l) (upd H l (.tup ys))) ∨ (SqT K H p ys ∧ Q (.ref p) H))
theorem cr_tup_of {X : Cx} : CallR X (.type "tuple") (rTupOf X.K) := call_tuple_of
def cr_isqrt_r : List V → Hp → VK → Prop := fun vs H Q => ∃ i : Int, vs = [.int i] ∧ 0 ≤ i ∧ i < 2 ^ 64 ∧ Q (.int ((Float64.isqrt i.toNat : Nat) : Int)) H
/-! ### steps of a reading -/
section
variable {σ : L2.St} {H : Hp} {D : Ends} {Q : VK} {QT : Bool → Hp → Prop} {QA : List V → Hp → Prop} {K : PySem.W.Frag}
theorem x_seq {a u : TS} (h : a ⟨u D, D.rt, D.bk, D.ct⟩ σ H) : tSeq a u D σ H := h
theorem x_cut {a u : TS} (M : L2.St → Hp → Prop) (h : a ⟨M, D.rt, D.bk, D.ct⟩ σ H) (k : ∀ σ' H', M σ' H' → u D σ' H') : Evl.tCut a u D σ H := ⟨M, h, k⟩
theorem x_next (h : D.nx σ H) : tNext D σ H := h
theorem x_set {te : TE} {i : Nat} (h : te σ H fun x H1 => D.nx (σ.set i (some x)) H1) : tAsg te (gName i) D σ H := h
theorem x_asg {te : TE} {g : TG} (h : te σ H fun x H1 => g x σ H1 D.nx) : tAsg te g D σ H := h
/-- what a field's reading asks of the object -/
def FldR (K : PySem.W.Frag) (f : Str) (x : V) (H : Hp) (Q : VK) : Prop := ∃ a C dx fs v, x = .ref a ∧ H a = some (.ins C dx fs) ∧ Cls K C ∧ NoAttr K C f ∧ fs.lookup f = some v ∧ Q v H
theorem x_fld {ta : TE} {f : Str} (h : ta σ H fun x H1 => FldR K f x H1 Q) : tFld K ta f σ H Q := h
theorem x_fldR {a C dx : Addr} {fs : List (Str × V)} {f : Str} {v : V} (h : H a = some (.ins C dx fs)) (c : Cls K C) (n : NoAttr K C f) (l : fs.lookup f = some v) (q : Q v H) : FldR K f (.ref a) H Q := ⟨a, C, dx, fs, v, rfl, h, c, n, l, q⟩
/-- what storing a field asks -/
def FldS (K : PySem.W.Frag) (f : Str) (y x : V) (H : Hp) (R : Hp → Prop) : Prop := ∃ a C dx fs, x = .ref a ∧ H a = some (.ins C dx fs) ∧ Cls K C ∧ NoAttr K C f ∧ fs.length < 1000 ∧ R (upd H a (.ins C dx (putF f y fs)))
theorem x_fldS {ta tv : TE} {f : Str} (h : tv σ H fun y H1 => ta σ H1 fun x H2 => FldS K f y x H2 fun H3 => D.nx σ H3) : sFld K ta tv f D σ H := h
theorem x_gName {i : Nat} {v : V} {R : L2.St → Hp → Prop} (h : R (σ.set i (some v)) H) : gName i v σ H R := h
theorem x_par {i j : Nat} {ta tb : TE} (h : ta σ H fun x H1 => tb σ H1 fun y H2 => D.nx ((σ.set i (some x)).set j (some y)) H2) : tPar i j (tCons ta (tCons tb tNil)) D σ H :=
  (congrArg (fun (f : (V → Hp → Prop)) => ta σ H f) (funext fun x => funext fun H1 => congrArg (fun (f : (V → Hp → Prop)) => tb σ H1 f) (funext fun y => funext fun H2 => propext
    ⟨fun h => ⟨x, y, rfl, h⟩, fun ⟨v, w, e, h⟩ => by cases e; exact h⟩))).mp h
theorem x_ret {te : TE} (h : te σ H D.rt) : tRet te D σ H := h
theorem x_retN (h : D.rt .non H) : tRetN D σ H := h
theorem x_drop {te : TE} (h : te σ H fun _ H1 => D.nx σ H1) : tDrop te D σ H := h
theorem x_if {c : TT} {t u : TS} (h : c σ H fun b H1 => if b = true then t D σ H1 else u D σ H1) : tIfS c t u D σ H := h
theorem x_brk (h : D.bk σ H) : tBreak D σ H := h
theorem x_cont (h : D.ct σ H) : tCont D σ H := h
theorem x_var {i : Nat} {v : V} (h : σ[i]? = some (some v)) (q : Q v H) : tVar i σ H Q := ⟨v, h, q⟩
theorem x_c {v : V} (q : Q v H) : tC v σ H Q := q
theorem x_op {r : R2} {ta tb : TE} (h : ta σ H fun x H1 => tb σ H1 fun y H2 => r x y H2 Q) : tOp r ta tb σ H Q := h
theorem x_un {r : V → Hp → VK → Prop} {ta : TE} (h : ta σ H fun x H1 => r x H1 Q) : tUn r ta σ H Q := h
theorem x_I0 {g : Int → Int → V} {i j : Int} (q : Q (g i j) H) : rI0 g (.int i) (.int j) H Q := ⟨i, j, rfl, rfl, q⟩
theorem x_I {C : Int → Int → Prop} {g : Int → Int → V} {i j : Int} (c : C i j) (q : Q (g i j) H) : rI C g (.int i) (.int j) H Q := ⟨i, j, rfl, rfl, c, q⟩
theorem x_U {g : Int → V} {i : Int} (q : Q (g i) H) : rU g (.int i) H Q := ⟨i, rfl, q⟩
theorem v_int {i j : Int} : decide (V.int i = V.int j) = decide (i = j) := decide_eq_decide.mpr ⟨fun h => V.int.inj h, fun h => h ▸ rfl⟩
theorem x_EqI {i j : Int} (q : Q (.bl (decide (i = j))) H) : rEq (.int i) (.int j) H Q := ⟨rfl, v_int ▸ q⟩
theorem x_NeI {i j : Int} (q : Q (.bl (!decide (i = j))) H) : rNe (.int i) (.int j) H Q := ⟨rfl, by rw [v_int]; exact q⟩
theorem x_EqB {i j : Bool} (q : Q (.bl (decide (i = j))) H) : rEq (.bl i) (.bl j) H Q := ⟨rfl, by
  have e : decide (V.bl i = V.bl j) = decide (i = j) := decide_eq_decide.mpr ⟨fun h => V.bl.inj h, fun h => h ▸ rfl⟩
  rw [e]; exact q⟩
theorem x_Eq {x y : V} (s : scal x y = true) (q : Q (.bl (decide (x = y))) H) : rEq x y H Q := ⟨s, q⟩
theorem x_Ne {x y : V} (s : scal x y = true) (q : Q (.bl (!decide (x = y))) H) : rNe x y H Q := ⟨s, q⟩
theorem x_isN {x : V} (q : Q (.bl (decide (x = .non))) H) : (fun (x y : V) (H : Hp) (Q : VK) => y = V.non ∧ Q (.bl (decide (x = .non))) H) x .non H Q := ⟨rfl, q⟩
theorem x_ifE {t : TT} {ta tb : TE} (h : t σ H fun c H1 => if c = true then ta σ H1 Q else tb σ H1 Q) : tIf t ta tb σ H Q := h
theorem x_test {te : TE} {b : Unit} (h : te σ H fun x H1 => ∃ k, x = .bl k ∧ QT k H1) : tTest te σ H QT := h
theorem x_tB {te : TE} (h : te σ H fun x H1 => ∃ k, x = .bl k ∧ QT k H1) : tB te σ H QT := h
theorem x_bl {k : Bool} (q : QT k H) : ∃ k', V.bl k = .bl k' ∧ QT k' H := ⟨k, rfl, q⟩
theorem x_and {t u : TT} (h : t σ H fun c H1 => if c = true then u σ H1 QT else QT false H1) : tAnd t u σ H QT := h
theorem x_or {t u : TT} (h : t σ H fun c H1 => if c = true then QT true H1 else u σ H1 QT) : tOr t u σ H QT := h
theorem x_not {t : TT} (h : t σ H fun c H1 => QT (!c) H1) : tNot t σ H QT := h
theorem x_andV {ta tb : TE} (h : ta σ H fun x H1 => ∃ c, x = .bl c ∧ if c = true then tb σ H1 Q else Q (.bl false) H1) : tAndV ta tb σ H Q := h
theorem x_orV {ta tb : TE} (h : ta σ H fun x H1 => ∃ c, x = .bl c ∧ if c = true then Q (.bl true) H1 else tb σ H1 Q) : tOrV ta tb σ H Q := h
theorem x_notV {ta : TE} (h : ta σ H fun x H1 => ∃ c, x = .bl c ∧ Q (.bl (!c)) H1) : tNotV ta σ H Q := h
theorem x_blP {k : Bool} {P : Bool → Prop} (q : P k) : ∃ k', V.bl k = .bl k' ∧ P k' := ⟨k, rfl, q⟩
theorem x_nil (q : QA [] H) : tNil σ H QA := q
theorem x_cons {ta : TE} {tr : TA} (h : ta σ H fun x H1 => tr σ H1 fun xs H2 => QA (x :: xs) H2) : tCons ta tr σ H QA := h
theorem x_call {sp : Sp} {dvs : List V} {E : XK} {t : TA} (h : t σ H fun vs H1 => sp (vs ++ dvs) H1 Q E) : tCall sp dvs E t σ H Q := h
theorem x_CB {r : List V → Hp → VK → Prop} {t : TA} (h : t σ H fun vs H1 => r vs H1 Q) : tCB r t σ H Q := h
theorem x_BM {T : String} {r : V → List V → Hp → VK → Prop} {to : TE} {t : TA} (h : to σ H fun x H1 => tyV K T x H1 ∧ t σ H1 fun xs H2 => r x xs H2 Q) : tBM K T r to t σ H Q := h
theorem x_tup {t : TA} (h : t σ H fun xs H1 => xs.length ≤ sizeLine ∧ ∀ p, H1 p = none → Q (.ref p) (upd H1 p (.tup xs))) : tTup t σ H Q := h
theorem x_lst {t : TA} (h : t σ H fun xs H1 => xs.length ≤ sizeLine ∧ ∀ p, H1 p = none → Q (.ref p) (upd H1 p (.lst xs))) : tLst t σ H Q := h
theorem x_chain {r r' : R2} {ta tb tc : TE} (h : ta σ H fun x H1 => tb σ H1 fun y H2 => r x y H2 fun z H3 => ∃ k, z = .bl k ∧
  (if k = true then tc σ H3 fun w' H4 => r' y w' H4 Q else Q (.bl false) H3)) : tChain r r' ta tb tc σ H Q := h
theorem x_isi {x : V} {T S : String} {b : Bool} (ty : TyX K H x (.type S)) (h : kitB S T = some b) (q : Q (.bl b) H) : rIsi K [x, .ty T] H Q := ⟨x, .ty T, .type S, .type T, b, rfl, .ty T, ty, kit_ty h, q⟩
theorem x_iN {x : V} (q : Q (.bl (decide (x = .non))) H) : rIsN x .non H Q := ⟨rfl, q⟩
theorem x_nN {x : V} (q : Q (.bl (!decide (x = .non))) H) : rNotN x .non H Q := ⟨rfl, q⟩
theorem x_int1 {i : Int} (q : Q (.int i) H) : rInt1 [.int i] H Q := .inl ⟨i, rfl, q⟩
theorem x_min2 {i j : Int} (q : Q (.int (if j < i then j else i)) H) : rMin2 [.int i, .int j] H Q := ⟨i, j, rfl, q⟩
theorem x_max2 {i j : Int} (q : Q (.int (if j > i then j else i)) H) : rMax2 [.int i, .int j] H Q := ⟨i, j, rfl, q⟩
theorem x_listL {p : Addr} {xs : List V} (hp : SqL K H p xs) (q : ∀ l, H l = none → Q (.ref l) (upd H l (.lst xs))) : rListOf K [.ref p] H Q := ⟨p, xs, rfl, .inl hp, q⟩
theorem x_tupL {p : Addr} {xs : List V} (hp : SqL K H p xs) (q : ∀ l, H l = none → Q (.ref l) (upd H l (.tup xs))) : rTupOf K [.ref p] H Q := ⟨p, xs, rfl, .inl ⟨hp, q⟩⟩
theorem x_ite {p : Prop} [Decidable p] {A B : Prop} (h1 : p → A) (h2 : ¬ p → B) : if decide p = true then A else B := by
  by_cases h : p
  · rw [if_pos (decide_eq_true h)]; exact h1 h
  · rw [if_neg (by rw [decide_eq_false h]; exact Bool.false_ne_true)]; exact h2 h
theorem x_iteN {p : Prop} [Decidable p] {A B : Prop} (h1 : ¬ p → A) (h2 : p → B) : if (!decide p) = true then A else B := by
  by_cases h : p
  · rw [if_neg (by rw [decide_eq_true h]; decide)]; exact h2 h
  · rw [if_pos (by rw [decide_eq_false h]; rfl)]; exact h1 h
theorem x_iteB {b : Bool} {A B : Prop} (h1 : b = true → A) (h2 : b = false → B) : if b = true then A else B := by
  cases b with
  | true => rw [if_pos rfl]; exact h1 rfl
  | false => rw [if_neg Bool.false_ne_true]; exact h2 rfl
theorem x_iteBN {b : Bool} {A B : Prop} (h1 : b = false → A) (h2 : b = true → B) : if (!b) = true then A else B := by
  cases b with
  | true => rw [if_neg (by decide)]; exact h2 rfl
  | false => rw [if_pos (by decide)]; exact h1 rfl
theorem x_subL {i : Int} {x : V} {xs : List V} {p : Addr} {k : Nat} {q : Hp → Prop} (hp : H p = some (.lst xs)) (hk : ixN xs.length i = some k) (h : q (upd H p (.lst (xs.set k x)))) : rSetL (.ref p) (.int i) x H q :=
  ⟨p, xs, i, k, rfl, rfl, hp, hk, h⟩
theorem x_gSub {to ti : TE} {t : TSet} {v : V} {q : L2.St → Hp → Prop} (h : to σ H fun o H1 => ti σ H1 fun i H2 => t o i v H2 fun H3 => q σ H3) : gSub to ti t v σ H q := h
theorem x_for {wi : TI} {g : TG} {tb : TS} (h : wi σ H fun J H1 => ∃ W : Nat → Nat → L2.St → Hp → Prop, (∃ m, W 0 m σ H1) ∧ ∀ i m σ H, W i m σ H →
  (J.stop i H ∧ D.nx σ H) ∨ (J.go i H ∧ ∃ N : L2.St → Hp → Prop, (∀ σ' H', N σ' H' → ∃ m', m' < m ∧ W (i + 1) m' σ' H') ∧ ∀ x H', J.yld i H x H' → g x σ H' fun σ2 H2 => tb { D with nx := N, ct := N, bk := D.nx } σ2 H2)) : tFor wi g tb D σ H := h
theorem x_ixL {xs : List V} {i : Int} {v : V} {p : Addr} (hp : SqL K H p xs) (hi : atI xs i = some v) (q : Q v H) : rIxL K (.ref p) (.int i) H Q := ⟨p, xs, i, v, rfl, rfl, hp, hi, q⟩
theorem x_ixT {xs : List V} {i : Int} {v : V} {p : Addr} (hp : SqT K H p xs) (hi : atI xs i = some v) (q : Q v H) : rIxT K (.ref p) (.int i) H Q := ⟨p, xs, i, v, rfl, rfl, hp, hi, q⟩
/-- over a range from nought, of at most so many turns; the target a name -/
theorem x_forR1 {ta : TE} {j : Nat} {tb : TS} (n : Int) (P : Nat → L2.St → Hp → Prop) (hn : ∀ R : V → Hp → Prop, R (.int n) H → ta σ H R) (h1 : -(2 ^ 62) ≤ n) (h2 : n < 2 ^ 62) (h0 : P 0 σ H)
    (hs : ∀ (i : Nat) σ' H', (i : Int) < n → P i σ' H' → tb ⟨P (i + 1), D.rt, D.nx, P (i + 1)⟩ (σ'.set j (some (.int (i : Int)))) H') (hd : ∀ σ' H', P n.toNat σ' H' → D.nx σ' H') : tFor (iRng1 (tCons ta tNil)) (gName j) tb D σ H := by
  refine hn _ ⟨n, rfl, h1, h2, ?_⟩
  refine for_range (lo := 0) P h0 (fun i σ' H' hi p => ?_) hd
  have e : (0 : Int) + (i : Int) = (i : Int) := Int.zero_add _
  rw [e]
  exact hs i σ' H' (by omega) p
theorem x_forR2 {ta tc : TE} {j : Nat} {tb : TS} (lo n : Int) (P : Nat → L2.St → Hp → Prop) (hn : ∀ R : V → Hp → Prop, R (.int lo) H → ta σ H R) (hn2 : ∀ R : V → Hp → Prop, R (.int n) H → tc σ H R) (h1 : -(2 ^ 62) ≤ lo) (h2 : lo < 2 ^ 62) (h3 : -(2 ^ 62) ≤ n) (h4 : n < 2 ^ 62) (h0 : P 0 σ H)
    (hs : ∀ (i : Nat) σ' H', lo + (i : Int) < n → P i σ' H' → tb ⟨P (i + 1), D.rt, D.nx, P (i + 1)⟩ (σ'.set j (some (.int (lo + (i : Int))))) H') (hd : ∀ σ' H', P (n - lo).toNat σ' H' → D.nx σ' H') : tFor (iRng2 (tCons ta (tCons tc tNil))) (gName j) tb D σ H := by
  refine hn _ (hn2 _ ⟨lo, n, rfl, ⟨h1, h2, h3, h4⟩, ?_⟩)
  refine for_range (lo := lo) P h0 (fun i σ' H' hi p => ?_) hd
  exact hs i σ' H' (by omega) p
theorem rgC_up {i j c : Int} (hc : 0 < c) (hc2 : c < 1000000) (ha : 0 ≤ i) (ha' : i < 2 ^ 60) (hb : 0 ≤ j) (hb' : j < 2 ^ 60) : RgC i j c ((if i < j then (j - i - 1) / c + 1 else 0 : Int)).toNat := by
  have hd : 0 ≤ (j - i - 1) / c ∨ ¬ i < j := by
    by_cases h : i < j
    · exact .inl (Int.ediv_nonneg (by omega) (by omega))
    · exact .inr h
  have hd2 : i < j → (j - i - 1) / c * c ≤ j - i - 1 := fun _ => Int.ediv_mul_le _ (by omega)
  have hd3 : i < j → (j - i - 1) / c ≤ j - i - 1 := fun h => by
    have h0 : 0 ≤ (j - i - 1) / c := Int.ediv_nonneg (by omega) (by omega)
    have := hd2 h
    have h1 : (j - i - 1) / c * 1 ≤ (j - i - 1) / c * c := Int.mul_le_mul_of_nonneg_left (by omega) h0
    omega
  refine ⟨by omega, by omega, ?_, ?_⟩
  · unfold Builtin.Range.small Builtin.Range.rangeSize
    simp only [Builtin.Range.rangeFitsLong, Bool.and_eq_true, Bool.or_eq_true, decide_eq_true_eq, beq_iff_eq, show (c > 0) from hc, if_true]
    split
    · rename_i h
      have := hd3 h
      have h0 : 0 ≤ (j - i - 1) / c := Int.ediv_nonneg (by omega) (by omega)
      have := hd2 h
      generalize (j - i - 1) / c = q at *
      have e : (q + 1) * c = q * c + c := by rw [Int.add_mul, Int.one_mul]
      have e2 : (q + 1 - 1) * c = q * c := by rw [Int.add_sub_cancel]
      refine ⟨?_, ?_⟩ <;> (try rw [e]) <;> (try rw [e2]) <;> omega
    · omega
  · unfold Builtin.Range.rangeSize
    rw [if_pos hc]
    split
    · rcases hd with h | h
      · omega
      · omega
    · rfl
theorem x_forR3 {ta tc te : TE} {j : Nat} {tb : TS} (lo n c : Int) (P : Nat → L2.St → Hp → Prop) (hn : ∀ R : V → Hp → Prop, R (.int lo) H → ta σ H R) (hn2 : ∀ R : V → Hp → Prop, R (.int n) H → tc σ H R) (hn3 : ∀ R : V → Hp → Prop, R (.int c) H → te σ H R) (hc : 0 < c) (hc2 : c < 1000000) (h1 : 0 ≤ lo) (h2 : lo < 2 ^ 60) (h3 : 0 ≤ n) (h4 : n < 2 ^ 60) (h0 : P 0 σ H)
    (hs : ∀ (i : Nat) σ' H', lo + (i : Int) * c < n → P i σ' H' → tb ⟨P (i + 1), D.rt, D.nx, P (i + 1)⟩ (σ'.set j (some (.int (lo + (i : Int) * c)))) H') (hd : ∀ (i : Nat) σ' H', n ≤ lo + (i : Int) * c → P i σ' H' → D.nx σ' H') : tFor (iRng3 (tCons ta (tCons tc (tCons te tNil)))) (gName j) tb D σ H := by
  refine hn _ (hn2 _ (hn3 _ ⟨lo, n, c, _, rfl, rgC_up hc hc2 h1 h2 h3 h4, ?_⟩))
  refine for_rangeC (lo := lo) P h0 (fun i σ' H' hi p => hs i σ' H' ?_ p) (fun σ' H' p => hd _ σ' H' ?_ p)
  · split at hi
    · have hq : (i : Int) ≤ (n - lo - 1) / c := by omega
      have h5 : (n - lo - 1) / c * c ≤ n - lo - 1 := Int.ediv_mul_le _ (by omega)
      have h6 : (i : Int) * c ≤ (n - lo - 1) / c * c := Int.mul_le_mul_of_nonneg_right hq (by omega)
      omega
    · omega
  · split
    · have h5 : n - lo - 1 < ((n - lo - 1) / c + 1) * c := Int.lt_ediv_add_one_mul_self _ hc
      have h0 : 0 ≤ (n - lo - 1) / c := Int.ediv_nonneg (by omega) (by omega)
      rw [show ((((n - lo - 1) / c + 1).toNat : Nat) : Int) = (n - lo - 1) / c + 1 by omega]
      omega
    · have : (((0 : Int).toNat : Nat) : Int) * c = 0 := by simp
      omega
theorem isq_spec {i : Int} (h0 : 0 ≤ i) : ∃ r : Int, ((Float64.isqrt i.toNat : Nat) : Int) = r ∧ 0 ≤ r ∧ r * r ≤ i ∧ i < (r + 1) * (r + 1) := by
  refine ⟨_, rfl, Int.natCast_nonneg _, ?_, ?_⟩
  · have := (PySem.Float64.isqrt_spec i.toNat).1
    have e : ((Float64.isqrt i.toNat * Float64.isqrt i.toNat : Nat) : Int) ≤ (i.toNat : Int) := Int.ofNat_le.mpr this
    rw [Int.natCast_mul] at e
    omega
  · have := (PySem.Float64.isqrt_spec i.toNat).2
    have e : (i.toNat : Int) < (((Float64.isqrt i.toNat + 1) * (Float64.isqrt i.toNat + 1) : Nat) : Int) := Int.ofNat_lt.mpr this
    rw [Int.natCast_mul, Int.natCast_add] at e
    have e2 : ((1 : Nat) : Int) = 1 := rfl
    rw [e2] at e
    omega
theorem x_isqrt0 {i r : Int} (h0 : 0 ≤ i) (h1 : i < 2 ^ 64) (e : ((Float64.isqrt i.toNat : Nat) : Int) = r) (q : Q (.int r) H) : cr_isqrt_r [.int i] H Q := ⟨i, rfl, h0, h1, by rw [e]; exact q⟩
theorem x_forL {ta : TE} {g : TG} {tb : TS} {p : Addr} (xs : List V) (P : Nat → L2.St → Hp → Prop) (hn : ∀ R : V → Hp → Prop, R (.ref p) H → ta σ H R) (hp : SqL K H p xs) (h0 : P 0 σ H) (hl : ∀ i σ' H', i ≤ xs.length → P i σ' H' → SqL K H' p xs)
    (hs : ∀ i x σ' H', xs[i]? = some x → P i σ' H' → g x σ' H' fun σ2 H2 => tb ⟨P (i + 1), D.rt, D.nx, P (i + 1)⟩ σ2 H2) (hd : ∀ σ' H', P xs.length σ' H' → D.nx σ' H') : tFor (iList K ta) g tb D σ H :=
  hn _ ⟨p, rfl, ⟨xs, hp⟩, for_list (xs := xs) P h0 hl hs hd⟩
theorem x_app {p : Addr} {xs : List V} {y : V} (hp : H p = some (.lst xs)) (hl : xs.length < 1000000) (q : Q .non (upd H p (.lst (xs ++ [y])))) : rAppend (.ref p) [y] H Q :=
  ⟨p, xs, y, rfl, rfl, hp, Nat.lt_of_lt_of_le hl (by decide), q⟩
theorem x_tyL {p : Addr} {xs : List V} {R : Prop} (hp : H p = some (.lst xs)) (h : R) : tyV K "list" (.ref p) H ∧ R := ⟨.inl ⟨rfl, _, .inl (.inl hp)⟩, h⟩
theorem x_len {p : Addr} {xs : List V} (hp : SqL K H p xs) (q : Q (.int (xs.length : Int)) H) : rLen K [.ref p] H Q := ⟨p, xs, rfl, .inl hp, q⟩
theorem x_lenT {p : Addr} {xs : List V} (hp : SqT K H p xs) (q : Q (.int (xs.length : Int)) H) : rLen K [.ref p] H Q := ⟨p, xs, rfl, .inr hp, q⟩
theorem x_cat {p q : Addr} {xs ys : List V} (hp : H p = some (.lst xs)) (hq : H q = some (.lst ys)) (hl : xs.length + ys.length ≤ 1000000) (k : ∀ r, H r = none → Q (.ref r) (upd H r (.lst (xs ++ ys)))) : rCat (.ref p) (.ref q) H Q :=
  ⟨p, q, xs, ys, rfl, rfl, hp, hq, Nat.le_trans hl (by decide), k⟩
/-- while: a word by a measure -/
theorem x_while {c : TT} {tb : TS} (W : Nat → L2.St → Hp → Prop) (m0 : Nat) (h0 : W m0 σ H)
    (hs : ∀ m σ' H', W m σ' H' → ∃ b : Bool, (∀ R : Bool → Hp → Prop, R b H' → c σ' H' R) ∧ (b = true → tb ⟨fun σ2 H2 => ∃ m', m' < m ∧ W m' σ2 H2, D.rt, D.nx, fun σ2 H2 => ∃ m', m' < m ∧ W m' σ2 H2⟩ σ' H') ∧ (b = false → D.nx σ' H')) : tWhile c tb D σ H :=
  ⟨W, ⟨m0, h0⟩, fun m σ' H' w => by
    obtain ⟨b, h, h1, h2⟩ := hs m σ' H' w
    refine h _ ?_
    cases b with
    | true => exact iteT ⟨_, fun _ _ z => z, h1 rfl⟩
    | false => exact iteF (h2 rfl)⟩
theorem x_lcR1 {ta : TE} {j : Nat} {te : TE} {vs : List Nat} (n : Int) (P : Addr → Nat → Hp → Prop) (hn : ∀ R : V → Hp → Prop, R (.int n) H → ta σ H R) (h1 : -(2 ^ 62) ≤ n) (h2 : n < 2 ^ 62) (h0 : ∀ p, H p = none → P p 0 (upd H p (.lst [])))
    (hw : ∀ x, wipe ((wipe σ vs).set j (some x)) vs = wipe σ vs)
    (hs : ∀ p (i : Nat) H', H p = none → (i : Int) < n → P p i H' → te ((wipe σ vs).set j (some (.int (i : Int)))) H' fun y H4 => ∃ acc, H4 p = some (.lst acc) ∧ acc.length < sizeLine ∧ P p (i + 1) (upd H4 p (.lst (acc ++ [y]))))
    (hd : ∀ p H', H p = none → P p n.toNat H' → Q (.ref p) H') : tLc (iRng1 (tCons ta tNil)) (gName j) tYes te vs σ H Q := by
  refine hn _ ⟨n, rfl, h1, h2, fun p hp => ?_⟩
  refine lc_range (lo := 0) (Qd := fun H' => Q (.ref p) H') (P p) (h0 p hp) (fun i H' hi q => ?_) fun H' q => hd p H' hp q
  have e : (0 : Int) + (i : Int) = (i : Int) := Int.zero_add _
  rw [e]
  refine ⟨hw _, ?_⟩
  unfold tYes
  exact iteT (hs p i H' hp (by omega) q)
theorem x_lcL {ta : TE} {j : Nat} {te : TE} {vs : List Nat} {a : Addr} (xs : List V) (P : Addr → Nat → Hp → Prop) (hn : ∀ R : V → Hp → Prop, R (.ref a) H → ta σ H R) (ha : SqL K H a xs) (h0 : ∀ p, H p = none → P p 0 (upd H p (.lst [])))
    (hl : ∀ p i H', H p = none → i ≤ xs.length → P p i H' → SqL K H' a xs) (hw : ∀ x, wipe ((wipe σ vs).set j (some x)) vs = wipe σ vs)
    (hs : ∀ p (i : Nat) x H', H p = none → xs[i]? = some x → P p i H' → te ((wipe σ vs).set j (some x)) H' fun y H4 => ∃ acc, H4 p = some (.lst acc) ∧ acc.length < sizeLine ∧ P p (i + 1) (upd H4 p (.lst (acc ++ [y]))))
    (hd : ∀ p H', H p = none → P p xs.length H' → Q (.ref p) H') : tLc (iList K ta) (gName j) tYes te vs σ H Q := by
  refine hn _ ⟨a, rfl, ⟨xs, ha⟩, fun p hp => ?_⟩
  refine lc_list (xs := xs) (Qd := fun H' => Q (.ref p) H') (P p) (h0 p hp) (fun i H' hi q => hl p i H' hp hi q) (fun i x H' hi q => ?_) fun H' q => hd p H' hp q
  refine ⟨hw _, ?_⟩
  unfold tYes
  exact iteT (hs p i x H' hp hi q)
end
theorem x_gTup2 {K : PySem.W.Frag} {σ : L2.St} {H : Hp} {p : Addr} {x y : V} {i j : Nat} {R : L2.St → Hp → Prop} (hp : SqT K H p [x, y]) (h : R ((σ.set i (some x)).set j (some y)) H) : gTup K 2 (gCons (gName i) (gCons (gName j) gNil)) (.ref p) σ H R :=
  ⟨p, [x, y], rfl, hp, rfl, x, [y], rfl, y, [], rfl, rfl, h⟩
theorem sq_of {K : PySem.W.Frag} {H : Hp} {a : Addr} {xs : List V} (h : H a = some (.lst xs)) : SqL K H a xs := .inl (.inl h)
theorem st_of {K : PySem.W.Frag} {H : Hp} {a : Addr} {xs : List V} (h : H a = some (.tup xs)) : SqT K H a xs := .inl (.inl h)
theorem mul_r {i j : Int} (h1 : -(2 ^ 64) < j) (h2 : j < 2 ^ 64) : CMul i j := .inr ⟨h1, h2⟩
theorem mul_l {i j : Int} (h1 : -(2 ^ 64) < i) (h2 : i < 2 ^ 64) : CMul i j := .inl ⟨h1, h2⟩
theorem cr_isqrt {X : Cx} : CallR X (.builtin "math.isqrt") cr_isqrt_r := by
  intro pins s σ H vs us Q I r h
  obtain ⟨i, rfl, h0, h1, q⟩ := h
  cases r with
  | cons r1 rr =>
    cases rr
    obtain ⟨t, rfl⟩ := r1
    exact PySem.W.mg_isqrt h0 h1 ⟨.int _, H, I.tok _, ⟨_, rfl⟩, q⟩
/-- all but what stands at d is as it was -/
def Keep (d : Addr) (H H' : Hp) : Prop := ∀ b o, H b = some o → b ≠ d → H' b = some o
theorem Keep.refl (d : Addr) (H : Hp) : Keep d H H := fun _ _ h _ => h
theorem Keep.trans {d : Addr} {H H1 H2 : Hp} (a : Keep d H H1) (b : Keep d H1 H2) : Keep d H H2 := fun c o h n => b c o (a c o h n) n
theorem seqT {K : PySem.W.Frag} {H H' : Hp} {a : Addr} {xs : List V} (e : Same H H') (h : SqT K H a xs) : SqT K H' a xs := by
  rcases h with (h | ⟨o, h⟩) | h
  · exact .inl (.inl (e _ _ h))
  · exact .inl (.inr ⟨o, e _ _ h⟩)
  · exact .inr h
theorem sfree {H H' : Hp} (e : Same H H') {p : Addr} (h : H' p = none) : H p = none := e.free h
theorem sput {H H' : Hp} {p : Addr} {o : HO} (s : Same H H') (h : H p = none) : Same H (upd H' p o) := fun b x e => by
  rw [upd_ne (ne_of_none e h)]
  exact s b x e
theorem Same.tr {H H1 H2 : Hp} (a : Same H H1) (b : Same H1 H2) : Same H H2 := fun c o h => b c o (a c o h)
theorem Same.keep {d : Addr} {H H' : Hp} (a : Same H H') : Keep d H H' := fun c o h _ => a c o h
theorem same_upd {H : Hp} {p : Addr} {o : HO} (h : H p = none) : Same H (upd H p o) := fun b x e => by
  rw [upd_ne (ne_of_none e h)]
  exact e
theorem keep_upd {H : Hp} {p : Addr} {o : HO} : Keep p H (upd H p o) := fun b x e n => by
  rw [upd_ne n]
  exact e
/-- what is new may change -/
theorem Same.put {H H' : Hp} {p : Addr} {o : HO} (s : Same H H') (h : H p = none) : Same H (upd H' p o) := fun b x e => by
  rw [upd_ne (ne_of_none e h)]
  exact s b x e
theorem Keep.put {d : Addr} {H H' : Hp} {p : Addr} {o : HO} (s : Keep d H H') (h : H p = none) : Keep d H (upd H' p o) := fun b x e n => by
  rw [upd_ne (ne_of_none e h)]
  exact s b x e n
theorem Keep.seq {K : PySem.W.Frag} {d : Addr} {H H' : Hp} {a : Addr} {xs : List V} (e : Keep d H H') (n : a ≠ d) (h : SqL K H a xs) : SqL K H' a xs := by
  rcases h with (h | ⟨o, h⟩) | h
  · exact .inl (.inl (e _ _ h n))
  · exact .inl (.inr ⟨o, e _ _ h n⟩)
  · exact .inr h
/-- ints within bounds -/
def Rg (lo hi : Int) (ns : List Int) : Prop := ∀ z, z ∈ ns → lo ≤ z ∧ z < hi
theorem Rg.nil {lo hi : Int} : Rg lo hi [] := fun _ h => absurd h (by simp)
theorem Rg.app {lo hi : Int} {xs ys : List Int} (a : Rg lo hi xs) (b : Rg lo hi ys) : Rg lo hi (xs ++ ys) := fun z h => (List.mem_append.mp h).elim (a z) (b z)
theorem Rg.one {lo hi x : Int} (h1 : lo ≤ x) (h2 : x < hi) : Rg lo hi [x] := fun z h => by
  have e : z = x := by simpa using h
  subst e
  exact ⟨h1, h2⟩
theorem Rg.snoc {lo hi x : Int} {xs : List Int} (a : Rg lo hi xs) (h1 : lo ≤ x) (h2 : x < hi) : Rg lo hi (xs ++ [x]) := a.app (.one h1 h2)
theorem Rg.get {lo hi x : Int} {xs : List Int} {i : Nat} (a : Rg lo hi xs) (h : xs[i]? = some x) : lo ≤ x ∧ x < hi := a x (List.mem_of_getElem? h)
theorem map_get {ns : List Int} {i : Nat} {y : V} (h : (ns.map V.int)[i]? = some y) : ∃ z, ns[i]? = some z ∧ y = .int z := by
  rw [List.getElem?_map] at h
  cases e : ns[i]? with
  | none => rw [e] at h; cases h
  | some z => rw [e] at h; exact ⟨z, rfl, (Option.some.inj h).symm⟩
theorem gcd_step {a b : Int} : Int.gcd b (a % b) = Int.gcd a b := by
  rw [Int.emod_def, Int.gcd_sub_mul_left_right, Int.gcd_comm]
theorem half_step {a b : Int} (hb : 0 < b) (h : b < a) : b * (a % b) * 2 ≤ a * b := by
  have h1 := Int.emod_lt_of_pos a hb
  have h0 := Int.emod_nonneg a (show b ≠ 0 by omega)
  have h2 : b * (a / b) + a % b = a := Int.mul_ediv_add_emod a b
  have h3 : 1 ≤ a / b := (Int.le_ediv_iff_mul_le hb).mpr (by omega)
  have h4 : b * 1 ≤ b * (a / b) := Int.mul_le_mul_of_nonneg_left h3 (by omega)
  have h5 : a % b * 2 ≤ a := by omega
  have h6 : a % b * 2 * b ≤ a * b := Int.mul_le_mul_of_nonneg_right h5 (by omega)
  have e : b * (a % b) * 2 = a % b * 2 * b := by
    rw [Int.mul_comm b, Int.mul_assoc, Int.mul_assoc, Int.mul_comm b 2]
  omega
/-- an item of a written list -/
theorem at_lt {xs : List V} {i : Int} (h0 : 0 ≤ i) (h1 : i < (xs.length : Int)) : ∃ v, atI xs i = some v ∧ v ∈ xs := by
  obtain ⟨j, rfl⟩ : ∃ j : Nat, i = (j : Int) := ⟨i.toNat, by omega⟩
  have hj : j < xs.length := by omega
  exact ⟨xs[j], atI_nat (List.getElem?_eq_getElem hj), List.getElem_mem hj⟩
theorem map_getR {as : List Addr} {i : Nat} {v : V} (h : (as.map V.ref)[i]? = some v) : ∃ b, as[i]? = some b ∧ v = .ref b := by
  rw [List.getElem?_map] at h
  cases e : as[i]? with
  | none => rw [e] at h; cases h
  | some b => rw [e] at h; exact ⟨b, rfl, (Option.some.inj h).symm⟩
theorem kput {d : Addr} {H H' : Hp} {p : Addr} {o : HO} (s : Keep d H H') (h : H p = none) : Keep d H (upd H' p o) := s.put h
theorem snoc_at {α : Type} {xs : List α} {y z : α} {i j : Nat} (hl : xs.length = i) (h : (xs ++ [y])[j]? = some z) : (j < i ∧ xs[j]? = some z) ∨ (j = i ∧ z = y) := by
  by_cases hj : j < xs.length
  · rw [List.getElem?_append_left hj] at h
    exact .inl ⟨by omega, h⟩
  · have hlt := (List.getElem?_eq_some_iff.mp h).1
    rw [List.length_append] at hlt
    have e : j = xs.length := by simp at hlt; omega
    subst e
    rw [List.getElem?_append_right (Nat.le_refl _), Nat.sub_self] at h
    exact .inr ⟨hl, (Option.some.inj h).symm⟩
theorem lt_line {n : Nat} (h : n < 1000000) : n < sizeLine := Nat.lt_of_lt_of_le h (by decide)
/-- what is fresh may change -/
theorem same_keep {H H1 H2 : Hp} {l : Addr} (hl : H l = none) (s : Same H H1) (k : Keep l H1 H2) : Same H H2 := fun b o e => k b o (s b o e) (ne_of_none e hl)
theorem ixN_nat {n i : Nat} (h : i < n) : ixN n (i : Int) = some i := by
  unfold ixN
  grind
theorem cast_lt {x : Int} {c : Nat} (h0 : 0 ≤ x) (h1 : x < c) : ∃ t : Nat, x = (t : Int) ∧ t < c := ⟨x.toNat, by omega, by omega⟩
section
variable {σ : L2.St} {H : Hp} {Q : VK} {R : Option Int → Hp → Prop}
theorem x_sl2 {r : V → Option Int → Option Int → Hp → VK → Prop} {te : TE} {tl th : TO} (h : te σ H fun x H1 => tl σ H1 fun l H2 => th σ H2 fun u H3 => r x l u H3 Q) : tSl r te tl th σ H Q := h
theorem x_part0 (h : R none H) : tNoPart σ H R := h
theorem x_part1 {te : TE} (h : te σ H fun x H1 => ∃ i, x = .int i ∧ R (some i) H1) : tPart te σ H R := h
theorem x_cutL {K : PySem.W.Frag} {p : Addr} {xs : List V} {lo hi : Option Int} (hp : SqL K H p xs) (q : ∀ r, H r = none → Q (.ref r) (upd H r (.lst (cutV xs lo hi)))) : rSlL K (.ref p) lo hi H Q := ⟨p, xs, rfl, hp, q⟩
end
end Br

/-! ### Fermat's little theorem, by the products of the rests -/
namespace Br.F
def noDiv (p : Nat) (n : Nat) : Bool := Nat.rec true (fun k ih => (p % (k + 2) != 0) && ih) n
theorem noDiv_at {p : Nat} : ∀ {n : Nat}, noDiv p n = true → ∀ d, 2 ≤ d → d < n + 2 → ¬ d ∣ p
  | 0, _, d, h1, h2, _ => by omega
  | n + 1, h, d, h1, h2, hd => by
    have h' : ((p % (n + 2) != 0) && noDiv p n) = true := h
    rw [Bool.and_eq_true] at h'
    by_cases e : d < n + 2
    · exact noDiv_at h'.2 d h1 e hd
    · have e2 : d = n + 2 := by omega
      subst e2
      have := Nat.mod_eq_zero_of_dvd hd
      simp [this] at h'
def IsPrime (p : Nat) : Prop := 2 ≤ p ∧ ∀ d, d ∣ p → d = 1 ∨ d = p
theorem prime_of {p k : Nat} (h2 : 2 ≤ p) (hk : p < (k + 2) * (k + 2)) (h : noDiv p k = true) : IsPrime p := by
  refine ⟨h2, fun d hd => ?_⟩
  by_cases h1 : d = 1
  · exact .inl h1
  by_cases hp : d = p
  · exact .inr hp
  exfalso
  obtain ⟨e, he⟩ := hd
  have d0 : d ≠ 0 := fun z => by subst z; simp at he; omega
  have e0 : e ≠ 0 := fun z => by subst z; simp at he; omega
  have e1 : e ≠ 1 := fun z => by subst z; simp at he; exact hp he.symm
  by_cases hlt : d < k + 2
  · exact noDiv_at h d (by omega) hlt ⟨e, he⟩
  · by_cases hlt2 : e < k + 2
    · exact noDiv_at h e (by omega) hlt2 ⟨d, by rw [he, Nat.mul_comm]⟩
    · have : (k + 2) * (k + 2) ≤ d * e := Nat.mul_le_mul (by omega) (by omega)
      omega
theorem IsPrime.coprime {p a : Nat} (hp : IsPrime p) (h : ¬ p ∣ a) : Nat.Coprime p a := by
  rcases hp.2 _ (Nat.gcd_dvd_left p a) with e | e
  · exact e
  · exact absurd (e ▸ Nat.gcd_dvd_right p a) h
theorem IsPrime.mul {p a b : Nat} (hp : IsPrime p) (h : p ∣ a * b) : p ∣ a ∨ p ∣ b := by
  by_cases h1 : p ∣ a
  · exact .inl h1
  · exact .inr ((hp.coprime h1).dvd_of_dvd_mul_left h)
theorem dvd_sub_of {p x y : Nat} (h : x % p = y % p) : p ∣ y - x := Nat.dvd_of_mod_eq_zero (Nat.sub_mod_eq_zero_of_mod_eq h.symm)
theorem mod_of_dvd_sub {p x y : Nat} (hl : x ≤ y) (h : p ∣ y - x) : x % p = y % p := by
  obtain ⟨q, hq⟩ := h
  have e : y = x + p * q := by omega
  rw [e, Nat.add_mul_mod_self_left]
theorem perm_of : ∀ {M L : List Nat}, M.Nodup → (∀ x, x ∈ M → x ∈ L) → L.length = M.length → M.Perm L
  | [], L, _, _, hl => by
    have : L = [] := List.length_eq_zero_iff.mp hl
    rw [this]
  | a :: M, L, hn, hs, hl => by
    have ha : a ∈ L := hs a List.mem_cons_self
    have hn' := List.nodup_cons.mp hn
    have h2 : M.Perm (L.erase a) := perm_of hn'.2 (fun x hx => (List.mem_erase_of_ne (fun e => hn'.1 (by rw [← e]; exact hx))).mpr (hs x (List.mem_cons_of_mem _ hx))) (by
      rw [List.length_erase_of_mem ha]
      rw [List.length_cons] at hl
      omega)
    exact (List.Perm.cons a h2).trans (List.perm_cons_erase ha).symm
def prod : List Nat → Nat
  | [] => 1
  | a :: l => a * prod l
theorem prod_perm {a b : List Nat} (h : a.Perm b) : prod a = prod b := by
  induction h with
  | nil => rfl
  | cons x _ ih => show x * _ = x * _; rw [ih]
  | swap x y l => show y * (x * _) = x * (y * _); rw [← Nat.mul_assoc, ← Nat.mul_assoc, Nat.mul_comm y x]
  | trans _ _ h1 h2 => rw [h1, h2]
theorem prod_map {p a : Nat} : ∀ l : List Nat, prod (l.map fun x => a * x % p) % p = a ^ l.length * prod l % p
  | [] => by simp [prod]
  | x :: l => by
    show (a * x % p) * prod (l.map fun x => a * x % p) % p = a ^ (l.length + 1) * (x * prod l) % p
    rw [Nat.mul_mod, Nat.mod_mod, prod_map l, ← Nat.mul_mod, Nat.pow_succ]
    congr 1
    rw [Nat.mul_assoc (a ^ l.length) a, Nat.mul_left_comm a x, Nat.mul_comm a x, Nat.mul_assoc x a, ← Nat.mul_assoc (a ^ l.length) x, Nat.mul_comm (a ^ l.length) x, Nat.mul_assoc x (a ^ l.length), ← Nat.mul_assoc (a ^ l.length), Nat.mul_comm (a ^ l.length) a, Nat.mul_assoc a]
theorem prod_not {p : Nat} (hp : IsPrime p) : ∀ l : List Nat, (∀ x, x ∈ l → ¬ p ∣ x) → ¬ p ∣ prod l
  | [], _, h => by
    have : p = 1 := Nat.dvd_one.mp h
    have := hp.1
    omega
  | x :: l, h, hd => by
    rcases hp.mul (show p ∣ x * prod l from hd) with h1 | h1
    · exact h x List.mem_cons_self h1
    · exact prod_not hp l (fun y hy => h y (List.mem_cons_of_mem _ hy)) h1
theorem fermat {p a : Nat} (hp : IsPrime p) (ha : ¬ p ∣ a) : a ^ (p - 1) % p = 1 % p := by
  have hp2 := hp.1
  let L := List.range' 1 (p - 1)
  have hL : ∀ x, x ∈ L ↔ 1 ≤ x ∧ x < p := fun x => by
    show x ∈ List.range' 1 (p - 1) ↔ _
    rw [List.mem_range'_1]
    omega
  have hnL : L.Nodup := List.nodup_range'
  have hLn : ∀ x, x ∈ L → ¬ p ∣ x := fun x hx hd => by
    have := (hL x).mp hx
    have := Nat.le_of_dvd (by omega) hd
    omega
  have hM : (L.map fun x => a * x % p).Perm L := by
    refine perm_of ?_ ?_ (by rw [List.length_map])
    · refine List.pairwise_map.mpr (List.Pairwise.imp_of_mem ?_ hnL)
      intro x y hx hy hne he
      have bx := (hL x).mp hx
      have bY := (hL y).mp hy
      have key : ∀ u v, 1 ≤ u → u < p → v < p → u ≤ v → a * u % p = a * v % p → u = v := fun u v h1 h2 h3 h4 h5 => by
        have hd : p ∣ a * (v - u) := by
          rw [Nat.mul_sub]
          exact dvd_sub_of h5
        rcases hp.mul hd with h6 | h6
        · exact absurd h6 ha
        · by_cases h7 : v - u = 0
          · omega
          · have := Nat.le_of_dvd (by omega) h6
            omega
      rcases Nat.le_total x y with h | h
      · exact hne (key x y bx.1 bx.2 bY.2 h he)
      · exact hne (key y x bY.1 bY.2 bx.2 h he.symm).symm
    · intro z hz
      obtain ⟨x, hx, rfl⟩ := List.mem_map.mp hz
      refine (hL _).mpr ⟨?_, Nat.mod_lt _ (by omega)⟩
      by_cases h0 : a * x % p = 0
      · rcases hp.mul (Nat.dvd_of_mod_eq_zero h0) with h6 | h6
        · exact absurd h6 ha
        · exact absurd h6 (hLn x hx)
      · omega
  have e1 := prod_perm hM
  have e2 : a ^ L.length * prod L % p = prod L % p := by rw [← prod_map, e1]
  have hlen : L.length = p - 1 := List.length_range'
  rw [hlen] at e2
  have hpos : 1 ≤ a ^ (p - 1) := Nat.one_le_iff_ne_zero.mpr fun z => by
    have : a = 0 := Nat.pow_eq_zero.mp z |>.1
    subst this
    exact ha (Nat.dvd_zero p)
  have hd : p ∣ (a ^ (p - 1) - 1) * prod L := by
    rw [Nat.sub_mul, Nat.one_mul]
    exact dvd_sub_of e2.symm
  rcases hp.mul hd with h | h
  · exact (mod_of_dvd_sub hpos h).symm
  · exact absurd h (prod_not hp L hLn)
theorem p2 : IsPrime 2 := prime_of (k := 0) (by decide) (by decide) (by decide)
theorem p3 : IsPrime 3 := prime_of (k := 0) (by decide) (by decide) (by decide)
theorem p5 : IsPrime 5 := prime_of (k := 1) (by decide) (by decide) (by decide +kernel)
theorem p7 : IsPrime 7 := prime_of (k := 1) (by decide) (by decide) (by decide +kernel)
theorem p11 : IsPrime 11 := prime_of (k := 2) (by decide) (by decide) (by decide +kernel)
theorem p13 : IsPrime 13 := prime_of (k := 2) (by decide) (by decide) (by decide +kernel)
theorem p101 : IsPrime 101 := prime_of (k := 9) (by decide) (by decide) (by decide +kernel)
theorem pBig : IsPrime 999999937 := prime_of (k := 31622) (by decide) (by decide +kernel) (by decide +kernel)
end Br.F

/-! ### tables' polynomials: the shares of Lagrange's formula modulo a prime -/
namespace Br.F
def Tp (x : Int) : Nat → Int
  | 0 => 1
  | n + 1 => Tp x n * (x - (n : Int))
def Ab (x : Int) (at_ : Nat) : Nat → Int
  | 0 => 1
  | n + 1 => if n = at_ then Ab x at_ n else Ab x at_ n * (x - (n : Int))
def fct : Nat → Int
  | 0 => 1
  | n + 1 => fct n * ((n : Int) + 1)
def sg (m : Nat) : Int := if m % 2 = 0 then 1 else -1
theorem sg_succ (m : Nat) : sg (m + 1) = - sg m := by
  unfold sg
  split <;> split <;> first | omega | rfl
theorem Ab_eq {x : Int} {at_ n : Nat} (h : n ≠ at_) : Ab x at_ (n + 1) = Ab x at_ n * (x - (n : Int)) := if_neg h
theorem Ab_at {x : Int} {at_ : Nat} : Ab x at_ (at_ + 1) = Ab x at_ at_ := if_pos rfl
theorem Ab_lt {x : Int} {at_ : Nat} : ∀ {n : Nat}, n ≤ at_ → Ab x at_ n = Tp x n
  | 0, _ => rfl
  | n + 1, h => by
    rw [Ab_eq (by omega), Ab_lt (by omega)]
    rfl
theorem Tp_split {x : Int} {at_ : Nat} : ∀ {n : Nat}, at_ < n → Tp x n = (x - (at_ : Int)) * Ab x at_ n
  | 0, h => by omega
  | n + 1, h => by
    by_cases e : n = at_
    · subst e
      rw [Ab_at, Ab_lt (Nat.le_refl _), Int.mul_comm]
      rfl
    · rw [Ab_eq e]
      show Tp x n * (x - (n : Int)) = _
      rw [Tp_split (at_ := at_) (by omega), Int.mul_assoc]
theorem Ab_zero {x at_ : Nat} (hx : x ≠ at_) : ∀ {n : Nat}, x < n → Ab (x : Int) at_ n = 0
  | 0, h => by omega
  | n + 1, h => by
    by_cases e : n = at_
    · subst e
      rw [Ab_at, Ab_zero hx (by omega)]
    · rw [Ab_eq e]
      by_cases e2 : x = n
      · subst e2
        rw [Int.sub_self, Int.mul_zero]
      · rw [Ab_zero hx (by omega), Int.zero_mul]
theorem Tp_low {at_ : Nat} : ∀ {n : Nat}, n ≤ at_ → Tp (at_ : Int) n * fct (at_ - n) = fct at_
  | 0, _ => by rw [Nat.sub_zero]; exact Int.one_mul _
  | n + 1, h => by
    have ih := Tp_low (at_ := at_) (n := n) (by omega)
    obtain ⟨k, hk⟩ : ∃ k, at_ - n = k + 1 := ⟨at_ - n - 1, by omega⟩
    have e : at_ - (n + 1) = k := by omega
    rw [hk] at ih
    rw [e]
    show Tp (at_ : Int) n * ((at_ : Int) - (n : Int)) * fct k = _
    have e2 : (at_ : Int) - (n : Int) = (k : Int) + 1 := by omega
    rw [e2, Int.mul_assoc, Int.mul_comm ((k : Int) + 1)]
    exact ih
theorem Ab_hi {at_ : Nat} : ∀ m : Nat, Ab (at_ : Int) at_ (at_ + 1 + m) = fct at_ * (sg m * fct m)
  | 0 => by
    show Ab (at_ : Int) at_ (at_ + 1) = _
    rw [Ab_at, Ab_lt (Nat.le_refl _)]
    have h := Tp_low (at_ := at_) (Nat.le_refl at_)
    rw [Nat.sub_self] at h
    have e : fct 0 = 1 := rfl
    have e2 : sg 0 = 1 := rfl
    rw [e, Int.mul_one] at h
    rw [h, e, e2, Int.mul_one, Int.mul_one]
  | m + 1 => by
    show Ab (at_ : Int) at_ (at_ + 1 + m + 1) = _
    rw [Ab_eq (by omega), Ab_hi m, sg_succ]
    show _ = fct at_ * (-sg m * (fct m * ((m : Int) + 1)))
    have e : (at_ : Int) - ((at_ + 1 + m : Nat) : Int) = -((m : Int) + 1) := by omega
    rw [e]
    grind
theorem IsPrime.mulI {p : Nat} {a b : Int} (hp : IsPrime p) (h : (p : Int) ∣ a * b) : (p : Int) ∣ a ∨ (p : Int) ∣ b := by
  have h' : p ∣ a.natAbs * b.natAbs := by
    rw [← Int.natAbs_mul]
    exact Int.natAbs_dvd_natAbs.mpr h
  rcases hp.mul h' with h1 | h1
  · exact .inl (Int.ofNat_dvd_left.mpr h1)
  · exact .inr (Int.ofNat_dvd_left.mpr h1)
theorem small_dvd {p : Nat} {z : Int} (h : (p : Int) ∣ z) (h1 : -(p : Int) < z) (h2 : z < p) : z = 0 := by
  obtain ⟨q, hq⟩ := h
  have hp : 0 < (p : Int) := by omega
  by_cases h0 : q = 0
  · rw [hq, h0, Int.mul_zero]
  · exfalso
    rcases Int.lt_or_gt_of_ne h0 with hl | hl
    · have : (p : Int) * q ≤ p * (-1) := Int.mul_le_mul_of_nonneg_left (by omega) (by omega)
      omega
    · have : (p : Int) * 1 ≤ p * q := Int.mul_le_mul_of_nonneg_left (by omega) (by omega)
      omega
theorem one_not {p : Nat} (hp : IsPrime p) : ¬ (p : Int) ∣ 1 := fun h => by
  have := small_dvd h (by have := hp.1; omega) (by have := hp.1; omega)
  omega
theorem Ab_not {p at_ : Nat} {x : Int} (hp : IsPrime p) : ∀ {n : Nat}, (∀ o : Nat, o < n → o ≠ at_ → ¬ (p : Int) ∣ x - (o : Int)) → ¬ (p : Int) ∣ Ab x at_ n
  | 0, _ => one_not hp
  | n + 1, h => by
    have ih := Ab_not (n := n) hp fun o ho => h o (by omega)
    by_cases e : n = at_
    · subst e
      rw [Ab_at]
      exact ih
    · rw [Ab_eq e]
      intro hd
      rcases hp.mulI hd with h1 | h1
      · exact ih h1
      · exact h n (by omega) e h1
theorem Ab_own {p at_ n : Nat} (hp : IsPrime p) (ha : at_ < n) (hn : n ≤ p) : ¬ (p : Int) ∣ Ab (at_ : Int) at_ n :=
  Ab_not hp fun o ho hne hd => by
    have := small_dvd hd (by omega) (by omega)
    omega
/-- the share of the index at_ at x -/
def Bas (p n at_ : Nat) (x v : Int) : Prop := 0 ≤ v ∧ v < p ∧ (p : Int) ∣ v * Ab (at_ : Int) at_ n - Ab x at_ n
theorem Bas.uniq {p n at_ : Nat} {x u v : Int} (hp : IsPrime p) (ha : at_ < n) (hn : n ≤ p) (hu : Bas p n at_ x u) (hv : Bas p n at_ x v) : u = v := by
  have h : (p : Int) ∣ (u - v) * Ab (at_ : Int) at_ n := by
    have := Int.dvd_sub hu.2.2 hv.2.2
    have e : (u - v) * Ab (at_ : Int) at_ n = u * Ab (at_ : Int) at_ n - Ab x at_ n - (v * Ab (at_ : Int) at_ n - Ab x at_ n) := by grind
    rw [e]
    exact this
  rcases hp.mulI h with h1 | h1
  · have := small_dvd h1 (by have := hu.1; have := hv.2.1; omega) (by have := hv.1; have := hu.2.1; omega)
    omega
  · exact absurd h1 (Ab_own hp ha hn)
theorem Bas.ind {p n at_ x : Nat} (hp : IsPrime p) (hx : x < n) : Bas p n at_ (x : Int) (if at_ = x then 1 else 0) := by
  have hp2 := hp.1
  refine ⟨by split <;> omega, by split <;> omega, ?_⟩
  by_cases e : at_ = x
  · subst e
    rw [if_pos rfl, Int.one_mul, Int.sub_self]
    exact Int.dvd_zero _
  · rw [if_neg e, Int.zero_mul, Ab_zero (fun z => e z.symm) hx, Int.sub_self]
    exact Int.dvd_zero _
/-- by the inverse of the whole bottom -/
theorem Bas.inv {p n at_ : Nat} {x tp bot y : Int} (ha : at_ < n) (hp2 : 2 ≤ p) (ht : (p : Int) ∣ tp - Tp x n) (hb : (p : Int) ∣ bot - Ab (at_ : Int) at_ n) (hy : y * ((x - (at_ : Int)) * bot) % p = 1) : Bas p n at_ x (tp * y % p) := by
  refine ⟨Int.emod_nonneg _ (by omega), Int.emod_lt_of_pos _ (by omega), ?_⟩
  rw [Tp_split ha] at ht
  generalize Ab (at_ : Int) at_ n = A at *
  generalize Ab x at_ n = U at *
  generalize x - (at_ : Int) = D at *
  obtain ⟨t1, h1⟩ := ht
  obtain ⟨t2, h2⟩ := hb
  have h3 := Int.mul_ediv_add_emod (y * (D * bot)) p
  rw [hy] at h3
  have h4 := Int.mul_ediv_add_emod (tp * y) p
  generalize y * (D * bot) / (p : Int) = t3 at *
  generalize tp * y / (p : Int) = t4 at *
  generalize tp * y % (p : Int) = v at *
  refine ⟨t1 * y * A - t4 * A + U * (t3 - D * y * t2), ?_⟩
  have e1 : tp = D * U + p * t1 := by omega
  have e2 : bot = A + p * t2 := by omega
  have e3 : v = tp * y - p * t4 := by omega
  subst e1 e2 e3
  have e5 : y * (D * (A + p * t2)) = p * t3 + 1 := by omega
  have e6 : U * (y * (D * (A + p * t2))) = U * (p * t3 + 1) := by rw [e5]
  grind
theorem pow_dvd {p a b : Int} (h : p ∣ a - b) : ∀ k : Nat, p ∣ a ^ k - b ^ k
  | 0 => by rw [Int.pow_zero, Int.pow_zero, Int.sub_self]; exact Int.dvd_zero _
  | k + 1 => by
    obtain ⟨u, hu⟩ := pow_dvd h k
    obtain ⟨v, hv⟩ := h
    refine ⟨u * a + b ^ k * v, ?_⟩
    rw [Int.pow_succ, Int.pow_succ]
    have e1 : a ^ k = b ^ k + p * u := by omega
    have e2 : a = b + p * v := by omega
    rw [e1]
    generalize b ^ k = B
    subst e2
    grind
/-- by Fermat's power -/
theorem Bas.pow {p n at_ : Nat} {x ab be pw : Int} (hp : IsPrime p) (hat : at_ < n) (hn : n ≤ p) (hbe0 : 0 ≤ be) (ha : (p : Int) ∣ ab - Ab x at_ n) (hb : (p : Int) ∣ be - Ab (at_ : Int) at_ n) (hw : (p : Int) ∣ pw - be ^ (p - 2)) : Bas p n at_ x (ab * pw % p) := by
  have hp2 := hp.1
  refine ⟨Int.emod_nonneg _ (by omega), Int.emod_lt_of_pos _ (by omega), ?_⟩
  have hA := Ab_own hp hat hn
  generalize Ab (at_ : Int) at_ n = A at *
  generalize Ab x at_ n = U at *
  have hbn : ¬ (p : Int) ∣ be := fun h => hA (by
    have e : A = be - (be - A) := by omega
    rw [e]
    exact Int.dvd_sub h hb)
  obtain ⟨bn, rfl⟩ : ∃ bn : Nat, be = (bn : Int) := ⟨be.toNat, by omega⟩
  have hf : bn ^ (p - 1) % p = 1 % p := fermat hp fun h => hbn (Int.ofNat_dvd.mpr h)
  have hf2 : ((bn : Int) ^ (p - 1)) % (p : Int) = 1 := by
    have h1 : 1 % p = 1 := Nat.mod_eq_of_lt (by omega)
    rw [h1] at hf
    have e : (((bn ^ (p - 1) % p : Nat)) : Int) = 1 := by rw [hf]; rfl
    rw [Int.natCast_emod, Int.natCast_pow] at e
    exact e
  have h3 := Int.mul_ediv_add_emod ((bn : Int) ^ (p - 1)) p
  rw [hf2] at h3
  obtain ⟨k, hk⟩ : ∃ k, p = k + 2 := ⟨p - 2, by omega⟩
  have e1 : p - 1 = k + 1 := by omega
  have e2 : p - 2 = k := by omega
  rw [e1, Int.pow_succ] at h3
  rw [e2] at hw
  generalize (bn : Int) ^ k = W at *
  generalize (W * (bn : Int)) / (p : Int) = t3 at *
  obtain ⟨t1, h1⟩ := ha
  obtain ⟨t2, h2⟩ := hb
  obtain ⟨t5, h5⟩ := hw
  have h4 := Int.mul_ediv_add_emod (ab * pw) p
  generalize ab * pw / (p : Int) = t4 at *
  generalize ab * pw % (p : Int) = v at *
  have g1 : ab = U + p * t1 := by omega
  have g2 : A = (bn : Int) - p * t2 := by omega
  have g3 : v = ab * pw - p * t4 := by omega
  have g5 : pw = W + p * t5 := by omega
  have g6 : W * (bn : Int) = 1 + p * t3 := by omega
  subst g1 g5
  subst g3
  subst g2
  refine ⟨t1 * (W + p * t5) * ((bn : Int) - p * t2) - t4 * ((bn : Int) - p * t2) + U * t3 + U * t5 * ((bn : Int) - p * t2) - U * W * t2, ?_⟩
  have g7 : U * (W * (bn : Int)) = U * (1 + p * t3) := by rw [g6]
  grind
/-- sums -/
def S1 (f : Nat → Int) : Nat → Int
  | 0 => 0
  | n + 1 => S1 f n + f n
theorem S1_congr {f g : Nat → Int} : ∀ {n : Nat}, (∀ i, i < n → f i = g i) → S1 f n = S1 g n
  | 0, _ => rfl
  | n + 1, h => by
    show S1 f n + f n = S1 g n + g n
    rw [S1_congr fun i hi => h i (by omega), h n (by omega)]
theorem S1_mul {f : Nat → Int} {c : Int} : ∀ {n : Nat}, S1 (fun i => c * f i) n = c * S1 f n
  | 0 => (Int.mul_zero c).symm
  | n + 1 => by
    show S1 (fun i => c * f i) n + c * f n = c * (S1 f n + f n)
    rw [S1_mul, Int.mul_add]
theorem S1_one {n k : Nat} {f : Nat → Int} (h : ∀ i, i ≠ k → f i = 0) : k < n → S1 f n = f k := by
  induction n with
  | zero => intro hk; omega
  | succ n ih =>
    intro hk
    show S1 f n + f n = f k
    by_cases e : k = n
    · subst e
      have z : ∀ m, m ≤ k → S1 f m = 0 := fun m => by
        induction m with
        | zero => intro _; rfl
        | succ m ih => intro hm; show S1 f m + f m = 0; rw [ih (by omega), h m (by omega)]; rfl
      rw [z k (Nat.le_refl _), Int.zero_add]
    · rw [ih (by omega), h n (fun z => e z.symm), Int.add_zero]
/-- the value of the table's polynomial -/
def Itp (p : Nat) (t : List (List Int)) (x y v : Int) : Prop := ∃ R C : Nat → Int, (∀ i, i < t.length → Bas p t.length i x (R i)) ∧ (∀ j, j < t.length → Bas p t.length j y (C j)) ∧
  v = S1 (fun i => R i * S1 (fun j => C j * (t.getD i []).getD j 0) t.length) t.length % p
theorem Itp.uniq {p : Nat} {t : List (List Int)} {x y u v : Int} (hp : IsPrime p) (hn : t.length ≤ p) (hu : Itp p t x y u) (hv : Itp p t x y v) : u = v := by
  obtain ⟨R, C, h1, h2, h3⟩ := hu
  obtain ⟨R', C', h1', h2', h3'⟩ := hv
  rw [h3, h3']
  congr 1
  refine S1_congr fun i hi => ?_
  rw [(h1 i hi).uniq hp hi hn (h1' i hi)]
  congr 1
  exact S1_congr fun j hj => by rw [(h2 j hj).uniq hp hj hn (h2' j hj)]
theorem Itp.own {p : Nat} {t : List (List Int)} {x y : Nat} (hp : IsPrime p) (hx : x < t.length) (hy : y < t.length) (h0 : 0 ≤ (t.getD x []).getD y 0) (h1 : (t.getD x []).getD y 0 < p) : Itp p t x y ((t.getD x []).getD y 0) := by
  refine ⟨fun i => if i = x then 1 else 0, fun j => if j = y then 1 else 0, fun i _ => .ind hp hx, fun j _ => .ind hp hy, ?_⟩
  rw [S1_one (k := x) (fun i hi => by show (if i = x then (1 : Int) else 0) * _ = 0; rw [if_neg hi, Int.zero_mul]) hx]
  show _ = (if x = x then (1 : Int) else 0) * S1 _ _ % _
  rw [if_pos rfl, Int.one_mul, S1_one (k := y) (fun j hj => by show (if j = y then (1 : Int) else 0) * _ = 0; rw [if_neg hj, Int.zero_mul]) hy]
  show _ = (if y = y then (1 : Int) else 0) * _ % _
  rw [if_pos rfl, Int.one_mul, Int.emod_eq_of_lt h0 h1]
/-- the share, written out -/
def BsV (p n i : Nat) (x : Int) : Int := Ab x i n * (Ab (i : Int) i n % p) ^ (p - 2) % p
theorem BsV.ok {p n i : Nat} {x : Int} (hp : IsPrime p) (hi : i < n) (hn : n ≤ p) : Bas p n i x (BsV p n i x) := by
  have hp2 := hp.1
  refine Bas.pow (be := Ab (i : Int) i n % p) hp hi hn (Int.emod_nonneg _ (by omega)) ⟨0, by omega⟩ ?_ ⟨0, by omega⟩
  have := Int.mul_ediv_add_emod (Ab (i : Int) i n) p
  exact ⟨-(Ab (i : Int) i n / p), by rw [Int.mul_neg]; omega⟩
theorem Itp.mk' {p : Nat} {t : List (List Int)} {x y v : Int} (hp : IsPrime p) (hn : t.length ≤ p) (h0 : 0 ≤ v) (h1 : v < p) (hd : (p : Int) ∣ v - S1 (fun i => BsV p t.length i x * S1 (fun j => BsV p t.length j y * (t.getD i []).getD j 0) t.length) t.length) : Itp p t x y v := by
  refine ⟨fun i => BsV p t.length i x, fun j => BsV p t.length j y, fun i hi => BsV.ok hp hi hn, fun j hj => BsV.ok hp hj hn, ?_⟩
  generalize S1 _ _ = s at *
  have hp2 := hp.1
  have h4 := Int.mul_ediv_add_emod s p
  have h5 := Int.emod_nonneg s (show (p : Int) ≠ 0 by omega)
  have h6 := Int.emod_lt_of_pos s (show (0 : Int) < p by omega)
  have h7 : (p : Int) ∣ v - s % p := by
    have e : v - s % p = v - s + p * (s / p) := by omega
    rw [e]
    exact Int.dvd_add hd (Int.dvd_mul_right _ _)
  have := small_dvd h7 (by omega) (by omega)
  omega
end Br.F

/-! ### zip of a list and a tuple -/
namespace Br
open PySem PySem.Spec PyProof.Rows L2
def ItzM (K : PySem.W.Frag) (a b : Addr) : It where
  go := fun i H => ∃ (xs ys : List V), SqL K H a xs ∧ SqT K H b ys ∧ i < xs.length ∧ i < ys.length
  yld := fun i H v H' => ∃ (p : Addr) (x y : V), v = .ref p ∧ H p = none ∧ H' = upd H p (.tup [x, y]) ∧ (∀ xs, SqL K H a xs → xs[i]? = some x) ∧ (∀ ys, SqT K H b ys → ys[i]? = some y)
  stop := fun i H => ∃ (xs ys : List V), SqL K H a xs ∧ SqT K H b ys ∧ i ≤ xs.length ∧ i ≤ ys.length ∧ (i = xs.length ∨ i = ys.length)
def MixSt (a b z p q i1 i2 : Addr) (i : Nat) (h : Heap) : Prop :=
  IsZip h z p q .none ∧ IsTupOf2 h p (.ref i1) (.ref i2) ∧ (∃ u v, IsTupOf2 h q u v) ∧ h.IsListIter i1 a i ∧ h.IsTupleIter i2 b i
theorem MixSt.sizes {a b z p q i1 i2 : Addr} {i : Nat} {h : Heap} (m : MixSt a b z p q i1 i2 i h) : z < h.objs.size ∧ p < h.objs.size ∧ q < h.objs.size ∧ i1 < h.objs.size ∧ i2 < h.objs.size := by
  obtain ⟨e1, e2, ⟨_, _, e3⟩, ⟨_, e4, _⟩, ⟨_, e5, _⟩⟩ := m
  exact ⟨Heap.lt_size e1, Heap.lt_size e2, Heap.lt_size e3, Heap.lt_size e4, Heap.lt_size e5⟩
theorem in5 {c z p q i1 i2 : Addr} (h : c ∈ [z, p, q, i1, i2]) : c = z ∨ c = p ∨ c = q ∨ c = i1 ∨ c = i2 := by simpa using h
theorem turn_mix {P : Program} {w : World} {K : PySem.W.Frag} {elts : List Expr} {kk : Nat} {tpos : Pos} {a b z p q i1 i2 : Addr} (S : ZipSep2 z p q i1 i2 [i1, a] [i2, b]) :
    Turn P w K (.Tuple elts kk tpos) (ItzM K a b) [z, p, q, i1, i2] z (MixSt a b z p q i1 i2) := by
  have ha : a ≠ i1 ∧ b ≠ i2 ∨ True := .inr trivial
  refine ⟨by simp, ?obj, ?keep, ?item, ?done, ?self⟩
  case obj =>
    intro i h st c hc
    obtain ⟨e1, e2, ⟨_, _, e3⟩, ⟨o4, e4, _, d4⟩, ⟨o5, e5, _, d5⟩⟩ := st
    rcases in5 hc with rfl | rfl | rfl | rfl | rfl
    · exact ⟨_, e1, fun _ z => nomatch z⟩
    · exact ⟨_, e2, fun _ z => nomatch z⟩
    · exact ⟨_, e3, fun _ z => nomatch z⟩
    · exact ⟨_, e4, fun _ z => by rw [d4] at z; cases z⟩
    · exact ⟨_, e5, fun _ z => by rw [d5] at z; cases z⟩
  case keep =>
    intro i h h' st k
    obtain ⟨e1, e2, ⟨u, v, e3⟩, e4, e5⟩ := st
    exact ⟨k _ (by simp) _ e1, k _ (by simp) _ e2, ⟨u, v, k _ (by simp) _ e3⟩, e4.at fun o => k _ (by simp) o, e5.at fun o => k _ (by simp) o⟩
  case item =>
    intro X hP hw hK hc i pins s σ H E I hf st hg
    subst hP hw hK
    have sz := st.sizes
    obtain ⟨e1, e2, ⟨u, v, e3⟩, e4, e5⟩ := st
    obtain ⟨xs, ys, hx, hy, lx, ly⟩ := hg
    obtain ⟨us, rx, p1, _⟩ := I.list hx
    obtain ⟨ws, ry, p2, _⟩ := I.tuple hy
    have nx := rx.length
    have ny := ry.length
    have hd : X.A.in1.handled = none := I.ok.hd hc
    have na : a ≠ i1 := fun e => by
      obtain ⟨o, eo, co, _⟩ := e4
      obtain ⟨o', _, eo', co', _⟩ := p1
      rw [e, eo] at eo'
      cases eo'
      rw [co] at co'
      simp at co'
    have nb : b ≠ i2 := fun e => by
      obtain ⟨o, eo, co, _⟩ := e5
      obtain ⟨o', eo', co', _⟩ := p2
      rw [e, eo] at eo'
      cases eo'
      rw [co] at co'
      simp at co'
    refine wpAny_pyNext_zipD2_item S (Draws.list hd i1 a na us.toArray) (Draws.tuple hd i2 b nb ws.toArray) e1 e2 e3 ⟨e4, p1.isList⟩ ⟨e5, p2⟩ (by simp; omega) (by simp; omega) ?_
    intro x1 x2 h1 tk q1 q2 z1 t1 s1 s2 nw hs hk
    refine ⟨_, rfl, wpAny_letOwnedTupleGo_zip (s := { s with heap := h1, toks := tk }) z1 fun h2 z2 sb => ?_⟩
    obtain ⟨x, gx⟩ : ∃ x, xs[i]? = some x := ⟨_, List.getElem?_eq_getElem lx⟩
    obtain ⟨y, gy⟩ : ∃ y, ys[i]? = some y := ⟨_, List.getElem?_eq_getElem ly⟩
    obtain ⟨ux, gux, rux⟩ := rx.get gx
    obtain ⟨uy, guy, ruy⟩ := ry.get gy
    have ex : x1 = ux := by
      rw [List.getElem?_toArray, gux] at q1
      exact (Option.some.inj q1).symm
    have ey : x2 = uy := by
      rw [List.getElem?_toArray, guy] at q2
      exact (Option.some.inj q2).symm
    subst ex ey
    have ne : ∀ {c : Addr}, c < s.heap.objs.size → s.heap.objs.size ≠ c := fun h => Nat.ne_of_gt h
    have new2 : h2.get? s.heap.objs.size = some { cls := .type "tuple", data := .seq #[x1, x2] } := (sb.2 _ (ne sz.1)).trans nw
    have kp : ∀ c o, c ∉ [z, p, q, i1, i2] → s.heap.get? c = some o → h2.get? c = some o := fun c o hc e => by
      have m : ∀ d, d ∈ [z, p, q, i1, i2] → c ≠ d := fun d hd e => hc (e ▸ hd)
      exact (sb.2 c (m z (by simp))).trans (hk c o (m z (by simp)) (m q (by simp)) (m i1 (by simp)) (m i2 (by simp)) e)
    have ok : ObjOk X.prog X.w (upd H s.heap.objs.size (.tup [x, y])) h2 s.heap.objs.size (.tup [x, y]) :=
      ⟨(show 2 ≤ sizeLine by decide), [x1, x2], .cons rux (.cons ruy .nil), ⟨_, new2, rfl, 0, rfl⟩⟩
    have J := I.turnedNew (t' := tk) kp hf (Nat.le_refl _) ok
    refine ⟨.ref s.heap.objs.size, _, J, rfl, ⟨_, x, y, rfl, I.hok.fresh (Nat.le_refl _), rfl, fun l hl => by rw [I.list_inj hl hx]; exact gx, fun l hl => by rw [I.tuple_inj hl hy]; exact gy⟩, ?_, fun c hcm => ?_⟩
    · refine ⟨z2, (sb.2 _ S.TIz).trans (hk _ _ S.TIz S.TITO S.TIi1 S.TIi2 e2), ⟨_, _, (sb.2 _ S.TOz).trans t1⟩, s1.1.at fun o e => (sb.2 _ S.zi1.symm).trans e, s2.1.at fun o e => (sb.2 _ S.zi2.symm).trans e⟩
    · rw [upd_ne]
      · exact (hf c hcm).1
      · rcases in5 hcm with rfl | rfl | rfl | rfl | rfl
        · exact (ne sz.1).symm
        · exact (ne sz.2.1).symm
        · exact (ne sz.2.2.1).symm
        · exact (ne sz.2.2.2.1).symm
        · exact (ne sz.2.2.2.2).symm
  case done =>
    intro X hP hw hK hc i pins s σ H E I hf st hg
    subst hP hw hK
    obtain ⟨e1, e2, ⟨u, v, e3⟩, e4, e5⟩ := st
    obtain ⟨xs, ys, hx, hy, lx, ly, hend⟩ := hg
    obtain ⟨us, rx, p1, _⟩ := I.list hx
    obtain ⟨ws, ry, p2, _⟩ := I.tuple hy
    have nx := rx.length
    have ny := ry.length
    have hd : X.A.in1.handled = none := I.ok.hd hc
    have na : a ≠ i1 := fun e => by
      obtain ⟨o, eo, co, _⟩ := e4
      obtain ⟨o', _, eo', co', _⟩ := p1
      rw [e, eo] at eo'
      cases eo'
      rw [co] at co'
      simp at co'
    have nb : b ≠ i2 := fun e => by
      obtain ⟨o, eo, co, _⟩ := e5
      obtain ⟨o', eo', co', _⟩ := p2
      rw [e, eo] at eo'
      cases eo'
      rw [co] at co'
      simp at co'
    refine wpAny_pyNext_zipD2_end S (Draws.list hd i1 a na us.toArray) (Draws.tuple hd i2 b nb ws.toArray) e1 e2 e3 ⟨e4, p1.isList⟩ ⟨e5, p2⟩ (by simp; omega) (by simp; omega) (by simp; omega) ?_
    intro h1 tk hk
    exact ⟨rfl, I.turnedL (t' := tk) (ch := [z, p, q, i1, i2]) (fun c o hc e => by
      have m : ∀ d, d ∈ [z, p, q, i1, i2] → c ≠ d := fun d hd e => hc (e ▸ hd)
      exact hk c o (m z (by simp)) (m q (by simp)) (m i1 (by simp)) (m i2 (by simp)) e) hf⟩
  case self => exact fun A i s Q E st h => wpAny_pyIter_zip st.1 h
def iZipM (K : PySem.W.Frag) (ta : TA) : TI := fun σ H R => ta σ H fun vs H1 => ∃ a b xs ys, vs = [.ref a, .ref b] ∧ SqL K H1 a xs ∧ SqT K H1 b ys ∧ R (ItzM K a b) H1
theorem pi_zipM {X : Cx} {e e2 : Expr} {ta : TA} {p pos tpos : Pos} {elts : List Expr} {kk : Nat} (hg : Gl X "zip") (hm : X.mg "zip" = none) (ha : PA X [e, e2] ta)
    (hs : starEach [e, e2] X.env = (false, eval e X.env) :: starEach [e2] X.env := by rfl) (hpl : (backTo pos (starEach [e2] X.env)).any (·.1) = false := by rfl) :
    PI X (.Tuple elts kk tpos) (.Call (.Name "zip" p) [e, e2] [] pos) (iZipM X.K ta) := by
  refine ⟨fun pins s σ H R I h => Call_ (ld_blt I hg hm PyProof.Rows.boot_zip (PyProof.Rows.callWith_type1 (thn (ha.run pos pins s σ H _ I h) ?_) hs hpl))⟩
  rintro us s1 ⟨vs, H1, I1, r1, a, b, xs, ys, rfl, hx, hy, go⟩
  obtain ⟨u1, u2, rfl, ra, rb⟩ : ∃ u1 u2, us = [u1, u2] ∧ RelV (.ref a) u1 ∧ RelV (.ref b) u2 := by
    cases r1 with
    | cons r rr =>
      cases rr with
      | cons r' rr =>
        cases rr
        exact ⟨_, _, rfl, r, r'⟩
  cases (show u1 = Value.ref a from ra)
  cases (show u2 = Value.ref b from rb)
  obtain ⟨us, rx, p1, _⟩ := I1.list hx
  obtain ⟨ws, ry, p2, _⟩ := I1.tuple hy
  have la : a < s1.heap.objs.size := p1.lt
  have lb : b < s1.heap.objs.size := by
    obtain ⟨_, e, _⟩ := id p2
    exact Heap.lt_size e
  refine zip_begins2 (begins_list a us.toArray) (begins_tuple b ws.toArray) p1.isList p2 ?_
  intro h1 hz hp hq g1 g2 hsz hk
  refine wpAny_pyIter_zip hz ?_
  have sep := zip_sep2 (N := s1.heap.objs.size) (fp1 := [a]) (fp2 := [b]) (fun c hc => by
    have e : c = a := by simpa using hc
    rw [e]; exact la) (fun c hc => by
    have e : c = b := by simpa using hc
    rw [e]; exact lb)
  refine ⟨_, _, _, _, H1, rfl, I1.kept (t' := s1.toks) hk, turn_mix sep, ⟨hz, hp, ⟨_, _, hq⟩, ⟨_, g1, rfl, rfl⟩, ⟨_, g2, rfl, rfl⟩⟩, fun c hc => ?_, go⟩
  have hle : s1.heap.objs.size ≤ c := by
    rcases in5 hc with e | e | e | e | e
    · rw [e]; exact Nat.le_add_right _ _
    · rw [e]; exact Nat.le_add_right _ _
    · rw [e]; exact Nat.le_add_right _ _
    · rw [e]; exact Nat.le_refl _
    · rw [e]; exact Nat.le_add_right _ _
  exact I1.fpOk hle (I1.hok.fresh hle)
theorem walk_mix {K : PySem.W.Frag} {a b : Addr} {xs ys : List V} {n : Nat} (h1 : xs.length = n) (h2 : ys.length = n) : Walk (ItzM K a b) n (fun H => SqL K H a xs ∧ SqT K H b ys) (YPair (fun i => xs[i]?) (fun i => ys[i]?)) := by
  refine ⟨fun i H hi q => ⟨xs, ys, q.1, q.2, by omega, by omega⟩, fun H q => ⟨xs, ys, q.1, q.2, by omega, by omega, by omega⟩, fun i H v H' hi q y => ?_⟩
  obtain ⟨p, x, y, e1, e2, e3, e4, e5⟩ := y
  exact ⟨p, x, y, e1, e2, e3, e4 _ q.1, e5 _ q.2⟩
/-- a for, a comprehension by a walk -/
theorem x_forI {wi : TI} {g : TG} {tb : TS} {D : Ends} {σ : L2.St} {H : Hp} {J : It} {n : Nat} {G : Hp → Prop} {Y : Nat → Hp → V → Hp → Prop} (hw : ∀ R : It → Hp → Prop, R J H → wi σ H R) (w : Walk J n G Y) (P : Nat → L2.St → Hp → Prop) (h0 : P 0 σ H)
    (hG : ∀ i σ' H', i ≤ n → P i σ' H' → G H') (hs : ∀ i x σ' H' H2, i < n → P i σ' H' → Y i H' x H2 → g x σ' H2 fun σ2 H3 => tb ⟨P (i + 1), D.rt, D.nx, P (i + 1)⟩ σ2 H3) (hd : ∀ σ' H', P n σ' H' → D.nx σ' H') : tFor wi g tb D σ H :=
  hw _ (for_it w P h0 hG hs hd)
theorem x_lcI {wi : TI} {g : TG} {te : TE} {vs : List Nat} {Q : VK} {σ : L2.St} {H : Hp} {J : It} {n : Nat} {G : Hp → Prop} {Y : Nat → Hp → V → Hp → Prop} (hw : ∀ R : It → Hp → Prop, R J H → wi σ H R) (w : Walk J n G Y) (P : Addr → Nat → Hp → Prop) (h0 : ∀ p, H p = none → P p 0 (upd H p (.lst [])))
    (hG : ∀ p i H', i ≤ n → H p = none → P p i H' → G H')
    (hs : ∀ p i x H' H2, i < n → H p = none → P p i H' → Y i H' x H2 → g x (wipe σ vs) H2 fun σ2 H3 => wipe σ2 vs = wipe σ vs ∧ te σ2 H3 fun y H4 => ∃ acc, H4 p = some (.lst acc) ∧ acc.length < sizeLine ∧ P p (i + 1) (upd H4 p (.lst (acc ++ [y]))))
    (hg : ∀ x σ' H' (R R' : L2.St → Hp → Prop), (∀ σ2 H2, R σ2 H2 → R' σ2 H2) → g x σ' H' R → g x σ' H' R') (hd : ∀ p H', H p = none → P p n H' → Q (.ref p) H') : tLc wi g tYes te vs σ H Q := by
  refine hw _ fun p hp => ?_
  refine lc_it w (Qd := fun H' => Q (.ref p) H') (P p) (h0 p hp) (fun i H' hi q => hG p i H' hi hp q) (fun i x H' H2 hi q y => ?_) fun H' q => hd p H' hp q
  refine hg _ _ _ _ _ (fun σ2 H3 z => ?_) (hs p i x H' H2 hi hp q y)
  refine ⟨z.1, ?_⟩
  unfold tYes
  exact iteT z.2
/-- a comprehension of truths, item by item -/
theorem x_lcB {wi : TI} {te : TE} {vs : List Nat} {j : Nat} {Q : VK} {σ : L2.St} {H : Hp} {J : It} {G : Hp → Prop} {xs : List V} (f : Nat → Bool) (hw : ∀ R : It → Hp → Prop, R J H → wi σ H R) (w : Walk J xs.length G (YAt xs)) (hn : xs.length ≤ 100000)
    (hG : ∀ H', Same H H' → G H') (hv : ∀ x, wipe ((wipe σ vs).set j (some x)) vs = wipe σ vs)
    (he : ∀ (i : Nat) x H', Same H H' → xs[i]? = some x → ∀ R : VK, (∀ H2, Same H' H2 → R (.bl (f i)) H2) → te ((wipe σ vs).set j (some x)) H' R)
    (hd : ∀ p H', H p = none → Same H H' → H' p = some (.lst (((List.range xs.length).map f).map V.bl)) → Q (.ref p) H') : tLc wi (gName j) tYes te vs σ H Q := by
  refine x_lcI hw w (fun p i H' => Same H H' ∧ H' p = some (.lst (((List.range i).map f).map V.bl))) (fun p hp => ⟨same_upd hp, upd_same⟩) (fun p i H' _ _ z => hG H' z.1) ?_ (fun x σ' H' R R' hr h => hr _ _ h) fun p H' hp z => hd p H' hp z.1 z.2
  rintro p i x H' H2 hi hp ⟨hs, hl⟩ ⟨rfl, hx⟩
  refine x_gName ⟨hv x, he i x _ hs hx _ fun H3 hs3 => ?_⟩
  refine ⟨_, hs3 _ _ hl, lt_line (by simp; omega), sput (hs.trans hs3) hp, ?_⟩
  rw [upd_same, List.range_succ, List.map_append, List.map_append]
  rfl
theorem x_all {K : PySem.W.Frag} {Q : VK} {H : Hp} {p : Addr} {bs : List Bool} (h : H p = some (.lst (bs.map V.bl))) (q : Q (.bl (bs.all id)) H) : rAll K [.ref p] H Q := ⟨p, bs, rfl, sq_of h, q⟩
theorem x_any {K : PySem.W.Frag} {Q : VK} {H : Hp} {p : Addr} {bs : List Bool} (h : H p = some (.lst (bs.map V.bl))) (q : Q (.bl (bs.any id)) H) : rAny K [.ref p] H Q := ⟨p, bs, rfl, sq_of h, q⟩
theorem all_range {n : Nat} {f : Nat → Bool} (h : ∀ i, i < n → f i = true) : ((List.range n).map f).all id = true := by
  rw [List.all_eq_true]
  intro b hb
  obtain ⟨i, hi, rfl⟩ := List.mem_map.mp hb
  exact h i (List.mem_range.mp hi)
/-- the same, over something made on the way -/
theorem x_lcB0 {wi : TI} {te : TE} {vs : List Nat} {j : Nat} {Q : VK} {σ : L2.St} {H : Hp} {xs : List V} (f : Nat → Bool) (hn : xs.length ≤ 100000)
    (hw : ∀ R : It → Hp → Prop, (∀ (J : It) (G : Hp → Prop) (H1 : Hp), Same H H1 → Walk J xs.length G (YAt xs) → (∀ H', Same H1 H' → G H') → R J H1) → wi σ H R) (hv : ∀ x, wipe ((wipe σ vs).set j (some x)) vs = wipe σ vs)
    (he : ∀ (i : Nat) x H', Same H H' → xs[i]? = some x → ∀ R : VK, (∀ H2, Same H' H2 → R (.bl (f i)) H2) → te ((wipe σ vs).set j (some x)) H' R)
    (hd : ∀ p H', Same H H' → H' p = some (.lst (((List.range xs.length).map f).map V.bl)) → Q (.ref p) H') : tLc wi (gName j) tYes te vs σ H Q := by
  refine hw _ fun J G H1 s1 w hG => ?_
  exact x_lcB (wi := fun _ H R => R J H) (H := H1) f (fun R r => r) w hn hG hv (fun i x H' s hx R hR => he i x H' (s1.trans s) hx R hR) fun p H' _ s h => hd p H' (s1.trans s) h
end Br

/-! ### tables in the heap -/
namespace Br
open PySem PySem.Spec PyProof.Rows L2 Br.F
theorem map_app {xs : List Int} {y : Int} {H : Hp} {a : Addr} : (L2.upd H a (.lst (xs.map V.int ++ [.int y]))) a = some (.lst ((xs ++ [y]).map V.int)) := by rw [upd_same, List.map_append]; rfl
def TabAt (K : PySem.W.Frag) (H : Hp) (a : Addr) (t : List (List Int)) : Prop := ∃ as : List Addr, SqT K H a (as.map V.ref) ∧ as.length = t.length ∧ ∀ (i : Nat) r b, t[i]? = some r → as[i]? = some b → SqT K H b (r.map V.int)
theorem TabAt.same {K : PySem.W.Frag} {H H' : Hp} {a : Addr} {t : List (List Int)} (h : TabAt K H a t) (s : Same H H') : TabAt K H' a t := by
  obtain ⟨as, h1, h2, h3⟩ := h
  exact ⟨as, seqT s h1, h2, fun i r b e1 e2 => seqT s (h3 i r b e1 e2)⟩
structure IsTab (p : Nat) (t : List (List Int)) : Prop where
  pos : 1 ≤ t.length
  le : t.length ≤ p
  rows : ∀ (i : Nat) r, t[i]? = some r → r.length = t.length ∧ Rg 0 p r
theorem get_getD {l : List Int} {i : Nat} (h : i < l.length) : l[i]? = some (l.getD i 0) := by rw [List.getD_eq_getElem?_getD, List.getElem?_eq_getElem h]; rfl
theorem getD_of {l : List Int} {i : Nat} {z : Int} (h : l[i]? = some z) : l.getD i 0 = z := by rw [List.getD_eq_getElem?_getD, h]; rfl
theorem dvd_step {p ab U d : Int} (h : p ∣ ab - U) : p ∣ ab * d % p - U * d := by
  obtain ⟨u, hu⟩ := h
  have h4 := Int.mul_ediv_add_emod (ab * d) p
  refine ⟨u * d - ab * d / p, ?_⟩
  have e : ab = U + p * u := by omega
  grind
theorem TabAt.get {K : PySem.W.Frag} {H : Hp} {a : Addr} {t : List (List Int)} {as : List Addr} (h : as.length = t.length) (h3 : ∀ (i : Nat) r b, t[i]? = some r → as[i]? = some b → SqT K H b (r.map V.int)) {i : Nat} (hi : i < t.length) : ∃ r b, t[i]? = some r ∧ as[i]? = some b ∧ SqT K H b (r.map V.int) :=
  ⟨_, _, List.getElem?_eq_getElem hi, List.getElem?_eq_getElem (by omega), h3 i _ _ (List.getElem?_eq_getElem hi) (List.getElem?_eq_getElem (by omega))⟩
end Br

/-! ### match over tuples that begin with a word -/
namespace Br
open PySem PySem.Spec PyProof.Rows L2
/-- the values that captures bind, by name -/
def capB : List Pattern → List Value → List (Str × Value)
  | .MatchAs none (some x) _ :: ps, u :: us => (x, u) :: capB ps us
  | .MatchAs none none _ :: ps, _ :: us => capB ps us
  | _, _ => []
def isCaps : List Pattern → Bool
  | [] => true
  | .MatchAs none _ _ :: ps => isCaps ps
  | _ => false
/-- the slots behind captures -/
def bindS : List (Option Nat) → List V → L2.St → L2.St
  | some i :: is, v :: vs, σ => bindS is vs (σ.set i (some v))
  | none :: is, _ :: vs, σ => bindS is vs σ
  | _, _, σ => σ
theorem each_caps {M : Model} {A : Around} {E : Value → Shared → Prop} {s : Shared} {env : Env} : ∀ {ps : List Pattern} {us : List Value} {Q : Option (List (Str × Value)) → Shared → Prop}, isCaps ps = true → us.length = ps.length → Q (some (capB ps us)) s → wpAny M A (matchEach ps env us) Q E s
  | [], us, Q, _, _, h => by
    have e : capB [] us = [] := by cases us <;> rfl
    rw [e] at h
    exact wpAny_matchEach_nil h
  | .MatchAs none nm pos :: ps, u :: us, Q, hc, hl, h => by
    refine wpAny_matchEach_cons (wpAny_matchPattern_Capture (each_caps (ps := ps) hc (by simpa using hl) ?_)) rfl
    cases nm with
    | none => exact h
    | some x => exact h
  | .MatchAs none nm pos :: ps, [], Q, hc, hl, h => by simp at hl
  | .MatchAs (some p) nm pos :: ps, us, Q, hc, hl, h => by simp [isCaps] at hc
  | .MatchValue .. :: ps, us, Q, hc, hl, h => by simp [isCaps] at hc
  | .MatchSingleton .. :: ps, us, Q, hc, hl, h => by simp [isCaps] at hc
  | .MatchSequence .. :: ps, us, Q, hc, hl, h => by simp [isCaps] at hc
  | .MatchMapping .. :: ps, us, Q, hc, hl, h => by simp [isCaps] at hc
  | .MatchClass .. :: ps, us, Q, hc, hl, h => by simp [isCaps] at hc
  | .MatchStar .. :: ps, us, Q, hc, hl, h => by simp [isCaps] at hc
  | .MatchOr .. :: ps, us, Q, hc, hl, h => by simp [isCaps] at hc
/-- captures into slots -/
structure PCap (X : Cx) (ps : List Pattern) (is : List (Option Nat)) : Prop where
  caps : isCaps ps = true
  run : ∀ (pins : List (Addr × Obj)) (s : Shared) (σ : L2.St) (H : Hp) (vs : List V) (us : List Value), Inv X pins σ H s → Vals vs us → us.length = ps.length →
    wpAny (model X.prog X.w) X.A (assignInOrder ((capB ps us).map fun (n, _) => bindName X.env n) ((capB ps us).map (·.2))) (fun _ s' => Inv X pins (bindS is vs σ) H s') X.xe s
section
variable {X : Cx}
theorem pcap_nil : PCap X [] [] := ⟨rfl, fun pins s σ H vs us I r hl => by
  have e : us = [] := List.length_eq_zero_iff.mp hl
  subst e
  cases r
  exact wpAny_assignInOrder_none I⟩
theorem pcap_name (i : Nat) {x : Str} {pos : Pos} {ps : List Pattern} {is : List (Option Nat)} (hN : X.N.Nodup) (hi : X.N[i]? = some x) (hx : Loc X.env.scope x) (h : PCap X ps is) (hf : X.fn x = true ∨ X.env.scope.names.lookup x = some .local := by first | exact .inl rfl | exact .inr rfl) :
    PCap X (.MatchAs none (some x) pos :: ps) (some i :: is) := ⟨h.caps, fun pins s σ H vs us I r hl => by
  cases r with
  | nil => simp at hl
  | cons rv rr =>
    refine wpAny_assignInOrder_more (wpAny_bindName (store_ok I hN hi hx rv (fun s' I' => ?_) hf))
    exact h.run pins s' _ H _ _ I' rr (by simpa using hl)⟩
theorem pcap_wild {pos : Pos} {ps : List Pattern} {is : List (Option Nat)} (h : PCap X ps is) : PCap X (.MatchAs none none pos :: ps) (none :: is) := ⟨h.caps, fun pins s σ H vs us I r hl => by
  cases r with
  | nil => simp at hl
  | cons rv rr => exact h.run pins s _ H _ _ I rr (by simpa using hl)⟩
/-- the cases of a match, asked of a value -/
structure PCs (X : Cx) (cs : List MatchCase) (t : V → TS) : Prop where
  run : ∀ (first : Bool) (pins : List (Addr × Obj)) (s : Shared) (σ : L2.St) (H : Hp) (D : Ends) (v : V) (u : Value), Inv X pins σ H s → RelV v u → t v D σ H → wpAny (model X.prog X.w) X.A (matchCases cs X.env u first) (SP X pins D) X.xe s
def tMatch (te : TE) (t : V → TS) : TS := fun D σ H => te σ H fun v H1 => t v D σ H1
theorem ps_match {e : Expr} {te : TE} {cs : List MatchCase} {t : V → TS} {pos : Pos} (he : PE X e te) (hc : PCs X cs t) : PS X (.Match e cs pos) (tMatch te t) :=
  ⟨fun pins s σ H D I h => wpAny_Match (thn (he.run pins s σ H _ I h) fun u s1 ⟨v, H1, I1, r, q⟩ => hc.run true pins s1 σ H1 D v u I1 r q)⟩
def tNoCase : V → TS := fun _ D σ H => D.nx σ H
theorem pcs_nil : PCs X [] tNoCase := ⟨fun _ _ _ σ H _ _ _ I _ h => wpAny_matchCases_nil ⟨σ, H, I, h⟩⟩
def tElse (t : TS) : V → TS := fun _ => t
theorem pcs_else {pos : Pos} {body : List Stmt} {rest : List MatchCase} {t : TS} (hb : PSs X body t) : PCs X (⟨.MatchAs none none pos, none, body⟩ :: rest) (tElse t) :=
  ⟨fun _ pins s σ H D v u I r h => wpAny_matchCases_cons (wpAny_matchPattern_Capture (wpAny_assignInOrder_none (hb.run pins s σ H D I h)))⟩
/-- a tuple of n parts that begins with the word -/
def tSeqW (K : PySem.W.Frag) (r : R2) (n : Nat) (word : Str) (is : List (Option Nat)) (body : TS) (rest : V → TS) : V → TS := fun v D σ H => ∃ (a : Addr) (xs : List V), v = .ref a ∧ SqT K H a xs ∧
  ((xs.length ≠ n ∧ rest v D σ H) ∨ ∃ y ys, xs = y :: ys ∧ xs.length = n ∧ r y (.str word) H fun z H1 => ∃ k, z = .bl k ∧ if k = true then body D (bindS is ys σ) H1 else rest v D σ H1)
theorem pcs_seq {r : R2} {n : Nat} {word : Str} {j : Nat} {p1 p2 p3 : Pos} {ps : List Pattern} {is : List (Option Nat)} {body : List Stmt} {rest : List MatchCase} {tb : TS} {tr : V → TS} (hc : X.calm = true) (ho : OpR X (compareOp .Eq) r) (hp : PCap X ps is) (hb : PSs X body tb) (hr : PCs X rest tr) (hn : ps.length + 1 = n := by rfl)
    (hs : (Pattern.MatchValue (.Constant (.str word) j p1) p2 :: ps).findIdx? (·.isStar) = none := by rfl) (hw : ((Pattern.MatchValue (.Constant (.str word) j p1) p2 :: ps).all fun p => p.isWildcard || (p.isStar && p.names.isEmpty)) = false := by rfl) :
    PCs X (⟨.MatchSequence (.MatchValue (.Constant (.str word) j p1) p2 :: ps) p3, none, body⟩ :: rest) (tSeqW X.K r n word is tb tr) := by
  refine ⟨fun first pins s σ H D v u I rv h => ?_⟩
  obtain ⟨a, xs, rfl, hx, h⟩ := h
  cases (show u = Value.ref a from rv)
  obtain ⟨its, ri, ht, hz⟩ := I.tuple hx
  have hl := ri.length
  have hfit : ((its.toArray.size : Nat) : Int) < 2 ^ 63 := by
    have h1 : its.length ≤ sizeLine := by rw [← hl]; exact hz
    have h2 : sizeLine < 2 ^ 63 := by decide
    have h3 : its.toArray.size < 2 ^ 63 := Nat.lt_of_le_of_lt (by simpa using h1) h2
    omega
  rcases h with ⟨hne, q⟩ | ⟨y, ys, rfl, hxl, q⟩
  · refine wpAny_matchCases_cons (matchSeq_tuple_miss ht hfit (by simp; omega) ?_ hs hw)
    exact hr.run false pins _ σ H D (.ref a) _ (I.tok _) rfl q
  · cases ri with
    | cons ry rys =>
      rename_i uy uys
      have hly := rys.length
      have sz : (uy :: uys).toArray.size = ps.length + 1 := by simp at hxl ⊢; omega
      refine wpAny_matchCases_cons (matchSeq_tuple_hit ht hfit (by simpa using sz) ?_ hs hw)
      have e : (Pattern.MatchValue (.Constant (.str word) j p1) p2 :: ps).length = (uy :: uys).toArray.size := sz.symm
      rw [e]
      refine unpackItems_tuple (I.ok.hd hc) ht fun h' hk => ?_
      have I2 : Inv X pins σ H { s with heap := h', toks := s.toks + 1 + 1 } := I.kept fun b o e => hk b o (Nat.ne_of_lt (Heap.lt_size e)) e
      refine wpAny_matchEach_cons (wpAny_matchPattern_Value ?_) rfl
      refine Calls.Constant_str ?_
      refine thn (ho pins _ σ H y (.str word) uy _ _ (I2.tok _) ry ⟨_, rfl⟩ q) fun c s3 ⟨z, H3, I3, rz, k, ez, q3⟩ => ?_
      subst ez
      cases rz
      refine wpAny_truthy_bool ?_
      cases k with
      | false =>
        rw [if_neg Bool.false_ne_true] at q3 ⊢
        exact hr.run false pins s3 σ H3 D (.ref a) _ I3 rfl q3
      | true =>
        rw [if_pos rfl] at q3 ⊢
        refine each_caps hp.caps (by simp at sz; exact sz) ?_
        refine thn (hp.run pins s3 σ H3 ys uys I3 rys (by simp at sz; exact sz)) fun _ s4 I4 => ?_
        exact hb.run pins s4 _ H3 D I4 q3
end
/-! ### steps of the reading -/
section
variable {σ : L2.St} {H : Hp} {D : Ends} {K : PySem.W.Frag} {v : V} {te : TE} {t : V → TS}
theorem x_match (h : te σ H fun v H1 => t v D σ H1) : tMatch te t D σ H := h
theorem x_else {t : TS} (h : t D σ H) : tElse t v D σ H := h
theorem x_noCase (h : D.nx σ H) : tNoCase v D σ H := h
theorem x_caseNo {r : R2} {n : Nat} {word : Str} {is : List (Option Nat)} {body : TS} {a : Addr} {xs : List V} (ha : SqT K H a xs) (hl : xs.length ≠ n) (h : t (.ref a) D σ H) : tSeqW K r n word is body t (.ref a) D σ H :=
  ⟨a, xs, rfl, ha, .inl ⟨hl, h⟩⟩
theorem x_caseW {n : Nat} {word w : Str} {is : List (Option Nat)} {body : TS} {a : Addr} {ys : List V} (ha : SqT K H a (.str w :: ys)) (hl : ys.length + 1 = n) (hw : w ≠ word) (h : t (.ref a) D σ H) : tSeqW K rEq n word is body t (.ref a) D σ H :=
  ⟨a, _, rfl, ha, .inr ⟨_, ys, rfl, hl, rfl, false, by rw [decide_eq_false (fun e => hw (V.str.inj e))], iteF h⟩⟩
theorem x_caseY {n : Nat} {word : Str} {is : List (Option Nat)} {body : TS} {a : Addr} {ys : List V} (ha : SqT K H a (.str word :: ys)) (hl : ys.length + 1 = n) (h : body D (bindS is ys σ) H) : tSeqW K rEq n word is body t (.ref a) D σ H :=
  ⟨a, _, rfl, ha, .inr ⟨_, ys, rfl, hl, rfl, true, by rw [decide_eq_true rfl], iteT h⟩⟩
end
end Br

/-! ### what `_law_equal` finds alike -/
namespace Br
open PySem PySem.Spec PyProof.Rows L2
/-- alike up to a depth -/
def Eqv (K : PySem.W.Frag) (H : Hp) : Nat → V → V → Prop
  | 0, _, _ => False
  | n + 1, v, u => (∃ i : Int, v = .int i ∧ u = .int i) ∨ (∃ x : Str, v = .str x ∧ u = .str x) ∨ (∃ b : Bool, v = .bl b ∧ u = .bl b) ∨ (v = .non ∧ u = .non) ∨
      (∃ (a b : Addr) (xs ys : List V), v = .ref a ∧ u = .ref b ∧ ((H a = some (.lst xs) ∧ H b = some (.lst ys)) ∨ (H a = some (.tup xs) ∧ H b = some (.tup ys))) ∧ xs.length = ys.length ∧ ys.length ≤ 100000 ∧ ∀ (i : Nat) x y, xs[i]? = some x → ys[i]? = some y → Eqv K H n x y)
theorem Eqv.mono {K : PySem.W.Frag} {H : Hp} : ∀ {n m : Nat} {v u : V}, n ≤ m → Eqv K H n v u → Eqv K H m v u
  | 0, _, _, _, _, h => h.elim
  | n + 1, m, v, u, hm, h => by
    obtain ⟨k, rfl⟩ : ∃ k, m = k + 1 := ⟨m - 1, by omega⟩
    rcases h with h | h | h | h | ⟨a, b, xs, ys, e1, e2, e3, e4, e5, e6⟩
    · exact .inl h
    · exact .inr (.inl h)
    · exact .inr (.inr (.inl h))
    · exact .inr (.inr (.inr (.inl h)))
    · exact .inr (.inr (.inr (.inr ⟨a, b, xs, ys, e1, e2, e3, e4, e5, fun i x y h1 h2 => Eqv.mono (by omega) (e6 i x y h1 h2)⟩)))
theorem Eqv.int {K : PySem.W.Frag} {H : Hp} {n : Nat} {i : Int} : Eqv K H (n + 1) (.int i) (.int i) := .inl ⟨i, rfl, rfl⟩
theorem Eqv.str {K : PySem.W.Frag} {H : Hp} {n : Nat} {x : Str} : Eqv K H (n + 1) (.str x) (.str x) := .inr (.inl ⟨x, rfl, rfl⟩)
theorem Eqv.bl {K : PySem.W.Frag} {H : Hp} {n : Nat} {b : Bool} : Eqv K H (n + 1) (.bl b) (.bl b) := .inr (.inr (.inl ⟨b, rfl, rfl⟩))
theorem Eqv.non {K : PySem.W.Frag} {H : Hp} {n : Nat} : Eqv K H (n + 1) .non .non := .inr (.inr (.inr (.inl ⟨rfl, rfl⟩)))
theorem Eqv.tup {K : PySem.W.Frag} {H : Hp} {n : Nat} {a b : Addr} {xs ys : List V} (h1 : H a = some (.tup xs)) (h2 : H b = some (.tup ys)) (hl : xs.length = ys.length) (hz : ys.length ≤ 100000) (h : ∀ (i : Nat) x y, xs[i]? = some x → ys[i]? = some y → Eqv K H n x y) : Eqv K H (n + 1) (.ref a) (.ref b) :=
  .inr (.inr (.inr (.inr ⟨a, b, xs, ys, rfl, rfl, .inr ⟨h1, h2⟩, hl, hz, h⟩)))
theorem Eqv.lst {K : PySem.W.Frag} {H : Hp} {n : Nat} {a b : Addr} {xs ys : List V} (h1 : H a = some (.lst xs)) (h2 : H b = some (.lst ys)) (hl : xs.length = ys.length) (hz : ys.length ≤ 100000) (h : ∀ (i : Nat) x y, xs[i]? = some x → ys[i]? = some y → Eqv K H n x y) : Eqv K H (n + 1) (.ref a) (.ref b) :=
  .inr (.inr (.inr (.inr ⟨a, b, xs, ys, rfl, rfl, .inl ⟨h1, h2⟩, hl, hz, h⟩)))
theorem Eqv.ints {K : PySem.W.Frag} {H : Hp} {n : Nat} {a b : Addr} {xs : List Int} (h1 : H a = some (.lst (xs.map V.int))) (h2 : H b = some (.lst (xs.map V.int))) (hz : xs.length ≤ 100000) : Eqv K H (n + 2) (.ref a) (.ref b) :=
  Eqv.lst h1 h2 rfl (by rw [List.length_map]; exact hz) fun i x y e1 e2 => by
    rw [e1] at e2
    cases e2
    obtain ⟨z, _, rfl⟩ := map_get e1
    exact .int
/-- a tuple of few parts is alike to itself -/
theorem Eqv.self2 {K : PySem.W.Frag} {H : Hp} {n : Nat} {a : Addr} {xs : List V} (h1 : H a = some (.tup xs)) (hz : xs.length ≤ 100000) (h : ∀ x, x ∈ xs → Eqv K H n x x) : Eqv K H (n + 1) (.ref a) (.ref a) :=
  Eqv.tup h1 h1 rfl hz fun i x y e1 e2 => by
    rw [e1] at e2
    cases e2
    exact h x (List.mem_of_getElem? e1)
end Br

/-! ### steps: what they are, where they stand, what they do -/
namespace Br
open PySem PySem.Spec PyProof.Rows L2 Br.F
inductive Fac where
  | cell (i : Nat)
  | inp (i : Nat)
inductive Stp where
  | add (t : Nat) (c : Int) (fs : List Fac)
  | scale (t : Nat) (u : Int)
  | swap (a b : Nat)
  | tab (t : Nat) (s : Int) (tb : List (List Int)) (a b : Nat)
def FacOk (cells inputs t : Nat) : Fac → Prop
  | .cell i => i < cells ∧ i ≠ t
  | .inp i => i < inputs
def StpOk (m cells inputs : Nat) : Stp → Prop
  | .add t c fs => t < cells ∧ 0 ≤ c ∧ c < m ∧ fs.length ≤ 3 ∧ ∀ f, f ∈ fs → FacOk cells inputs t f
  | .scale t u => t < cells ∧ 0 ≤ u ∧ u < m ∧ Int.gcd u m = 1
  | .swap a b => a < cells ∧ b < cells ∧ a ≠ b
  | .tab t s tb a b => t < cells ∧ a < cells ∧ b < cells ∧ t ≠ a ∧ t ≠ b ∧ a ≠ b ∧ (s = 1 ∨ s = m - 1) ∧ IsTab m tb ∧ tb.length ≤ 1000 ∧ IsPrime m
/-- where they stand: tuples alone -/
def FacAt (H : Hp) (a : Addr) : Fac → Prop
  | .cell i => H a = some (.tup [.str "cell", .int (i : Int)])
  | .inp i => H a = some (.tup [.str "input", .int (i : Int)])
def TbAt (H : Hp) (a : Addr) (t : List (List Int)) : Prop := ∃ as : List Addr, H a = some (.tup (as.map V.ref)) ∧ as.length = t.length ∧ ∀ (i : Nat) r b, t[i]? = some r → as[i]? = some b → H b = some (.tup (r.map V.int))
def StpAt (H : Hp) (a : Addr) : Stp → Prop
  | .add t c fs => ∃ (f : Addr) (as : List Addr), H a = some (.tup [.str "add", .int (t : Int), .int c, .ref f]) ∧ H f = some (.tup (as.map V.ref)) ∧ as.length = fs.length ∧ ∀ (i : Nat) x b, fs[i]? = some x → as[i]? = some b → FacAt H b x
  | .scale t u => H a = some (.tup [.str "scale", .int (t : Int), .int u])
  | .swap i j => H a = some (.tup [.str "swap", .int (i : Int), .int (j : Int)])
  | .tab t s tb i j => ∃ c : Addr, H a = some (.tup [.str "table", .int (t : Int), .int s, .ref c, .int (i : Int), .int (j : Int)]) ∧ TbAt H c tb
/-- every tuple stays -/
def Tups (H H' : Hp) : Prop := ∀ b xs, H b = some (.tup xs) → H' b = some (.tup xs)
theorem Tups.refl (H : Hp) : Tups H H := fun _ _ h => h
theorem Tups.trans {H H1 H2 : Hp} (a : Tups H H1) (b : Tups H1 H2) : Tups H H2 := fun c xs h => b c xs (a c xs h)
theorem Tups.same {H H' : Hp} (s : Same H H') : Tups H H' := fun b xs h => s b _ h
theorem Tups.put {H H' : Hp} {p : Addr} {o : HO} (s : Tups H H') (h : ∀ xs, H' p ≠ some (.tup xs)) : Tups H (upd H' p o) := fun b xs e => by
  have e' := s b xs e
  rw [upd_ne (fun z => h xs (by rw [← z]; exact e'))]
  exact e'
theorem no_tup {H : Hp} {p : Addr} (h : H p = none) : ∀ xs, H p ≠ some (.tup xs) := fun xs e => by rw [h] at e; cases e
theorem no_tupL {H : Hp} {p : Addr} {ys : List V} (h : H p = some (.lst ys)) : ∀ xs, H p ≠ some (.tup xs) := fun xs e => by rw [h] at e; cases e
theorem Tups.keep {H H' : Hp} {d : Addr} {ys : List V} (k : Keep d H H') (h : H d = some (.lst ys)) : Tups H H' := fun b xs e => k b _ e (ne_of e h (by intro z; cases z))
theorem FacAt.tups {H H' : Hp} {a : Addr} {f : Fac} (h : FacAt H a f) (s : Tups H H') : FacAt H' a f := by
  cases f with
  | cell i => exact s _ _ h
  | inp i => exact s _ _ h
theorem TbAt.tups {H H' : Hp} {a : Addr} {t : List (List Int)} (h : TbAt H a t) (s : Tups H H') : TbAt H' a t := by
  obtain ⟨as, h1, h2, h3⟩ := h
  exact ⟨as, s _ _ h1, h2, fun i r b e1 e2 => s _ _ (h3 i r b e1 e2)⟩
theorem StpAt.tups {H H' : Hp} {a : Addr} {x : Stp} (h : StpAt H a x) (s : Tups H H') : StpAt H' a x := by
  cases x with
  | add t c fs =>
    obtain ⟨f, as, h1, h2, h3, h4⟩ := h
    exact ⟨f, as, s _ _ h1, s _ _ h2, h3, fun i y b e1 e2 => (h4 i y b e1 e2).tups s⟩
  | scale t u => exact s _ _ h
  | swap i j => exact s _ _ h
  | tab t g tb i j =>
    obtain ⟨c, h1, h2⟩ := h
    exact ⟨c, s _ _ h1, h2.tups s⟩
/-- many of them -/
def StpsAt (H : Hp) (as : List Addr) (ss : List Stp) : Prop := as.length = ss.length ∧ ∀ (i : Nat) x b, ss[i]? = some x → as[i]? = some b → StpAt H b x
theorem StpsAt.tups {H H' : Hp} {as : List Addr} {ss : List Stp} (h : StpsAt H as ss) (s : Tups H H') : StpsAt H' as ss := ⟨h.1, fun i x b e1 e2 => (h.2 i x b e1 e2).tups s⟩
theorem StpsAt.get {H : Hp} {as : List Addr} {ss : List Stp} (h : StpsAt H as ss) {i : Nat} {b : Addr} (e : as[i]? = some b) : ∃ x, ss[i]? = some x ∧ StpAt H b x := by
  have hl := (List.getElem?_eq_some_iff.mp e).1
  have hl2 : i < ss.length := by rw [← h.1]; exact hl
  exact ⟨_, List.getElem?_eq_getElem hl2, h.2 i _ b (List.getElem?_eq_getElem hl2) e⟩
theorem StpsAt.snoc {H : Hp} {as : List Addr} {ss : List Stp} {b : Addr} {x : Stp} (h : StpsAt H as ss) (hx : StpAt H b x) : StpsAt H (as ++ [b]) (ss ++ [x]) := by
  refine ⟨by rw [List.length_append, List.length_append, h.1]; rfl, fun i y c e1 e2 => ?_⟩
  rcases snoc_at rfl e1 with ⟨h1, e1⟩ | ⟨h1, rfl⟩
  · rcases snoc_at rfl e2 with ⟨h2, e2⟩ | ⟨h2, rfl⟩
    · exact h.2 i y c e1 e2
    · have := h.1; omega
  · rcases snoc_at rfl e2 with ⟨h2, e2⟩ | ⟨h2, rfl⟩
    · have := h.1; omega
    · exact hx
/-- numbers of a modulus, so many -/
structure Mem (m n : Nat) (xs : List Int) : Prop where
  len : xs.length = n
  rg : Rg 0 m xs
theorem Mem.get {m n : Nat} {xs : List Int} (h : Mem m n xs) {i : Nat} (hi : i < n) : ∃ z, xs[i]? = some z ∧ xs.getD i 0 = z ∧ 0 ≤ z ∧ z < m := by
  have hl : i < xs.length := by rw [h.len]; exact hi
  refine ⟨xs[i], List.getElem?_eq_getElem hl, ?_, (h.rg _ (List.getElem_mem hl)).1, (h.rg _ (List.getElem_mem hl)).2⟩
  rw [List.getD_eq_getElem?_getD, List.getElem?_eq_getElem hl]; rfl
theorem Mem.set {m n : Nat} {xs : List Int} (h : Mem m n xs) {i : Nat} {z : Int} (h0 : 0 ≤ z) (h1 : z < m) : Mem m n (xs.set i z) :=
  ⟨by rw [List.length_set, h.len], fun y hy => by
    rcases List.mem_or_eq_of_mem_set hy with h2 | h2
    · exact h.rg y h2
    · rw [h2]; exact ⟨h0, h1⟩⟩
def facV (mem inp : List Int) : Fac → Int
  | .cell i => mem.getD i 0
  | .inp i => inp.getD i 0
def prodV (mem inp : List Int) : List Fac → Int
  | [] => 1
  | f :: fs => facV mem inp f * prodV mem inp fs
/-- the value of the table's polynomial, written out -/
def ItpV (p : Nat) (t : List (List Int)) (x y : Int) : Int := S1 (fun i => BsV p t.length i x * S1 (fun j => BsV p t.length j y * (t.getD i []).getD j 0) t.length) t.length % p
theorem ItpV.ok {p : Nat} {t : List (List Int)} {x y : Int} (hp : IsPrime p) (hn : t.length ≤ p) : Itp p t x y (ItpV p t x y) :=
  ⟨fun i => BsV p t.length i x, fun j => BsV p t.length j y, fun i hi => BsV.ok hp hi hn, fun j hj => BsV.ok hp hj hn, rfl⟩
def stepF (m : Nat) (inp mem : List Int) : Stp → List Int
  | .add t c fs => mem.set t ((mem.getD t 0 + c * prodV mem inp fs) % m)
  | .scale t u => mem.set t (mem.getD t 0 * u % m)
  | .swap a b => (mem.set a (mem.getD b 0)).set b (mem.getD a 0)
  | .tab t s tb a b => mem.set t ((mem.getD t 0 + s * ItpV m tb (mem.getD a 0) (mem.getD b 0)) % m)
theorem stepF_mem {m cells : Nat} {inp mem : List Int} (hm : 1 ≤ m) (h : Mem m cells mem) : ∀ {s : Stp} {inputs : Nat}, StpOk m cells inputs s → Mem m cells (stepF m inp mem s)
  | .add t c fs, _, _ => h.set (Int.emod_nonneg _ (by omega)) (Int.emod_lt_of_pos _ (by omega))
  | .scale t u, _, _ => h.set (Int.emod_nonneg _ (by omega)) (Int.emod_lt_of_pos _ (by omega))
  | .swap a b, _, ok => by
    obtain ⟨z, _, e1, z0, z1⟩ := h.get ok.1
    obtain ⟨y, _, e2, y0, y1⟩ := h.get ok.2.1
    show Mem m cells ((mem.set a (mem.getD b 0)).set b (mem.getD a 0))
    rw [e1, e2]
    exact (h.set y0 y1).set z0 z1
  | .tab t s tb a b, _, _ => h.set (Int.emod_nonneg _ (by omega)) (Int.emod_lt_of_pos _ (by omega))
def runF (m : Nat) (inp : List Int) (ss : List Stp) (mem : List Int) : List Int := ss.foldl (fun mem s => stepF m inp mem s) mem
theorem runF_snoc {m : Nat} {inp : List Int} {ss : List Stp} {s : Stp} {mem : List Int} : runF m inp (ss ++ [s]) mem = stepF m inp (runF m inp ss mem) s := by
  unfold runF
  rw [List.foldl_append]
  rfl
theorem runF_mem {m cells inputs : Nat} {inp : List Int} (hm : 1 ≤ m) : ∀ {ss : List Stp} {mem : List Int}, Mem m cells mem → (∀ s, s ∈ ss → StpOk m cells inputs s) → Mem m cells (runF m inp ss mem)
  | [], _, h, _ => h
  | s :: ss, mem, h, hs => runF_mem (mem := stepF m inp mem s) hm (stepF_mem hm h (hs s List.mem_cons_self)) fun x hx => hs x (List.mem_cons_of_mem _ hx)
theorem take_snoc {α : Type} {ss : List α} {i : Nat} {s : α} (h : ss[i]? = some s) : ss.take (i + 1) = ss.take i ++ [s] := by rw [List.take_add_one, h]; rfl
theorem FacAt.eqv {K : PySem.W.Frag} {H : Hp} {a : Addr} {f : Fac} (h : FacAt H a f) : Eqv K H 2 (.ref a) (.ref a) := by
  cases f with
  | cell i =>
    exact Eqv.self2 h (Nat.le_of_ble_eq_true rfl) fun x hx => by
      have e : x = .str "cell" ∨ x = .int (i : Int) := by simpa using hx
      rcases e with rfl | rfl
      · exact .str
      · exact .int
  | inp i =>
    exact Eqv.self2 h (Nat.le_of_ble_eq_true rfl) fun x hx => by
      have e : x = .str "input" ∨ x = .int (i : Int) := by simpa using hx
      rcases e with rfl | rfl
      · exact .str
      · exact .int
theorem StpAt.eqv {K : PySem.W.Frag} {H : Hp} {a : Addr} {m cells inputs : Nat} {s : Stp} (ok : StpOk m cells inputs s) (h : StpAt H a s) : Eqv K H 4 (.ref a) (.ref a) := by
  cases s with
  | add t c fs =>
    obtain ⟨f, as, h1, h2, h3, h4⟩ := h
    have hf : Eqv K H 3 (.ref f) (.ref f) := Eqv.self2 h2 (by rw [List.length_map, h3]; have := ok.2.2.2.1; omega) fun x hx => by
      obtain ⟨b, hb, rfl⟩ := List.mem_map.mp hx
      obtain ⟨i, hi⟩ := List.mem_iff_getElem?.mp hb
      have hl := (List.getElem?_eq_some_iff.mp hi).1
      exact (h4 i _ b (List.getElem?_eq_getElem (by omega)) hi).eqv
    exact Eqv.self2 h1 (Nat.le_of_ble_eq_true rfl) fun x hx => by
      have e : x = .str "add" ∨ x = .int (t : Int) ∨ x = .int c ∨ x = .ref f := by simpa using hx
      rcases e with rfl | rfl | rfl | rfl
      · exact .str
      · exact .int
      · exact .int
      · exact hf
  | scale t u =>
    exact Eqv.self2 h (Nat.le_of_ble_eq_true rfl) fun x hx => by
      have e : x = .str "scale" ∨ x = .int (t : Int) ∨ x = .int u := by simpa using hx
      rcases e with rfl | rfl | rfl
      · exact .str
      · exact .int
      · exact .int
  | swap i j =>
    exact Eqv.self2 h (Nat.le_of_ble_eq_true rfl) fun x hx => by
      have e : x = .str "swap" ∨ x = .int (i : Int) ∨ x = .int (j : Int) := by simpa using hx
      rcases e with rfl | rfl | rfl
      · exact .str
      · exact .int
      · exact .int
  | tab t g tb i j =>
    obtain ⟨c, h1, as, h2, h3, h4⟩ := h
    have hlen : tb.length ≤ 1000 := ok.2.2.2.2.2.2.2.2.1
    have hI : IsTab m tb := ok.2.2.2.2.2.2.2.1
    have hc : Eqv K H 3 (.ref c) (.ref c) := Eqv.self2 h2 (by rw [List.length_map, h3]; omega) fun x hx => by
      obtain ⟨b, hb, rfl⟩ := List.mem_map.mp hx
      obtain ⟨i, hi⟩ := List.mem_iff_getElem?.mp hb
      have hl := (List.getElem?_eq_some_iff.mp hi).1
      have hl2 : i < tb.length := by omega
      obtain ⟨hr, _⟩ := hI.rows i _ (List.getElem?_eq_getElem hl2)
      exact Eqv.self2 (h4 i _ b (List.getElem?_eq_getElem hl2) hi) (by rw [List.length_map, hr]; omega) fun x hx => by
        obtain ⟨z, _, rfl⟩ := List.mem_map.mp hx
        exact .int
    exact Eqv.self2 h1 (Nat.le_of_ble_eq_true rfl) fun x hx => by
      have e : x = .str "table" ∨ x = .int (t : Int) ∨ x = .int g ∨ x = .ref c ∨ x = .int (i : Int) ∨ x = .int (j : Int) := by simpa using hx
      rcases e with rfl | rfl | rfl | rfl | rfl | rfl
      · exact .str
      · exact .int
      · exact .int
      · exact hc
      · exact .int
      · exact .int
end Br

/-! ### minus and len of an instance -/
namespace Br
open PySem PySem.Spec PyProof.Rows L2 PySem.Calls
section
variable {X : Cx} {CX : CXT} {k : Nat} {f C : Addr} {fd : FuncData} {ps : List Str} {sp : Sp} {ds : List Value} {dvs : List V} {E : XK}
def rNegM (C : Addr) (sp : Sp) (dvs : List V) (E : XK) : V → Hp → VK → Prop := fun x H Q => ∃ a dx fs, x = .ref a ∧ H a = some (.ins C dx fs) ∧ sp (x :: dvs) H Q E
theorem un_negM (hm : Meth X.K C "__neg__" f) (F : FnOk X.prog X.w X.K X.mg X.base CX k f fd ps sp) (hr : Room k X.A) (hb : Binds X.K fd ps ds) (hd : Vals dvs ds) (hx : Passes CX X E) :
    UnR X (unaryOp .USub) (rNegM C sp dvs E) := by
  intro pins s σ H x u Q I rx q
  obtain ⟨a, dx, fs, rfl, e, q⟩ := q
  obtain rfl : u = Value.ref a := rx
  obtain ⟨mA, O, _⟩ := ins_get I.hok e
  obtain ⟨od, J, hl⟩ := O.look
  unfold unaryOp
  refine wpAny_holding ?_
  exact wpAny_bind (PySem.W.special_fn I.kIn J hm.at_ (beq_iff_eq.mp hm.fn) (wpAny_mono (run_fn (us := [.ref a]) (vs := [.ref a]) F hr hb hd hx I (.cons rfl .nil) q) (fun _ _ z => wpAny_pure z) fun _ _ z => z))
theorem run_in1 {pins : List (Addr × Obj)} {σ : L2.St} {H : Hp} {s : Shared} {Q : VK} {us : List Value} {vs : List V} (F : FnOk X.prog X.w X.K X.mg X.base CX k f fd ps sp) (hr : Room (k + 1) X.A) (hb : Binds X.K fd ps ds) (hd : Vals dvs ds) (hx : Passes CX X E)
    (I : Inv X pins σ H s) (r : Vals vs us) (h : sp (vs ++ dvs) H Q E) : wpAny (model X.prog X.w) X.A.in1 (call (.ref f) us) (EP X pins σ Q) X.xe s := by
  have r2 : Vals (vs ++ dvs) (us ++ ds) := r.append hd
  have hl : (us ++ ds).length = ps.length := by rw [← r2.length]; exact F.len _ _ _ _ h
  refine wpAny_call (codeAny_mono (F.run X.A.in1 X.stack s H ⟨us, []⟩ (us ++ ds) (vs ++ dvs) Q E hr.in1 I.env0.in1 (hb s us I.kIn hl) r2 h) fun r s' hq => ?_)
  cases r with
  | error e => exact hx pins σ H s e s' I hq
  | ok fl =>
    cases fl with
    | ret u =>
      obtain ⟨v, H', I3, rv, q3⟩ := I.after hq
      exact ⟨v, H', I3, rv, q3⟩
    | next => exact False.elim hq
    | brk => exact False.elim hq
    | cont => exact False.elim hq
theorem pe_fldK {K2 : PySem.W.Frag} {e : Expr} {g : Str} {ta : TE} {pos : Pos} (hK : X.K = K2) (he : PE X e ta) (hb : attributeBase e g X.env (eval e X.env) = eval e X.env) : PE X (.Attribute e g pos) (tFld K2 ta g) := by
  subst hK
  exact pe_fld he hb
def rLenM (C : Addr) (sp : Sp) (dvs : List V) (E : XK) : List V → Hp → VK → Prop := fun xs H Q => ∃ a dx fs, xs = [.ref a] ∧ H a = some (.ins C dx fs) ∧ sp (.ref a :: dvs) H (fun v H' => ∃ n : Nat, v = .int (n : Int) ∧ (n : Int) < 2 ^ 63 ∧ Q v H') E
theorem cr_lenM (hm : Meth X.K C "__len__" f) (F : FnOk X.prog X.w X.K X.mg X.base CX k f fd ps sp) (hr : Room (k + 1) X.A) (hb : Binds X.K fd ps ds) (hd : Vals dvs ds) (hx : Passes CX X E) : CallR X (.builtin "len") (rLenM C sp dvs E) := by
  intro pins s σ H xs us Q I r h
  obtain ⟨a, dx, fs, rfl, e, q⟩ := h
  obtain ⟨u, rfl, rx⟩ := vals1 r
  obtain rfl : u = Value.ref a := rx
  obtain ⟨mA, O, _⟩ := ins_get I.hok e
  obtain ⟨od, J, hl⟩ := O.look
  refine Calls.call_function_entry kind_len plain_len entry_len (args_len1 _) ?_
  unfold Builtin.«len»
  refine wpAny_bind (m := oneArg "len" _) (wpAny_pure ?_)
  refine wpAny_bind (m := callSpecial? (.ref a) (PySem.Str.ofString "__len__")) (PySem.W.special_fn I.kIn J hm.at_ (beq_iff_eq.mp hm.fn) (wpAny_mono (run_in1 (us := [.ref a]) (vs := [.ref a]) F hr hb hd hx I (.cons rfl .nil) q) (fun v s' z => ?_) fun _ _ z => z))
  obtain ⟨x, H', I', rx, n, rfl, hn, q⟩ := z
  obtain ⟨t, rfl⟩ := rx
  refine wpAny_bind (wpAny_holding (wpAny_pure ?_))
  refine wpAny_bind (wpAny_letGo ?_)
  show wpAny _ _ (if ((n : Nat) : Int) < 0 then _ else _) _ _ _
  rw [if_neg (by omega)]
  show wpAny _ _ (if ((n : Nat) : Int) ≥ 2 ^ 63 then _ else _) _ _ _
  rw [if_neg (by omega)]
  exact wpAny_bind (wpAny_mkInt (wpAny_pure ⟨_, rfl, .int (n : Int), H', I'.tok _, ⟨_, rfl⟩, q⟩))
end
end Br

/-! ### plus of two instances of a class -/
namespace Br
open PySem PySem.Spec PyProof.Rows L2 PySem.Calls
section
variable {X : Cx} {CX : CXT} {k : Nat} {f C : Addr} {fd : FuncData} {ps : List Str} {sp : Sp} {ds : List Value} {dvs : List V} {E : XK}
def rAddM (C : Addr) (sp : Sp) (dvs : List V) (E : XK) : R2 := fun x y H Q => ∃ a dx fs b dy gs, x = .ref a ∧ H a = some (.ins C dx fs) ∧ y = .ref b ∧ H b = some (.ins C dy gs) ∧ sp (x :: y :: dvs) H (fun v H' => ∃ r, v = .ref r ∧ Q v H') E
theorem op_addM (hm : Meth X.K C "__add__" f) (hc : PySem.W.selfFirst X.K C = true) (F : FnOk X.prog X.w X.K X.mg X.base CX k f fd ps sp) (hr : Room k X.A) (hb : Binds X.K fd ps ds) (hd : Vals dvs ds) (hx : Passes CX X E) :
    OpR X (binaryOp .Add) (rAddM C sp dvs E) := by
  intro pins s σ H x y v u Q I rx ry q
  obtain ⟨a, dx, fs, b, dy, gs, rfl, e, rfl, e2, q⟩ := q
  obtain rfl : v = Value.ref a := rx
  obtain rfl : u = Value.ref b := ry
  obtain ⟨mA, O, _⟩ := ins_get I.hok e
  obtain ⟨od, J, hl⟩ := O.look
  obtain ⟨mB, O2, _⟩ := ins_get I.hok e2
  obtain ⟨od2, J2, _⟩ := O2.look
  have X' := I.kIn
  obtain ⟨cd, hcd, hm2⟩ := PySem.W.any_some hc
  obtain ⟨rest, hm2⟩ : ∃ rest, cd.mro = .ref C :: rest := by
    cases q : cd.mro with
    | nil => rw [q] at hm2; cases hm2
    | cons a r => rw [q] at hm2; exact ⟨r, by rw [List.head?_cons] at hm2; cases (beq_iff_eq.mp hm2); rfl⟩
  unfold binaryOp
  refine wpAny_holding (wpAny_bind ?_)
  unfold binaryOp1
  refine wpAny_bind (J.type.here (wpAny_bind (J2.type.here (wpAny_bind ((PySem.W.fills_K (nm := "add") X' hcd hm2 hm.at_).here ?_)))))
  simp only [beq_self_eq_true, if_true]
  refine wpAny_bind (wpAny_pure ?_)
  simp only [Bool.and_false, Bool.false_eq_true, if_false, Bool.false_and]
  refine wpAny_bind (wpAny_pure ?_)
  simp only [Bool.false_eq_true, if_false]
  refine wpAny_bind (m := tryMethod (.ref a) _ (.ref b)) ?_
  unfold tryMethod
  refine wpAny_bind (PySem.W.special_fn X' J hm.at_ (beq_iff_eq.mp hm.fn) (wpAny_mono (run_fn (us := [.ref a, .ref b]) (vs := [.ref a, .ref b]) F hr hb hd hx I (.cons rfl (.cons rfl .nil)) q) (fun v s' z => ?_) fun _ _ z => z))
  obtain ⟨x, H', I', rx, r, rfl, q⟩ := z
  obtain rfl : v = Value.ref r := rx
  exact wpAny_pure (wpAny_pure (wpAny_pure ⟨.ref r, H', I', rfl, q⟩))
end
end Br

/-! ### steps that take back -/
namespace Br
open PySem PySem.Spec PyProof.Rows L2 Br.F
def IsBack (m : Nat) : Stp → Stp → Prop
  | .add t k fs, s' => s' = .add t (((m : Int) - k) % m) fs
  | .scale t u, s' => ∃ v : Int, s' = .scale t v ∧ 0 ≤ v ∧ v < m ∧ v * u % m = 1
  | .swap a b, s' => s' = .swap a b
  | .tab t g tb a b, s' => s' = .tab t ((m : Int) - g) tb a b
theorem mod_is {m : Nat} {x y : Int} (h0 : 0 ≤ x) (h1 : x < m) (h : (m : Int) ∣ y - x) : y % m = x := by
  have e : y % m = x % m := Int.emod_eq_emod_iff_emod_sub_eq_zero.mpr (Int.emod_eq_zero_of_dvd h)
  rw [e, Int.emod_eq_of_lt h0 h1]
theorem mod_ex (m : Nat) (x : Int) : ∃ q : Int, x % m = x - m * q := ⟨x / m, by rw [Int.emod_def]⟩
theorem getD_set_ne {xs : List Int} {i j : Nat} {z : Int} (h : i ≠ j) : (xs.set i z).getD j 0 = xs.getD j 0 := by
  rw [List.getD_eq_getElem?_getD, List.getD_eq_getElem?_getD, List.getElem?_set_ne h]
theorem getD_set_eq {xs : List Int} {i : Nat} {z : Int} (h : i < xs.length) : (xs.set i z).getD i 0 = z := by
  rw [List.getD_eq_getElem?_getD, List.getElem?_set_self h]; rfl
theorem set_getD {xs : List Int} {i : Nat} : xs.set i (xs.getD i 0) = xs := by
  apply List.ext_getElem?
  intro j
  by_cases h : i = j
  · subst h
    by_cases hl : i < xs.length
    · rw [List.getElem?_set_self hl, List.getD_eq_getElem?_getD, List.getElem?_eq_getElem hl]; rfl
    · rw [List.getElem?_eq_none (by rw [List.length_set]; omega), List.getElem?_eq_none (by omega)]
  · rw [List.getElem?_set_ne h]
theorem prodV_set {mv iv : List Int} {t c i : Nat} {z : Int} : ∀ {fs : List Fac}, (∀ f, f ∈ fs → FacOk c i t f) → prodV (mv.set t z) iv fs = prodV mv iv fs
  | [], _ => rfl
  | f :: fs, h => by
    show facV (mv.set t z) iv f * prodV (mv.set t z) iv fs = facV mv iv f * prodV mv iv fs
    rw [prodV_set fun g hg => h g (List.mem_cons_of_mem _ hg)]
    have e : facV (mv.set t z) iv f = facV mv iv f := by
      cases f with
      | cell j => exact getD_set_ne (h _ List.mem_cons_self).2.symm
      | inp j => rfl
    rw [e]
theorem undo_add {m : Nat} {x k P : Int} (h0 : 0 ≤ x) (h1 : x < m) : ((x + k * P) % m + (((m : Int) - k) % m) * P) % m = x := by
  refine mod_is h0 h1 ?_
  obtain ⟨q1, e1⟩ := mod_ex m (x + k * P)
  obtain ⟨q2, e2⟩ := mod_ex m ((m : Int) - k)
  rw [e1, e2]
  exact ⟨P - q1 - q2 * P, by grind⟩
theorem undo_tab {m : Nat} {x g V : Int} (h0 : 0 ≤ x) (h1 : x < m) : ((x + g * V) % m + ((m : Int) - g) * V) % m = x := by
  refine mod_is h0 h1 ?_
  obtain ⟨q1, e1⟩ := mod_ex m (x + g * V)
  rw [e1]
  exact ⟨V - q1, by grind⟩
theorem undo_scale {m : Nat} {x u v : Int} (h0 : 0 ≤ x) (h1 : x < m) (h : v * u % m = 1) : (x * u % m) * v % m = x := by
  refine mod_is h0 h1 ?_
  obtain ⟨q1, e1⟩ := mod_ex m (x * u)
  obtain ⟨q2, e2⟩ := mod_ex m (v * u)
  rw [h] at e2
  rw [e1]
  exact ⟨x * q2 - q1 * v, by grind⟩
theorem stepF_back {m c i : Nat} {iv mv : List Int} {s s' : Stp} (hm : 1 ≤ m) (hv : Mem m c mv) (ok : StpOk m c i s) (h : IsBack m s s') : stepF m iv (stepF m iv mv s) s' = mv := by
  cases s with
  | add t k fs =>
    obtain rfl := h
    obtain ⟨o1, o2, o3, o4, o5⟩ := ok
    obtain ⟨z, gz, ez, z0, z1⟩ := hv.get o1
    have hl : t < mv.length := by rw [hv.len]; exact o1
    show (mv.set t ((mv.getD t 0 + k * prodV mv iv fs) % m)).set t (((mv.set t ((mv.getD t 0 + k * prodV mv iv fs) % m)).getD t 0 + (((m : Int) - k) % m) * prodV (mv.set t ((mv.getD t 0 + k * prodV mv iv fs) % m)) iv fs) % m) = mv
    rw [getD_set_eq hl, prodV_set o5, List.set_set, ez, undo_add z0 z1, ← ez, set_getD]
  | scale t u =>
    obtain ⟨v, rfl, v0, v1, hvu⟩ := h
    obtain ⟨o1, _⟩ := ok
    obtain ⟨z, gz, ez, z0, z1⟩ := hv.get o1
    have hl : t < mv.length := by rw [hv.len]; exact o1
    show (mv.set t (mv.getD t 0 * u % m)).set t ((mv.set t (mv.getD t 0 * u % m)).getD t 0 * v % m) = mv
    rw [getD_set_eq hl, List.set_set, ez, undo_scale z0 z1 hvu, ← ez, set_getD]
  | swap a b =>
    obtain rfl := h
    obtain ⟨o1, o2, o3⟩ := ok
    have ha : a < mv.length := by rw [hv.len]; exact o1
    have hb : b < mv.length := by rw [hv.len]; exact o2
    show (((mv.set a (mv.getD b 0)).set b (mv.getD a 0)).set a (((mv.set a (mv.getD b 0)).set b (mv.getD a 0)).getD b 0)).set b (((mv.set a (mv.getD b 0)).set b (mv.getD a 0)).getD a 0) = mv
    rw [getD_set_eq (by rw [List.length_set]; exact hb), getD_set_ne o3.symm, getD_set_eq ha, List.set_comm _ _ o3, List.set_set, List.set_comm _ _ o3.symm, List.set_set, set_getD, set_getD]
  | tab t g tb a b =>
    obtain rfl := h
    obtain ⟨o1, o2, o3, o4, o5, _⟩ := ok
    obtain ⟨z, gz, ez, z0, z1⟩ := hv.get o1
    have hl : t < mv.length := by rw [hv.len]; exact o1
    generalize hV : ItpV m tb (mv.getD a 0) (mv.getD b 0) = W
    show (mv.set t ((mv.getD t 0 + g * ItpV m tb (mv.getD a 0) (mv.getD b 0)) % m)).set t (((mv.set t ((mv.getD t 0 + g * ItpV m tb (mv.getD a 0) (mv.getD b 0)) % m)).getD t 0 + ((m : Int) - g) * ItpV m tb ((mv.set t ((mv.getD t 0 + g * ItpV m tb (mv.getD a 0) (mv.getD b 0)) % m)).getD a 0) ((mv.set t ((mv.getD t 0 + g * ItpV m tb (mv.getD a 0) (mv.getD b 0)) % m)).getD b 0)) % m) = mv
    rw [getD_set_eq hl, getD_set_ne o4, getD_set_ne o5, hV, List.set_set, ez, undo_tab z0 z1, ← ez, set_getD]
theorem unit_uniq {m : Nat} {u v w : Int} (h1 : v * u % m = 1) (h2 : w * u % m = 1) (v0 : 0 ≤ v) (v1 : v < m) (w0 : 0 ≤ w) (w1 : w < m) : v = w := by
  obtain ⟨q1, e1⟩ := mod_ex m (v * u)
  obtain ⟨q2, e2⟩ := mod_ex m (w * u)
  rw [h1] at e1
  rw [h2] at e2
  have e : v % m = w := mod_is w0 w1 ⟨w * q1 - v * q2, by grind⟩
  rw [← e, Int.emod_eq_of_lt v0 v1]
theorem IsBack.uniq {m : Nat} {s a b : Stp} (h1 : IsBack m s a) (h2 : IsBack m s b) : a = b := by
  cases s with
  | add => exact h1.trans h2.symm
  | swap => exact h1.trans h2.symm
  | tab => exact h1.trans h2.symm
  | scale t u =>
    obtain ⟨v, rfl, v0, v1, hv⟩ := h1
    obtain ⟨w, rfl, w0, w1, hw⟩ := h2
    rw [unit_uniq hv hw v0 v1 w0 w1]
theorem IsBack.symm {m c i : Nat} {s s' : Stp} (ok : StpOk m c i s) (h : IsBack m s s') : IsBack m s' s := by
  cases s with
  | add t k fs =>
    obtain rfl := h
    obtain ⟨o1, o2, o3, _⟩ := ok
    show Stp.add t k fs = .add t (((m : Int) - ((m : Int) - k) % m) % m) fs
    have e : ((m : Int) - ((m : Int) - k) % m) % m = k := by
      refine mod_is o2 o3 ?_
      obtain ⟨q, e⟩ := mod_ex m ((m : Int) - k)
      rw [e]
      exact ⟨q, by grind⟩
    rw [e]
  | scale t u =>
    obtain ⟨v, rfl, v0, v1, hv⟩ := h
    exact ⟨u, rfl, ok.2.1, ok.2.2.1, by rw [Int.mul_comm]; exact hv⟩
  | swap a b =>
    obtain rfl := h
    rfl
  | tab t g tb a b =>
    obtain rfl := h
    show Stp.tab t g tb a b = .tab t ((m : Int) - ((m : Int) - g)) tb a b
    rw [Int.sub_sub_self]
theorem IsBack.ok {m c i : Nat} {s s' : Stp} (hm : 2 ≤ m) (ok : StpOk m c i s) (h : IsBack m s s') : StpOk m c i s' := by
  cases s with
  | add t k fs =>
    obtain rfl := h
    obtain ⟨o1, o2, o3, o4, o5⟩ := ok
    exact ⟨o1, Int.emod_nonneg _ (by omega), Int.emod_lt_of_pos _ (by omega), o4, o5⟩
  | scale t u =>
    obtain ⟨v, rfl, v0, v1, hv⟩ := h
    refine ⟨ok.1, v0, v1, ?_⟩
    have h1 := Int.gcd_dvd_left (a := v) (b := (m : Int))
    have h2 := Int.gcd_dvd_right (a := v) (b := (m : Int))
    have h3 : ((Int.gcd v m : Nat) : Int) ∣ ((1 : Nat) : Int) := by
      obtain ⟨q, e⟩ := mod_ex m (v * u)
      rw [hv] at e
      obtain ⟨x, hx⟩ := h1
      obtain ⟨y, hy⟩ := h2
      generalize ((Int.gcd v m : Nat) : Int) = G at hx hy
      refine ⟨x * u - y * q, ?_⟩
      rw [Int.mul_sub, ← Int.mul_assoc, ← Int.mul_assoc, ← hx, ← hy]
      exact e
    exact Nat.dvd_one.mp (Int.ofNat_dvd.mp h3)
  | swap a b =>
    obtain rfl := h
    exact ok
  | tab t g tb a b =>
    obtain rfl := h
    obtain ⟨o1, o2, o3, o4, o5, o6, o7, o8, o9, o10⟩ := ok
    exact ⟨o1, o2, o3, o4, o5, o6, by omega, o8, o9, o10⟩
inductive BackOf (m : Nat) : List Stp → List Stp → Prop
  | nil : BackOf m [] []
  | cons {s s' : Stp} {ss ss' : List Stp} : IsBack m s s' → BackOf m ss ss' → BackOf m (s :: ss) (ss' ++ [s'])
theorem BackOf.snoc {m : Nat} {x y : Stp} {xs ys : List Stp} (h : BackOf m xs ys) (hb : IsBack m x y) : BackOf m (xs ++ [x]) (y :: ys) := by
  induction h with
  | nil => exact .cons (ss' := []) hb .nil
  | cons h1 _ ih => exact .cons (ss' := y :: _) h1 ih
theorem BackOf.len {m : Nat} {xs ys : List Stp} (h : BackOf m xs ys) : ys.length = xs.length := by
  induction h with
  | nil => rfl
  | cons h1 _ ih => rw [List.length_append, List.length_cons, ih]; rfl
theorem BackOf.symm {m c i : Nat} {xs ys : List Stp} (h : BackOf m xs ys) (ok : ∀ s, s ∈ xs → StpOk m c i s) : BackOf m ys xs := by
  induction h with
  | nil => exact .nil
  | cons h1 _ ih => exact (ih fun s hs => ok s (List.mem_cons_of_mem _ hs)).snoc (h1.symm (ok _ List.mem_cons_self))
theorem BackOf.oks {m c i : Nat} {xs ys : List Stp} (hm : 2 ≤ m) (h : BackOf m xs ys) (ok : ∀ s, s ∈ xs → StpOk m c i s) : ∀ s, s ∈ ys → StpOk m c i s := by
  induction h with
  | nil => exact ok
  | cons h1 _ ih =>
    intro s hs
    rcases List.mem_append.mp hs with h | h
    · exact ih (fun s hs => ok s (List.mem_cons_of_mem _ hs)) s h
    · rw [List.mem_singleton.mp h]
      exact h1.ok hm (ok _ List.mem_cons_self)
theorem BackOf.uniq {m : Nat} {xs ys : List Stp} (h : BackOf m xs ys) : ∀ {zs : List Stp}, BackOf m xs zs → ys = zs := by
  induction h with
  | nil => intro zs h; cases h; rfl
  | cons h1 _ ih =>
    intro zs h
    cases h with
    | cons h2 h3 => rw [ih h3, h1.uniq h2]
theorem runF_app {m : Nat} {iv : List Int} {xs ys : List Stp} {mv : List Int} : runF m iv (xs ++ ys) mv = runF m iv ys (runF m iv xs mv) := by
  unfold runF
  rw [List.foldl_append]
theorem runF_back {m c i : Nat} {iv : List Int} {xs ys : List Stp} (hm : 1 ≤ m) (h : BackOf m xs ys) : ∀ {mv : List Int}, Mem m c mv → (∀ s, s ∈ xs → StpOk m c i s) → runF m iv ys (runF m iv xs mv) = mv := by
  induction h with
  | nil => intro mv _ _; rfl
  | @cons s s' ss ss' h1 _ ih =>
    intro mv hv ok
    have oks := ok s List.mem_cons_self
    show runF m iv (ss' ++ [s']) (runF m iv ss (stepF m iv mv s)) = mv
    rw [runF_snoc, ih (stepF_mem hm hv oks) fun s hs => ok s (List.mem_cons_of_mem _ hs), stepF_back hm hv oks h1]
/-- two that are the same step -/
theorem FacAt.eqv2 {K : PySem.W.Frag} {H : Hp} {a b : Addr} {f : Fac} (h : FacAt H a f) (h' : FacAt H b f) : Eqv K H 2 (.ref a) (.ref b) := by
  cases f with
  | cell i =>
    refine Eqv.tup h h' rfl (Nat.le_of_ble_eq_true rfl) fun j x y e1 e2 => ?_
    rw [e1] at e2
    cases e2
    have hx := List.mem_of_getElem? e1
    have e : x = .str "cell" ∨ x = .int (i : Int) := by simpa using hx
    rcases e with rfl | rfl
    · exact .str
    · exact .int
  | inp i =>
    refine Eqv.tup h h' rfl (Nat.le_of_ble_eq_true rfl) fun j x y e1 e2 => ?_
    rw [e1] at e2
    cases e2
    have hx := List.mem_of_getElem? e1
    have e : x = .str "input" ∨ x = .int (i : Int) := by simpa using hx
    rcases e with rfl | rfl
    · exact .str
    · exact .int
theorem StpAt.eqv2 {K : PySem.W.Frag} {H : Hp} {a b : Addr} {m cells inputs : Nat} {s : Stp} (ok : StpOk m cells inputs s) (h : StpAt H a s) (h' : StpAt H b s) : Eqv K H 4 (.ref a) (.ref b) := by
  cases s with
  | add t c fs =>
    obtain ⟨f, as, h1, h2, h3, h4⟩ := h
    obtain ⟨f', as', h1', h2', h3', h4'⟩ := h'
    have hf : Eqv K H 3 (.ref f) (.ref f') := by
      refine Eqv.tup h2 h2' (by rw [List.length_map, List.length_map]; omega) (by rw [List.length_map, h3']; have := ok.2.2.2.1; omega) fun j x y e1 e2 => ?_
      obtain ⟨p, hp, rfl⟩ := map_getR e1
      obtain ⟨p', hp', rfl⟩ := map_getR e2
      have hl := (List.getElem?_eq_some_iff.mp hp).1
      have g := List.getElem?_eq_getElem (l := fs) (i := j) (by omega)
      exact (h4 j _ p g hp).eqv2 (h4' j _ p' g hp')
    refine Eqv.tup h1 h1' rfl (Nat.le_of_ble_eq_true rfl) fun j x y e1 e2 => ?_
    match j, e1, e2 with
    | 0, e1, e2 => cases e1; cases e2; exact .str
    | 1, e1, e2 => cases e1; cases e2; exact .int
    | 2, e1, e2 => cases e1; cases e2; exact .int
    | 3, e1, e2 => cases e1; cases e2; exact hf
    | j + 4, e1, _ => simp at e1
  | scale t u =>
    refine Eqv.tup h h' rfl (Nat.le_of_ble_eq_true rfl) fun j x y e1 e2 => ?_
    match j, e1, e2 with
    | 0, e1, e2 => cases e1; cases e2; exact .str
    | 1, e1, e2 => cases e1; cases e2; exact .int
    | 2, e1, e2 => cases e1; cases e2; exact .int
    | j + 3, e1, _ => simp at e1
  | swap i k =>
    refine Eqv.tup h h' rfl (Nat.le_of_ble_eq_true rfl) fun j x y e1 e2 => ?_
    match j, e1, e2 with
    | 0, e1, e2 => cases e1; cases e2; exact .str
    | 1, e1, e2 => cases e1; cases e2; exact .int
    | 2, e1, e2 => cases e1; cases e2; exact .int
    | j + 3, e1, _ => simp at e1
  | tab t g tb i k =>
    obtain ⟨c, h1, as, h2, h3, h4⟩ := h
    obtain ⟨c', h1', as', h2', h3', h4'⟩ := h'
    have hlen : tb.length ≤ 1000 := ok.2.2.2.2.2.2.2.2.1
    have hI : IsTab m tb := ok.2.2.2.2.2.2.2.1
    have hc : Eqv K H 3 (.ref c) (.ref c') := by
      refine Eqv.tup h2 h2' (by rw [List.length_map, List.length_map]; omega) (by rw [List.length_map, h3']; omega) fun j x y e1 e2 => ?_
      obtain ⟨p, hp, rfl⟩ := map_getR e1
      obtain ⟨p', hp', rfl⟩ := map_getR e2
      have hl := (List.getElem?_eq_some_iff.mp hp).1
      have hl2 : j < tb.length := by omega
      have gr := List.getElem?_eq_getElem hl2
      obtain ⟨hr, _⟩ := hI.rows j _ gr
      refine Eqv.tup (h4 j _ p gr hp) (h4' j _ p' gr hp') rfl (by rw [List.length_map, hr]; omega) fun j2 x y e1 e2 => ?_
      rw [e1] at e2
      cases e2
      obtain ⟨z, _, rfl⟩ := map_get e1
      exact .int
    refine Eqv.tup h1 h1' rfl (Nat.le_of_ble_eq_true rfl) fun j x y e1 e2 => ?_
    match j, e1, e2 with
    | 0, e1, e2 => cases e1; cases e2; exact .str
    | 1, e1, e2 => cases e1; cases e2; exact .int
    | 2, e1, e2 => cases e1; cases e2; exact .int
    | 3, e1, e2 => cases e1; cases e2; exact hc
    | 4, e1, e2 => cases e1; cases e2; exact .int
    | 5, e1, e2 => cases e1; cases e2; exact .int
    | j + 6, e1, _ => simp at e1
end Br

/-! ### exceptions of the program: what a suite asks of the one it holds -/
namespace Br
open PySem PySem.Spec PyProof.Rows L2
theorem kit_ref {K : PySem.W.Frag} {D Y : Addr} {b : Bool} (hd : PySem.W.hasDictIn K Y = true) (ht : PySem.W.typeIn K (.ref Y) = some (.type "type")) (h : PySem.W.subIn K (.ref D) (.ref Y) = some b) (hs : PySem.W.subIn K (.ref Y) (.ref Y) = some true) : PySem.W.kitOne K (.ref D) (.ref Y) = some b := by
  unfold PySem.W.kitOne
  by_cases e : D = Y
  · subst e
    rw [h] at hs
    cases hs
    rw [if_pos (by simp)]
  · have hne : ((Value.ref D : Value) == Value.ref Y) = false := by
      rw [beq_eq_false_iff_ne]
      intro z
      cases z
      exact e rfl
    rw [hne, if_neg Bool.false_ne_true]
    obtain ⟨cd, hc, _⟩ := PySem.W.any_some hd
    have e2 : ((PySem.W.clsIn K Y).isSome && PySem.W.typeIn K (.ref Y) == some (.type "type")) = true := by rw [hc, ht]; rfl
    show (if ((PySem.W.clsIn K Y).isSome && PySem.W.typeIn K (.ref Y) == some (.type "type")) = true then PySem.W.subIn K (.ref D) (.ref Y) else none) = some b
    rw [if_pos e2]
    exact h
/-- isinstance(e, c), e what the suite holds, of whatever class -/
def rIsEQ (K : PySem.W.Frag) (a : Addr) (cls : Value) (d : Option Addr) : List V → Hp → VK → Prop := fun xs H Q => ∃ (D : Addr) (C : Addr) (b : Bool), cls = .ref D ∧ d = none ∧ ExcC K D ∧ xs = [.ref a, .ref C] ∧ PySem.W.kitOne K (.ref D) (.ref C) = some b ∧ Q (.bl b) H
theorem call_isEQ {X : Cx} {a : Addr} {oe : Obj} {cls : Value} {d : Option Addr} {pn : List (Addr × Obj)} {K : PySem.W.Frag} (hK : X.K = K) (hz : Zc cls d oe) (hf : ∃ vs, oe.data = .fields vs) : CallR (X.suite a ((a, oe) :: pn)) (.builtin "isinstance") (rIsEQ K a cls d) := by
  subst hK
  intro pins s σ H xs us Q I r h
  obtain ⟨D, C, b, rfl, rfl, hC, rfl, hk, q⟩ := h
  exact call_isE hC hz hf pins s σ H _ us Q I r ⟨.ref C, .ref C, b, rfl, fun u hu => hu, hk, q⟩
section
variable {σ : L2.St} {H : Hp} {D : Ends}
theorem x_callS {sp : Sp} {E : L2.St → XK} {t : TA} {Q : VK} (h : t σ H fun vs H1 => sp vs H1 Q (E σ)) : tCallS sp E t σ H Q := h
end
/-- a method's call within a try: what it raises is wished for at the slots as they stand -/
def tMethX (C : Addr) (m : Str) (sp : Sp) (E : L2.St → XK) (ta : TE) (t : TA) : TE := fun σ H Q => ta σ H fun x H1 => ∃ a dx fs, x = .ref a ∧ H1 a = some (.ins C dx fs) ∧ fs.lookup m = none ∧ t σ H1 fun vs H2 => sp (x :: vs) H2 Q (E σ)
theorem pe_methX {X : Cx} {CX : CXT} {k : Nat} {f C : Addr} {fd : FuncData} {ps : List Str} {sp : Sp} {E : L2.St → XK} {m : Str} {pos apos : Pos} {e o : Expr} {es : List Expr} {ta : TE} {t : TA} {pl : Sem Bool} (he : PE X o ta) (c : Cls X.K C) (hm : Meth X.K C m f)
    (F : FnOk X.prog X.w X.K X.mg X.base CX k f fd ps sp) (hr : Room k X.A) (hb : Binds X.K fd ps []) (hx : ∀ σ, PassesAt CX X σ (E σ)) (ha : PA X (e :: es) t)
    (hst : starEach (e :: es) X.env = (false, eval e X.env) :: starEach es X.env := by rfl) (hpl : (backTo pos (starEach es X.env)).any (·.1) = false := by rfl)
    (ht : eval (.Call (.Attribute o m apos) (e :: es) [] pos) X.env = (do
      let ov ← eval o X.env
      standAt apos.atName
      let (f, first) ← holding [ov] (getMethod ov m pl)
      callWith pos f first (backTo pos (starEach (e :: es) X.env)) (backToKw pos (keywordEach [] X.env))) := by rfl) :
    PE X (.Call (.Attribute o m apos) (e :: es) [] pos) (tMethX C m sp E ta t) := by
  refine ⟨fun pins s σ H Q I h => ?_⟩
  refine PySem.W.methodCall_KW (pl := pl) (thn (he.run pins s σ H _ I h) fun u s1 ⟨x, H1, I1, rx, a, dx, fs, ex, ea, l, q⟩ => ?_) ht
  subst ex
  obtain rfl : u = Value.ref a := rx
  refine getmeth_ok I1 ea c hm l ?_
  refine PySem.W.callWith_K (first := [.ref a]) (h₀ := X.base) I.ok.mod.kin hm.kp (thn (ha.run pos pins s1 σ H1 _ I1 q) fun us s2 ⟨vs, H2, I2, r, q2⟩ => ⟨I2.kIn, ?_⟩) hst hpl
  exact run_fnS (us := .ref a :: us) (vs := .ref a :: vs) F hr hb (hx σ) I2 (.cons rfl r) q2
theorem x_methX {C : Addr} {m : Str} {sp : Sp} {E : L2.St → XK} {ta : TE} {t : TA} {σ : L2.St} {H : Hp} {Q : VK} (h : ta σ H fun x H1 => ∃ a dx fs, x = .ref a ∧ H1 a = some (.ins C dx fs) ∧ fs.lookup m = none ∧ t σ H1 fun vs H2 => sp (x :: vs) H2 Q (E σ)) : tMethX C m sp E ta t σ H Q := h
/-! texts with numbers -/
theorem x_fmt {te : TE} {σ : L2.St} {H : Hp} {Q : VK} (h : te σ H fun x H1 => (∃ y : Str, x = .str y ∧ y.length ≤ sizeLine ∧ Q (.str y) H1) ∨ ∃ i : Int, x = .int i ∧ i.natAbs.log2 < 1920 ∧ Q (.str (toString i)) H1) : tFmt te σ H Q := h
theorem len_nat {n : Nat} (h : n < 10 ^ 10) : (Str.ofString (toString (n : Int))).length ≤ 10 := toString_length_le (Int.natCast_nonneg n) (by decide) (by exact_mod_cast h)
theorem log_nat {n : Nat} (h : n < 2 ^ 64) : ((n : Int)).natAbs.log2 < 1920 := by
  rw [Int.natAbs_natCast]
  by_cases h0 : n = 0
  · subst h0; decide
  · have := (Nat.log2_lt h0).mpr h
    omega
end Br
/-! isinstance(e, (C1, C2, ..)), e what the suite holds -/
namespace Br
open PySem PySem.Spec PyProof.Rows L2
def rIsEQT (K : PySem.W.Frag) (a : Addr) (cls : Value) (d : Option Addr) : List V → Hp → VK → Prop := fun xs H Q => ∃ (D tp : Addr) (cs : List V) (us : List Value) (b : Bool), cls = .ref D ∧ d = none ∧ ExcC K D ∧ xs = [.ref a, .ref tp] ∧ H tp = some (.tup cs) ∧ Paired ClsV cs us ∧ PySem.W.kitAny K (.ref D) us = some b ∧ Q (.bl b) H
theorem call_isEQT {X : Cx} {a : Addr} {oe : Obj} {cls : Value} {d : Option Addr} {pn : List (Addr × Obj)} {K : PySem.W.Frag} (hK : X.K = K) (hz : Zc cls d oe) (hf : ∃ vs, oe.data = .fields vs) : CallR (X.suite a ((a, oe) :: pn)) (.builtin "isinstance") (rIsEQT K a cls d) := by
  subst hK
  intro pins s σ H xs us Q I r h
  obtain ⟨D, tp, cs, ws, b, rfl, rfl, C, rfl, hT, k, e, q⟩ := h
  obtain ⟨u1, u2, rfl, rx, rt⟩ := vals2 r
  cases (show u2 = Value.ref tp from rt)
  cases (show u1 = Value.ref a from rx)
  obtain ⟨hget, _⟩ := I.pin (a, oe) (List.mem_append.mpr (.inl List.mem_cons_self))
  obtain ⟨vs, hv⟩ := hf
  have J : PySem.W.InstAt s.heap a oe D none := by
    obtain ⟨oc, od, oda, osl⟩ := oe
    obtain ⟨h1, h2⟩ := hz
    dsimp only at h1 h2 hv
    subst h1 h2 hv
    exact ⟨hget, rfl, rfl, trivial⟩
  obtain ⟨_, its, rv, o, h1, h2, n, h3⟩ := (show ObjOk _ _ H s.heap tp (.tup cs) from I.hok tp _ hT)
  have e3 := ClsV.all k rv
  subst e3
  obtain ⟨oc, od, dt, sl⟩ := o
  simp only at h2 h3
  subst h2 h3
  exact PySem.W.kia_tup (PySem.W.handS_kitx_exc C.hg C.hk C.hs C.hd C.ha C.hn C.ht C.hm) I.kIn J h1 e (fun z => nomatch z) fun tk => ⟨.bl b, H, I.kept (t' := tk) fun _ _ z => z, rfl, q⟩
end Br
namespace Br
open PySem PySem.Spec PyProof.Rows L2
/-! isinstance(e, ValueError), e what the suite holds -/
def rIsEV (K : PySem.W.Frag) (a : Addr) (cls : Value) (d : Option Addr) : List V → Hp → VK → Prop := fun xs H Q => ∃ (D : Addr) (T : String) (b : Bool), cls = .ref D ∧ d = none ∧ ExcC K D ∧ xs = [.ref a, .ty T] ∧ PySem.W.kitOne K (.ref D) (.type T) = some b ∧ Q (.bl b) H
theorem call_isEV {X : Cx} {a : Addr} {oe : Obj} {cls : Value} {d : Option Addr} {pn : List (Addr × Obj)} {K : PySem.W.Frag} (hK : X.K = K) (hz : Zc cls d oe) (hf : ∃ vs, oe.data = .fields vs) : CallR (X.suite a ((a, oe) :: pn)) (.builtin "isinstance") (rIsEV K a cls d) := by
  subst hK
  intro pins s σ H xs us Q I r h
  obtain ⟨D, T, b, rfl, rfl, hC, rfl, hk, q⟩ := h
  exact call_isE hC hz hf pins s σ H _ us Q I r ⟨.ty T, .type T, b, rfl, fun u hu => hu, hk, q⟩
theorem kit_val {K : PySem.W.Frag} {D : Addr} (h : PySem.W.subIn K (.ref D) (.type "ValueError") = some true) : PySem.W.kitOne K (.ref D) (.type "ValueError") = some true := by
  unfold PySem.W.kitOne
  rw [if_neg (by rw [show ((Value.ref D : Value) == Value.type "ValueError") = false from rfl]; decide)]
  show (if PySem.W.kitMeta "ValueError" = true then PySem.W.subIn K (.ref D) (.type "ValueError") else none) = some true
  rw [if_pos (by decide +kernel)]
  exact h
end Br













namespace Br
open PySem PySem.Spec PyProof.Rows L2
def topS (i : Nat) : Stmt := PySem.Challenge.pw_brimful_k06_programs_are_joined_and_part.main.body.getD i (.Pass ⟨0, 0, 0, 0⟩)
abbrev s_is_below : Stmt := topS 7
abbrev N_is_below : List Str := ["value", "bound"]
theorem sc_is_below : FnScope N_is_below ["value", "bound"] (defScope s_is_below) := ⟨rfl, rfl, rfl, by decide +kernel, rfl, by decide +kernel, by decide +kernel⟩
abbrev s_is_modulus : Stmt := topS 8
abbrev N_is_modulus : List Str := ["value"]
theorem sc_is_modulus : FnScope N_is_modulus ["value"] (defScope s_is_modulus) := ⟨rfl, rfl, rfl, by decide +kernel, rfl, by decide +kernel, by decide +kernel⟩
abbrev s_are_numbers : Stmt := topS 9
abbrev N_are_numbers : List Str := ["values", "many", "modulus", "value"]
theorem sc_are_numbers : FnScope N_are_numbers ["values", "many", "modulus"] (defScope s_are_numbers) := ⟨rfl, rfl, rfl, by decide +kernel, rfl, by decide +kernel, by decide +kernel⟩
abbrev s_is_prime : Stmt := topS 10
abbrev N_is_prime : List Str := ["n", "divisor"]
theorem sc_is_prime : FnScope N_is_prime ["n"] (defScope s_is_prime) := ⟨rfl, rfl, rfl, by decide +kernel, rfl, by decide +kernel, by decide +kernel⟩
abbrev s_inverse_of : Stmt := topS 11
abbrev N_inverse_of : List Str := ["n", "modulus", "last", "rest", "last_factor", "rest_factor", "times"]
theorem sc_inverse_of : FnScope N_inverse_of ["n", "modulus"] (defScope s_inverse_of) := ⟨rfl, rfl, rfl, by decide +kernel, rfl, by decide +kernel, by decide +kernel⟩
abbrev s_interpolate : Stmt := topS 12
abbrev N_interpolate : List Str := ["table", "prime", "x", "y", "row_shares", "column_shares", "total", "row_share", "row"]
theorem sc_interpolate : FnScope N_interpolate ["table", "prime", "x", "y"] (defScope s_interpolate) := ⟨rfl, rfl, rfl, by decide +kernel, rfl, by decide +kernel, by decide +kernel⟩
abbrev s_weighted : Stmt := topS 13
abbrev N_weighted : List Str := ["row", "shares", "share", "value"]
theorem sc_weighted : FnScope N_weighted ["row", "shares"] (defScope s_weighted) := ⟨rfl, rfl, rfl, by decide +kernel, rfl, by decide +kernel, by decide +kernel⟩
abbrev s_shares : Stmt := topS 14
abbrev N_shares : List Str := ["size", "prime", "x", "at", "top", "shares", "bottom"]
theorem sc_shares : FnScope N_shares ["size", "prime", "x"] (defScope s_shares) := ⟨rfl, rfl, rfl, by decide +kernel, rfl, by decide +kernel, by decide +kernel⟩
abbrev s_products_of_differences : Stmt := topS 15
abbrev N_products_of_differences : List Str := ["size", "prime", "factorials", "n", "bottoms", "at", "above", "sign"]
theorem sc_products_of_differences : FnScope N_products_of_differences ["size", "prime"] (defScope s_products_of_differences) := ⟨rfl, rfl, rfl, by decide +kernel, rfl, by decide +kernel, by decide +kernel⟩
abbrev s_is_step : Stmt := topS 18
abbrev N_is_step : List Str := ["step", "modulus", "cells", "inputs", "target", "coefficient", "factors", "unit", "a", "b", "sign", "table"]
theorem sc_is_step : FnScope N_is_step ["step", "modulus", "cells", "inputs"] (defScope s_is_step) := ⟨rfl, rfl, rfl, by decide +kernel, rfl, by decide +kernel, by decide +kernel⟩
abbrev s_are_factors : Stmt := topS 19
abbrev N_are_factors : List Str := ["factors", "target", "cells", "inputs", "factor"]
theorem sc_are_factors : FnScope N_are_factors ["factors", "target", "cells", "inputs"] (defScope s_are_factors) := ⟨rfl, rfl, rfl, by decide +kernel, rfl, by decide +kernel, by decide +kernel⟩
abbrev s_is_factor : Stmt := topS 20
abbrev N_is_factor : List Str := ["factor", "target", "cells", "inputs", "at"]
theorem sc_is_factor : FnScope N_is_factor ["factor", "target", "cells", "inputs"] (defScope s_is_factor) := ⟨rfl, rfl, rfl, by decide +kernel, rfl, by decide +kernel, by decide +kernel⟩
abbrev s_are_three_cells : Stmt := topS 21
abbrev N_are_three_cells : List Str := ["target", "a", "b", "cells", "cell"]
theorem sc_are_three_cells : FnScope N_are_three_cells ["target", "a", "b", "cells"] (defScope s_are_three_cells) := ⟨rfl, rfl, rfl, by decide +kernel, rfl, by decide +kernel, by decide +kernel⟩
abbrev s_is_sign : Stmt := topS 22
abbrev N_is_sign : List Str := ["sign", "modulus"]
theorem sc_is_sign : FnScope N_is_sign ["sign", "modulus"] (defScope s_is_sign) := ⟨rfl, rfl, rfl, by decide +kernel, rfl, by decide +kernel, by decide +kernel⟩
abbrev s_is_table : Stmt := topS 23
abbrev N_is_table : List Str := ["table", "modulus", "row"]
theorem sc_is_table : FnScope N_is_table ["table", "modulus"] (defScope s_is_table) := ⟨rfl, rfl, rfl, by decide +kernel, rfl, by decide +kernel, by decide +kernel⟩
abbrev s_is_row : Stmt := topS 24
abbrev N_is_row : List Str := ["row", "size", "modulus", "value"]
theorem sc_is_row : FnScope N_is_row ["row", "size", "modulus"] (defScope s_is_row) := ⟨rfl, rfl, rfl, by decide +kernel, rfl, by decide +kernel, by decide +kernel⟩
abbrev s_changes : Stmt := topS 25
abbrev N_changes : List Str := ["step", "memory", "given", "modulus", "target", "coefficient", "factors", "amount", "unit", "a", "b", "sign", "table"]
theorem sc_changes : FnScope N_changes ["step", "memory", "given", "modulus"] (defScope s_changes) := ⟨rfl, rfl, rfl, by decide +kernel, rfl, by decide +kernel, by decide +kernel⟩
abbrev s_performed : Stmt := topS 26
abbrev N_performed : List Str := ["steps", "memory", "given", "modulus", "behind", "step", "changed", "cell", "content"]
theorem sc_performed : FnScope N_performed ["steps", "memory", "given", "modulus"] (defScope s_performed) := ⟨rfl, rfl, rfl, by decide +kernel, rfl, by decide +kernel, by decide +kernel⟩
abbrev s_product_of : Stmt := topS 27
abbrev N_product_of : List Str := ["factors", "memory", "given", "modulus", "result", "place", "at", "number"]
theorem sc_product_of : FnScope N_product_of ["factors", "memory", "given", "modulus"] (defScope s_product_of) := ⟨rfl, rfl, rfl, by decide +kernel, rfl, by decide +kernel, by decide +kernel⟩
abbrev s_inverse_step : Stmt := topS 28
abbrev N_inverse_step : List Str := ["step", "modulus", "target", "coefficient", "factors", "unit", "sign", "table", "a", "b"]
theorem sc_inverse_step : FnScope N_inverse_step ["step", "modulus"] (defScope s_inverse_step) := ⟨rfl, rfl, rfl, by decide +kernel, rfl, by decide +kernel, by decide +kernel⟩
abbrev s_check_sizes : Stmt := topS 34
abbrev N_check_sizes : List Str := ["modulus", "cells", "inputs"]
theorem sc_check_sizes : FnScope N_check_sizes ["modulus", "cells", "inputs"] (defScope s_check_sizes) := ⟨rfl, rfl, rfl, by decide +kernel, rfl, by decide +kernel, by decide +kernel⟩
abbrev s_check_steps : Stmt := topS 35
abbrev N_check_steps : List Str := ["steps", "modulus", "cells", "inputs", "at", "step"]
theorem sc_check_steps : FnScope N_check_steps ["steps", "modulus", "cells", "inputs"] (defScope s_check_steps) := ⟨rfl, rfl, rfl, by decide +kernel, rfl, by decide +kernel, by decide +kernel⟩
abbrev s_law_mixed : Stmt := topS 37
abbrev N_law_mixed : List Str := ["number", "k", "step"]
theorem sc_law_mixed : FnScope N_law_mixed ["number", "k"] (defScope s_law_mixed) := ⟨rfl, rfl, rfl, by decide +kernel, rfl, by decide +kernel, by decide +kernel⟩
abbrev s_law_numbers : Stmt := topS 38
abbrev N_law_numbers : List Str := ["script", "numbers", "cell", "rest", "k"]
theorem sc_law_numbers : FnScope N_law_numbers ["script"] (defScope s_law_numbers) := ⟨rfl, rfl, rfl, by decide +kernel, rfl, by decide +kernel, by decide +kernel⟩
abbrev s_law_draw : Stmt := topS 39
abbrev N_law_draw : List Str := ["draws", "at", "first"]
theorem sc_law_draw : FnScope N_law_draw ["draws"] (defScope s_law_draw) := ⟨rfl, rfl, rfl, by decide +kernel, rfl, by decide +kernel, by decide +kernel⟩
abbrev s_law_equal : Stmt := topS 40
abbrev N_law_equal : List Str := ["actual", "due"]
theorem sc_law_equal : FnScope N_law_equal ["actual", "due"] (defScope s_law_equal) := ⟨rfl, rfl, rfl, by decide +kernel, rfl, by decide +kernel, by decide +kernel⟩
abbrev s_law_all_equal : Stmt := topS 41
abbrev N_law_all_equal : List Str := ["actual", "due", "k"]
theorem sc_law_all_equal : FnScope N_law_all_equal ["actual", "due"] (defScope s_law_all_equal) := ⟨rfl, rfl, rfl, by decide +kernel, rfl, by decide +kernel, by decide +kernel⟩
abbrev s_law_large : Stmt := topS 42
abbrev N_law_large : List Str := ["draws", "bound", "number"]
theorem sc_law_large : FnScope N_law_large ["draws", "bound"] (defScope s_law_large) := ⟨rfl, rfl, rfl, by decide +kernel, rfl, by decide +kernel, by decide +kernel⟩
abbrev s_law_modulus : Stmt := topS 43
abbrev N_law_modulus : List Str := ["draws", "pick"]
theorem sc_law_modulus : FnScope N_law_modulus ["draws"] (defScope s_law_modulus) := ⟨rfl, rfl, rfl, by decide +kernel, rfl, by decide +kernel, by decide +kernel⟩
abbrev s_law_number : Stmt := topS 44
abbrev N_law_number : List Str := ["draws", "modulus", "pick"]
theorem sc_law_number : FnScope N_law_number ["draws", "modulus"] (defScope s_law_number) := ⟨rfl, rfl, rfl, by decide +kernel, rfl, by decide +kernel, by decide +kernel⟩
abbrev s_law_gcd : Stmt := topS 45
abbrev N_law_gcd : List Str := ["one", "two", "k", "rest"]
theorem sc_law_gcd : FnScope N_law_gcd ["one", "two"] (defScope s_law_gcd) := ⟨rfl, rfl, rfl, by decide +kernel, rfl, by decide +kernel, by decide +kernel⟩
abbrev s_law_unit : Stmt := topS 46
abbrev N_law_unit : List Str := ["draws", "modulus", "k", "number"]
theorem sc_law_unit : FnScope N_law_unit ["draws", "modulus"] (defScope s_law_unit) := ⟨rfl, rfl, rfl, by decide +kernel, rfl, by decide +kernel, by decide +kernel⟩
abbrev s_law_prime : Stmt := topS 47
abbrev N_law_prime : List Str := ["draws"]
theorem sc_law_prime : FnScope N_law_prime ["draws"] (defScope s_law_prime) := ⟨rfl, rfl, rfl, by decide +kernel, rfl, by decide +kernel, by decide +kernel⟩
abbrev s_law_table : Stmt := topS 48
abbrev N_law_table : List Str := ["draws", "prime", "count", "i", "j"]
theorem sc_law_table : FnScope N_law_table ["draws", "prime"] (defScope s_law_table) := ⟨rfl, rfl, rfl, by decide +kernel, rfl, by decide +kernel, by decide +kernel⟩
abbrev s_law_factor : Stmt := topS 49
abbrev N_law_factor : List Str := ["draws", "target", "cells", "inputs"]
theorem sc_law_factor : FnScope N_law_factor ["draws", "target", "cells", "inputs"] (defScope s_law_factor) := ⟨rfl, rfl, rfl, by decide +kernel, rfl, by decide +kernel, by decide +kernel⟩
abbrev s_law_step : Stmt := topS 50
abbrev N_law_step : List Str := ["draws", "modulus", "cells", "inputs", "prime", "pick", "target", "other", "last", "places", "sign", "factors", "k"]
theorem sc_law_step : FnScope N_law_step ["draws", "modulus", "cells", "inputs", "prime"] (defScope s_law_step) := ⟨rfl, rfl, rfl, by decide +kernel, rfl, by decide +kernel, by decide +kernel⟩
abbrev s_law_program : Stmt := topS 51
abbrev N_law_program : List Str := ["draws", "most", "prime", "modulus", "cells", "inputs", "many", "steps", "k"]
theorem sc_law_program : FnScope N_law_program ["draws", "most"] (defScope s_law_program) := ⟨rfl, rfl, rfl, by decide +kernel, rfl, by decide +kernel, by decide +kernel⟩
abbrev s_law_made : Stmt := topS 52
abbrev N_law_made : List Str := ["model"]
theorem sc_law_made : FnScope N_law_made ["model"] (defScope s_law_made) := ⟨rfl, rfl, rfl, by decide +kernel, rfl, by decide +kernel, by decide +kernel⟩
abbrev s_law_memory : Stmt := topS 53
abbrev N_law_memory : List Str := ["draws", "model", "k"]
theorem sc_law_memory : FnScope N_law_memory ["draws", "model"] (defScope s_law_memory) := ⟨rfl, rfl, rfl, by decide +kernel, rfl, by decide +kernel, by decide +kernel⟩
abbrev s_law_given : Stmt := topS 54
abbrev N_law_given : List Str := ["draws", "model", "k"]
theorem sc_law_given : FnScope N_law_given ["draws", "model"] (defScope s_law_given) := ⟨rfl, rfl, rfl, by decide +kernel, rfl, by decide +kernel, by decide +kernel⟩
abbrev s_law_other : Stmt := topS 55
abbrev N_law_other : List Str := ["draws", "model", "other", "pick", "name", "k"]
theorem sc_law_other : FnScope N_law_other ["draws", "model"] (defScope s_law_other) := ⟨rfl, rfl, rfl, by decide +kernel, rfl, by decide +kernel, by decide +kernel⟩
abbrev s_law_summed : Stmt := topS 56
abbrev N_law_summed : List Str := ["one", "two", "program", "second", "alike", "refused", "total", "e"]
theorem sc_law_summed : FnScope N_law_summed ["one", "two", "program", "second"] (defScope s_law_summed) := ⟨rfl, rfl, rfl, by decide +kernel, rfl, by decide +kernel, by decide +kernel⟩
abbrev s_law_refuses_back : Stmt := topS 57
abbrev N_law_refuses_back : List Str := ["program", "many", "e"]
theorem sc_law_refuses_back : FnScope N_law_refuses_back ["program", "many"] (defScope s_law_refuses_back) := ⟨rfl, rfl, rfl, by decide +kernel, rfl, by decide +kernel, by decide +kernel⟩
abbrev s_law_parted : Stmt := topS 58
abbrev N_law_parted : List Str := ["program", "model", "many", "refused", "part", "e", "good"]
theorem sc_law_parted : FnScope N_law_parted ["program", "model", "many"] (defScope s_law_parted) := ⟨rfl, rfl, rfl, by decide +kernel, rfl, by decide +kernel, by decide +kernel⟩
abbrev s_law_made_of : Stmt := topS 59
abbrev N_law_made_of : List Str := ["many", "e"]
theorem sc_law_made_of : FnScope N_law_made_of ["many"] (defScope s_law_made_of) := ⟨rfl, rfl, rfl, by decide +kernel, rfl, by decide +kernel, by decide +kernel⟩
abbrev s_law_summed_up : Stmt := topS 60
abbrev N_law_summed_up : List Str := ["one", "two", "e"]
theorem sc_law_summed_up : FnScope N_law_summed_up ["one", "two"] (defScope s_law_summed_up) := ⟨rfl, rfl, rfl, by decide +kernel, rfl, by decide +kernel, by decide +kernel⟩
abbrev s_law_bounds : Stmt := topS 61
abbrev N_law_bounds : List Str := ["draws", "many", "more", "due"]
theorem sc_law_bounds : FnScope N_law_bounds ["draws"] (defScope s_law_bounds) := ⟨rfl, rfl, rfl, by decide +kernel, rfl, by decide +kernel, by decide +kernel⟩
abbrev s_law : Stmt := topS 62
abbrev N_law : List Str := ["script", "draws", "turn", "one", "two", "program", "second", "many", "memory", "given", "due"]
theorem sc_law : FnScope N_law ["script"] (defScope s_law) := ⟨rfl, rfl, rfl, by decide +kernel, rfl, by decide +kernel, by decide +kernel⟩
abbrev s_Program___init : Stmt := inClass (topS 33) 0
abbrev N_Program___init : List Str := ["self", "modulus", "cells", "inputs", "steps"]
theorem sc_Program___init : FnScope N_Program___init ["self", "modulus", "cells", "inputs", "steps"] (defScope s_Program___init) := ⟨rfl, rfl, rfl, by decide +kernel, rfl, by decide +kernel, by decide +kernel⟩
abbrev s_Program___len : Stmt := inClass (topS 33) 1
abbrev N_Program___len : List Str := ["self"]
theorem sc_Program___len : FnScope N_Program___len ["self"] (defScope s_Program___len) := ⟨rfl, rfl, rfl, by decide +kernel, rfl, by decide +kernel, by decide +kernel⟩
abbrev s_Program___add : Stmt := inClass (topS 33) 2
abbrev N_Program___add : List Str := ["self", "other"]
theorem sc_Program___add : FnScope N_Program___add ["self", "other"] (defScope s_Program___add) := ⟨rfl, rfl, rfl, by decide +kernel, rfl, by decide +kernel, by decide +kernel⟩
abbrev s_Program___neg : Stmt := inClass (topS 33) 3
abbrev N_Program___neg : List Str := ["self", "back", "step"]
theorem sc_Program___neg : FnScope N_Program___neg ["self"] (defScope s_Program___neg) := ⟨rfl, rfl, rfl, by decide +kernel, rfl, by decide +kernel, by decide +kernel⟩
abbrev s_Program_run : Stmt := inClass (topS 33) 4
abbrev N_Program_run : List Str := ["self", "memory", "given"]
theorem sc_Program_run : FnScope N_Program_run ["self", "memory", "given"] (defScope s_Program_run) := ⟨rfl, rfl, rfl, by decide +kernel, rfl, by decide +kernel, by decide +kernel⟩
abbrev s_Program_part : Stmt := inClass (topS 33) 5
abbrev N_Program_part : List Str := ["self", "n"]
theorem sc_Program_part : FnScope N_Program_part ["self", "n"] (defScope s_Program_part) := ⟨rfl, rfl, rfl, by decide +kernel, rfl, by decide +kernel, by decide +kernel⟩
abbrev s_Program_called_back : Stmt := inClass (topS 33) 6
abbrev N_Program_called_back : List Str := ["self", "n"]
theorem sc_Program_called_back : FnScope N_Program_called_back ["self", "n"] (defScope s_Program_called_back) := ⟨rfl, rfl, rfl, by decide +kernel, rfl, by decide +kernel, by decide +kernel⟩
structure Txt (K : PySem.W.Frag) (mg : Str → Option Value) where
  a_is_below : Addr
  fd_is_below : FuncData
  F_is_below : Fun K "is_below" "is_below" s_is_below a_is_below fd_is_below
  b_is_below : Binds K fd_is_below ["value", "bound"] []
  g_is_below : mg "is_below" = some (.ref a_is_below)
  a_is_modulus : Addr
  fd_is_modulus : FuncData
  F_is_modulus : Fun K "is_modulus" "is_modulus" s_is_modulus a_is_modulus fd_is_modulus
  b_is_modulus : Binds K fd_is_modulus ["value"] []
  g_is_modulus : mg "is_modulus" = some (.ref a_is_modulus)
  a_are_numbers : Addr
  fd_are_numbers : FuncData
  F_are_numbers : Fun K "are_numbers" "are_numbers" s_are_numbers a_are_numbers fd_are_numbers
  b_are_numbers : Binds K fd_are_numbers ["values", "many", "modulus"] []
  g_are_numbers : mg "are_numbers" = some (.ref a_are_numbers)
  a_is_prime : Addr
  fd_is_prime : FuncData
  F_is_prime : Fun K "is_prime" "is_prime" s_is_prime a_is_prime fd_is_prime
  b_is_prime : Binds K fd_is_prime ["n"] []
  g_is_prime : mg "is_prime" = some (.ref a_is_prime)
  a_inverse_of : Addr
  fd_inverse_of : FuncData
  F_inverse_of : Fun K "inverse_of" "inverse_of" s_inverse_of a_inverse_of fd_inverse_of
  b_inverse_of : Binds K fd_inverse_of ["n", "modulus"] []
  g_inverse_of : mg "inverse_of" = some (.ref a_inverse_of)
  a_interpolate : Addr
  fd_interpolate : FuncData
  F_interpolate : Fun K "interpolate" "interpolate" s_interpolate a_interpolate fd_interpolate
  b_interpolate : Binds K fd_interpolate ["table", "prime", "x", "y"] []
  g_interpolate : mg "interpolate" = some (.ref a_interpolate)
  a_weighted : Addr
  fd_weighted : FuncData
  F_weighted : Fun K "_weighted" "_weighted" s_weighted a_weighted fd_weighted
  b_weighted : Binds K fd_weighted ["row", "shares"] []
  g_weighted : mg "_weighted" = some (.ref a_weighted)
  a_shares : Addr
  fd_shares : FuncData
  F_shares : Fun K "_shares" "_shares" s_shares a_shares fd_shares
  b_shares : Binds K fd_shares ["size", "prime", "x"] []
  g_shares : mg "_shares" = some (.ref a_shares)
  a_products_of_differences : Addr
  fd_products_of_differences : FuncData
  F_products_of_differences : Fun K "products_of_differences" "products_of_differences" s_products_of_differences a_products_of_differences fd_products_of_differences
  b_products_of_differences : Binds K fd_products_of_differences ["size", "prime"] []
  g_products_of_differences : mg "products_of_differences" = some (.ref a_products_of_differences)
  a_is_step : Addr
  fd_is_step : FuncData
  F_is_step : Fun K "is_step" "is_step" s_is_step a_is_step fd_is_step
  b_is_step : Binds K fd_is_step ["step", "modulus", "cells", "inputs"] []
  g_is_step : mg "is_step" = some (.ref a_is_step)
  a_are_factors : Addr
  fd_are_factors : FuncData
  F_are_factors : Fun K "_are_factors" "_are_factors" s_are_factors a_are_factors fd_are_factors
  b_are_factors : Binds K fd_are_factors ["factors", "target", "cells", "inputs"] []
  g_are_factors : mg "_are_factors" = some (.ref a_are_factors)
  a_is_factor : Addr
  fd_is_factor : FuncData
  F_is_factor : Fun K "_is_factor" "_is_factor" s_is_factor a_is_factor fd_is_factor
  b_is_factor : Binds K fd_is_factor ["factor", "target", "cells", "inputs"] []
  g_is_factor : mg "_is_factor" = some (.ref a_is_factor)
  a_are_three_cells : Addr
  fd_are_three_cells : FuncData
  F_are_three_cells : Fun K "_are_three_cells" "_are_three_cells" s_are_three_cells a_are_three_cells fd_are_three_cells
  b_are_three_cells : Binds K fd_are_three_cells ["target", "a", "b", "cells"] []
  g_are_three_cells : mg "_are_three_cells" = some (.ref a_are_three_cells)
  a_is_sign : Addr
  fd_is_sign : FuncData
  F_is_sign : Fun K "_is_sign" "_is_sign" s_is_sign a_is_sign fd_is_sign
  b_is_sign : Binds K fd_is_sign ["sign", "modulus"] []
  g_is_sign : mg "_is_sign" = some (.ref a_is_sign)
  a_is_table : Addr
  fd_is_table : FuncData
  F_is_table : Fun K "is_table" "is_table" s_is_table a_is_table fd_is_table
  b_is_table : Binds K fd_is_table ["table", "modulus"] []
  g_is_table : mg "is_table" = some (.ref a_is_table)
  a_is_row : Addr
  fd_is_row : FuncData
  F_is_row : Fun K "_is_row" "_is_row" s_is_row a_is_row fd_is_row
  b_is_row : Binds K fd_is_row ["row", "size", "modulus"] []
  g_is_row : mg "_is_row" = some (.ref a_is_row)
  a_changes : Addr
  fd_changes : FuncData
  F_changes : Fun K "changes" "changes" s_changes a_changes fd_changes
  b_changes : Binds K fd_changes ["step", "memory", "given", "modulus"] []
  g_changes : mg "changes" = some (.ref a_changes)
  a_performed : Addr
  fd_performed : FuncData
  F_performed : Fun K "performed" "performed" s_performed a_performed fd_performed
  b_performed : Binds K fd_performed ["steps", "memory", "given", "modulus"] []
  g_performed : mg "performed" = some (.ref a_performed)
  a_product_of : Addr
  fd_product_of : FuncData
  F_product_of : Fun K "_product_of" "_product_of" s_product_of a_product_of fd_product_of
  b_product_of : Binds K fd_product_of ["factors", "memory", "given", "modulus"] []
  g_product_of : mg "_product_of" = some (.ref a_product_of)
  a_inverse_step : Addr
  fd_inverse_step : FuncData
  F_inverse_step : Fun K "inverse_step" "inverse_step" s_inverse_step a_inverse_step fd_inverse_step
  b_inverse_step : Binds K fd_inverse_step ["step", "modulus"] []
  g_inverse_step : mg "inverse_step" = some (.ref a_inverse_step)
  a_check_sizes : Addr
  fd_check_sizes : FuncData
  F_check_sizes : Fun K "_check_sizes" "_check_sizes" s_check_sizes a_check_sizes fd_check_sizes
  b_check_sizes : Binds K fd_check_sizes ["modulus", "cells", "inputs"] []
  g_check_sizes : mg "_check_sizes" = some (.ref a_check_sizes)
  a_check_steps : Addr
  fd_check_steps : FuncData
  F_check_steps : Fun K "_check_steps" "_check_steps" s_check_steps a_check_steps fd_check_steps
  b_check_steps : Binds K fd_check_steps ["steps", "modulus", "cells", "inputs"] []
  g_check_steps : mg "_check_steps" = some (.ref a_check_steps)
  a_law_mixed : Addr
  fd_law_mixed : FuncData
  F_law_mixed : Fun K "_law_mixed" "_law_mixed" s_law_mixed a_law_mixed fd_law_mixed
  b_law_mixed : Binds K fd_law_mixed ["number", "k"] []
  g_law_mixed : mg "_law_mixed" = some (.ref a_law_mixed)
  a_law_numbers : Addr
  fd_law_numbers : FuncData
  F_law_numbers : Fun K "_law_numbers" "_law_numbers" s_law_numbers a_law_numbers fd_law_numbers
  b_law_numbers : Binds K fd_law_numbers ["script"] []
  g_law_numbers : mg "_law_numbers" = some (.ref a_law_numbers)
  a_law_draw : Addr
  fd_law_draw : FuncData
  F_law_draw : Fun K "_law_draw" "_law_draw" s_law_draw a_law_draw fd_law_draw
  b_law_draw : Binds K fd_law_draw ["draws"] []
  g_law_draw : mg "_law_draw" = some (.ref a_law_draw)
  a_law_equal : Addr
  fd_law_equal : FuncData
  F_law_equal : Fun K "_law_equal" "_law_equal" s_law_equal a_law_equal fd_law_equal
  b_law_equal : Binds K fd_law_equal ["actual", "due"] []
  g_law_equal : mg "_law_equal" = some (.ref a_law_equal)
  a_law_all_equal : Addr
  fd_law_all_equal : FuncData
  F_law_all_equal : Fun K "_law_all_equal" "_law_all_equal" s_law_all_equal a_law_all_equal fd_law_all_equal
  b_law_all_equal : Binds K fd_law_all_equal ["actual", "due"] []
  g_law_all_equal : mg "_law_all_equal" = some (.ref a_law_all_equal)
  a_law_large : Addr
  fd_law_large : FuncData
  F_law_large : Fun K "_law_large" "_law_large" s_law_large a_law_large fd_law_large
  b_law_large : Binds K fd_law_large ["draws", "bound"] []
  g_law_large : mg "_law_large" = some (.ref a_law_large)
  a_law_modulus : Addr
  fd_law_modulus : FuncData
  F_law_modulus : Fun K "_law_modulus" "_law_modulus" s_law_modulus a_law_modulus fd_law_modulus
  b_law_modulus : Binds K fd_law_modulus ["draws"] []
  g_law_modulus : mg "_law_modulus" = some (.ref a_law_modulus)
  a_law_number : Addr
  fd_law_number : FuncData
  F_law_number : Fun K "_law_number" "_law_number" s_law_number a_law_number fd_law_number
  b_law_number : Binds K fd_law_number ["draws", "modulus"] []
  g_law_number : mg "_law_number" = some (.ref a_law_number)
  a_law_gcd : Addr
  fd_law_gcd : FuncData
  F_law_gcd : Fun K "_law_gcd" "_law_gcd" s_law_gcd a_law_gcd fd_law_gcd
  b_law_gcd : Binds K fd_law_gcd ["one", "two"] []
  g_law_gcd : mg "_law_gcd" = some (.ref a_law_gcd)
  a_law_unit : Addr
  fd_law_unit : FuncData
  F_law_unit : Fun K "_law_unit" "_law_unit" s_law_unit a_law_unit fd_law_unit
  b_law_unit : Binds K fd_law_unit ["draws", "modulus"] []
  g_law_unit : mg "_law_unit" = some (.ref a_law_unit)
  a_law_prime : Addr
  fd_law_prime : FuncData
  F_law_prime : Fun K "_law_prime" "_law_prime" s_law_prime a_law_prime fd_law_prime
  b_law_prime : Binds K fd_law_prime ["draws"] []
  g_law_prime : mg "_law_prime" = some (.ref a_law_prime)
  a_law_table : Addr
  fd_law_table : FuncData
  F_law_table : Fun K "_law_table" "_law_table" s_law_table a_law_table fd_law_table
  b_law_table : Binds K fd_law_table ["draws", "prime"] []
  g_law_table : mg "_law_table" = some (.ref a_law_table)
  a_law_factor : Addr
  fd_law_factor : FuncData
  F_law_factor : Fun K "_law_factor" "_law_factor" s_law_factor a_law_factor fd_law_factor
  b_law_factor : Binds K fd_law_factor ["draws", "target", "cells", "inputs"] []
  g_law_factor : mg "_law_factor" = some (.ref a_law_factor)
  a_law_step : Addr
  fd_law_step : FuncData
  F_law_step : Fun K "_law_step" "_law_step" s_law_step a_law_step fd_law_step
  b_law_step : Binds K fd_law_step ["draws", "modulus", "cells", "inputs", "prime"] []
  g_law_step : mg "_law_step" = some (.ref a_law_step)
  a_law_program : Addr
  fd_law_program : FuncData
  F_law_program : Fun K "_law_program" "_law_program" s_law_program a_law_program fd_law_program
  b_law_program : Binds K fd_law_program ["draws", "most"] []
  g_law_program : mg "_law_program" = some (.ref a_law_program)
  a_law_made : Addr
  fd_law_made : FuncData
  F_law_made : Fun K "_law_made" "_law_made" s_law_made a_law_made fd_law_made
  b_law_made : Binds K fd_law_made ["model"] []
  g_law_made : mg "_law_made" = some (.ref a_law_made)
  a_law_memory : Addr
  fd_law_memory : FuncData
  F_law_memory : Fun K "_law_memory" "_law_memory" s_law_memory a_law_memory fd_law_memory
  b_law_memory : Binds K fd_law_memory ["draws", "model"] []
  g_law_memory : mg "_law_memory" = some (.ref a_law_memory)
  a_law_given : Addr
  fd_law_given : FuncData
  F_law_given : Fun K "_law_given" "_law_given" s_law_given a_law_given fd_law_given
  b_law_given : Binds K fd_law_given ["draws", "model"] []
  g_law_given : mg "_law_given" = some (.ref a_law_given)
  a_law_other : Addr
  fd_law_other : FuncData
  F_law_other : Fun K "_law_other" "_law_other" s_law_other a_law_other fd_law_other
  b_law_other : Binds K fd_law_other ["draws", "model"] []
  g_law_other : mg "_law_other" = some (.ref a_law_other)
  a_law_summed : Addr
  fd_law_summed : FuncData
  F_law_summed : Fun K "_law_summed" "_law_summed" s_law_summed a_law_summed fd_law_summed
  b_law_summed : Binds K fd_law_summed ["one", "two", "program", "second"] []
  g_law_summed : mg "_law_summed" = some (.ref a_law_summed)
  a_law_refuses_back : Addr
  fd_law_refuses_back : FuncData
  F_law_refuses_back : Fun K "_law_refuses_back" "_law_refuses_back" s_law_refuses_back a_law_refuses_back fd_law_refuses_back
  b_law_refuses_back : Binds K fd_law_refuses_back ["program", "many"] []
  g_law_refuses_back : mg "_law_refuses_back" = some (.ref a_law_refuses_back)
  a_law_parted : Addr
  fd_law_parted : FuncData
  F_law_parted : Fun K "_law_parted" "_law_parted" s_law_parted a_law_parted fd_law_parted
  b_law_parted : Binds K fd_law_parted ["program", "model", "many"] []
  g_law_parted : mg "_law_parted" = some (.ref a_law_parted)
  a_law_made_of : Addr
  fd_law_made_of : FuncData
  F_law_made_of : Fun K "_law_made_of" "_law_made_of" s_law_made_of a_law_made_of fd_law_made_of
  b_law_made_of : Binds K fd_law_made_of ["many"] []
  g_law_made_of : mg "_law_made_of" = some (.ref a_law_made_of)
  a_law_summed_up : Addr
  fd_law_summed_up : FuncData
  F_law_summed_up : Fun K "_law_summed_up" "_law_summed_up" s_law_summed_up a_law_summed_up fd_law_summed_up
  b_law_summed_up : Binds K fd_law_summed_up ["one", "two"] []
  g_law_summed_up : mg "_law_summed_up" = some (.ref a_law_summed_up)
  a_law_bounds : Addr
  fd_law_bounds : FuncData
  F_law_bounds : Fun K "_law_bounds" "_law_bounds" s_law_bounds a_law_bounds fd_law_bounds
  b_law_bounds : Binds K fd_law_bounds ["draws"] []
  g_law_bounds : mg "_law_bounds" = some (.ref a_law_bounds)
  a_law : Addr
  fd_law : FuncData
  F_law : Fun K "law" "law" s_law a_law fd_law
  b_law : Binds K fd_law ["script"] []
  g_law : mg "law" = some (.ref a_law)
  a_Program___init : Addr
  fd_Program___init : FuncData
  F_Program___init : Fun K "__init__" "Program.__init__" s_Program___init a_Program___init fd_Program___init
  b_Program___init : Binds K fd_Program___init ["self", "modulus", "cells", "inputs", "steps"] []
  a_Program___len : Addr
  fd_Program___len : FuncData
  F_Program___len : Fun K "__len__" "Program.__len__" s_Program___len a_Program___len fd_Program___len
  b_Program___len : Binds K fd_Program___len ["self"] []
  a_Program___add : Addr
  fd_Program___add : FuncData
  F_Program___add : Fun K "__add__" "Program.__add__" s_Program___add a_Program___add fd_Program___add
  b_Program___add : Binds K fd_Program___add ["self", "other"] []
  a_Program___neg : Addr
  fd_Program___neg : FuncData
  F_Program___neg : Fun K "__neg__" "Program.__neg__" s_Program___neg a_Program___neg fd_Program___neg
  b_Program___neg : Binds K fd_Program___neg ["self"] []
  a_Program_run : Addr
  fd_Program_run : FuncData
  F_Program_run : Fun K "run" "Program.run" s_Program_run a_Program_run fd_Program_run
  b_Program_run : Binds K fd_Program_run ["self", "memory", "given"] []
  a_Program_part : Addr
  fd_Program_part : FuncData
  F_Program_part : Fun K "part" "Program.part" s_Program_part a_Program_part fd_Program_part
  b_Program_part : Binds K fd_Program_part ["self", "n"] []
  a_Program_called_back : Addr
  fd_Program_called_back : FuncData
  F_Program_called_back : Fun K "called_back" "Program.called_back" s_Program_called_back a_Program_called_back fd_Program_called_back
  b_Program_called_back : Binds K fd_Program_called_back ["self", "n"] []
  C_Program : Addr
  cl_Program : Cls K C_Program
  gc_Program : mg "Program" = some (.ref C_Program)
  na_Program_modulus : NoAttr K C_Program "modulus"
  na_Program_cells : NoAttr K C_Program "cells"
  na_Program_inputs : NoAttr K C_Program "inputs"
  na_Program_steps : NoAttr K C_Program "steps"
  ic_Program : C8.InsC K C_Program
  sf_Program : PySem.W.selfFirst K C_Program = true
  mk_Program : Mk K C_Program a_Program___init
  me_Program___len : Meth K C_Program "__len__" a_Program___len
  me_Program___add : Meth K C_Program "__add__" a_Program___add
  me_Program___neg : Meth K C_Program "__neg__" a_Program___neg
  me_Program_run : Meth K C_Program "run" a_Program_run
  me_Program_part : Meth K C_Program "part" a_Program_part
  me_Program_called_back : Meth K C_Program "called_back" a_Program_called_back
  E_BrimfulError : Addr
  gE_BrimfulError : mg "BrimfulError" = some (.ref E_BrimfulError)
  xE_BrimfulError : PySem.W.excIn K E_BrimfulError [.type "ValueError", .type "Exception", .type "BaseException", .type "object"] "ValueError.__new__" = true
  kE_BrimfulError : PySem.W.keepIn K (.ref E_BrimfulError) = true
  bE_BrimfulError : PySem.W.subIn K (.ref E_BrimfulError) (.type "BaseException") = some true
  tE_BrimfulError : PySem.W.typeIn K (.ref E_BrimfulError) = some (.type "type")
  dE_BrimfulError : PySem.W.hasDictIn K E_BrimfulError = true
  cE_BrimfulError : L2.ExcC K E_BrimfulError
  E_BadStep : Addr
  gE_BadStep : mg "BadStep" = some (.ref E_BadStep)
  xE_BadStep : PySem.W.excIn K E_BadStep [.type "ValueError", .type "Exception", .type "BaseException", .type "object"] "ValueError.__new__" = true
  kE_BadStep : PySem.W.keepIn K (.ref E_BadStep) = true
  bE_BadStep : PySem.W.subIn K (.ref E_BadStep) (.type "BaseException") = some true
  tE_BadStep : PySem.W.typeIn K (.ref E_BadStep) = some (.type "type")
  dE_BadStep : PySem.W.hasDictIn K E_BadStep = true
  cE_BadStep : L2.ExcC K E_BadStep
  E_BadMemory : Addr
  gE_BadMemory : mg "BadMemory" = some (.ref E_BadMemory)
  xE_BadMemory : PySem.W.excIn K E_BadMemory [.type "ValueError", .type "Exception", .type "BaseException", .type "object"] "ValueError.__new__" = true
  kE_BadMemory : PySem.W.keepIn K (.ref E_BadMemory) = true
  bE_BadMemory : PySem.W.subIn K (.ref E_BadMemory) (.type "BaseException") = some true
  tE_BadMemory : PySem.W.typeIn K (.ref E_BadMemory) = some (.type "type")
  dE_BadMemory : PySem.W.hasDictIn K E_BadMemory = true
  cE_BadMemory : L2.ExcC K E_BadMemory
  sE_BrimfulError_BrimfulError : PySem.W.subIn K (.ref E_BrimfulError) (.ref E_BrimfulError) = some true
  sE_BrimfulError_BadStep : PySem.W.subIn K (.ref E_BrimfulError) (.ref E_BadStep) = some false
  sE_BrimfulError_BadMemory : PySem.W.subIn K (.ref E_BrimfulError) (.ref E_BadMemory) = some false
  sE_BadStep_BrimfulError : PySem.W.subIn K (.ref E_BadStep) (.ref E_BrimfulError) = some true
  sE_BadStep_BadStep : PySem.W.subIn K (.ref E_BadStep) (.ref E_BadStep) = some true
  sE_BadStep_BadMemory : PySem.W.subIn K (.ref E_BadStep) (.ref E_BadMemory) = some false
  sE_BadMemory_BrimfulError : PySem.W.subIn K (.ref E_BadMemory) (.ref E_BrimfulError) = some true
  sE_BadMemory_BadStep : PySem.W.subIn K (.ref E_BadMemory) (.ref E_BadStep) = some false
  sE_BadMemory_BadMemory : PySem.W.subIn K (.ref E_BadMemory) (.ref E_BadMemory) = some true
  m_all : mg "all" = none
  m_any : mg "any" = none
  m_bool : mg "bool" = none
  m_enumerate : mg "enumerate" = none
  m_int : mg "int" = none
  m_isinstance : mg "isinstance" = none
  m_len : mg "len" = none
  m_list : mg "list" = none
  m_max : mg "max" = none
  m_min : mg "min" = none
  m_range : mg "range" = none
  m_str : mg "str" = none
  m_sum : mg "sum" = none
  m_tuple : mg "tuple" = none
  m_zip : mg "zip" = none
  m_gcd : mg "gcd" = some (.builtin "math.gcd")
  m_isqrt : mg "isqrt" = some (.builtin "math.isqrt")
  t_GREATEST_MODULUS : Tok
  c_GREATEST_MODULUS : mg "GREATEST_MODULUS" = some (.int 1000000000 t_GREATEST_MODULUS)
  t_MOST_CELLS : Tok
  c_MOST_CELLS : mg "MOST_CELLS" = some (.int 60 t_MOST_CELLS)
  t_MOST_FACTORS : Tok
  c_MOST_FACTORS : mg "MOST_FACTORS" = some (.int 3 t_MOST_FACTORS)
  t_MOST_INPUTS : Tok
  c_MOST_INPUTS : mg "MOST_INPUTS" = some (.int 60 t_MOST_INPUTS)
  t_MOST_STEPS : Tok
  c_MOST_STEPS : mg "MOST_STEPS" = some (.int 20000 t_MOST_STEPS)
end Br
namespace Br
open PySem PySem.Spec PyProof.Rows L2
local macro_rules | `(tactic| walk_at "x1") => `(tactic| (with_reducible first
  | refine Br.x_seq ?_ | refine Br.x_set ?_ | refine Br.x_asg ?_ | refine Br.x_next ?_ | refine Br.x_ret ?_ | refine Br.x_retN ?_ | refine Br.x_drop ?_ | refine Br.x_if ?_ | refine Br.x_brk ?_ | refine Br.x_cont ?_
  | refine Br.x_c ?_ | refine Br.x_op ?_ | refine Br.x_un ?_ | refine Br.x_I0 ?_ | refine Br.x_U ?_ | refine Br.x_EqI ?_ | refine Br.x_NeI ?_ | refine Br.x_EqB ?_ | refine Br.x_iN ?_ | refine Br.x_int1 ?_ | refine Br.x_min2 ?_ | refine Br.x_max2 ?_ | refine Br.x_nN ?_ | refine Br.x_ifE ?_
  | refine Br.x_test (b := ()) ?_ | refine Br.x_tB ?_ | refine Br.x_bl ?_ | refine Br.x_and ?_ | refine Br.x_or ?_ | refine Br.x_not ?_ | refine Br.x_andV ?_ | refine Br.x_orV ?_ | refine Br.x_notV ?_ | refine Br.x_blP ?_
  | refine Br.x_nil ?_ | refine Br.x_cons ?_ | refine Br.x_call ?_ | refine Br.x_CB ?_ | refine Br.x_BM ?_ | refine Br.x_tup ?_ | refine Br.x_lst ?_ | refine Br.x_chain ?_ | refine Br.x_par ?_ | refine Br.x_gSub ?_ | refine Br.x_gName ?_ | refine Br.x_fld ?_ | refine Br.x_fldS ?_ | refine Br.x_match ?_ | refine Br.x_else ?_ | refine Br.x_noCase ?_))
local macro_rules | `(tactic| walk_at "xv") => `(tactic| ((with_reducible refine' Br.x_var ?hvar ?_); (case hvar => rfl)))
local macro_rules | `(tactic| walk_at "xd") => `(tactic| (dsimp only [List.set_cons_zero, List.set_cons_succ, List.cons_append, List.nil_append, List.append_nil]))
local macro_rules | `(tactic| walk_at "xi") => `(tactic| ((with_reducible refine Br.x_I ?hside ?_); (case hside => first | exact Br.mul_r (by decide) (by decide) | exact Br.mul_l (by decide) (by decide) | exact Br.mul_l (by omega) (by omega) | exact Br.mul_r (by omega) (by omega) | (show (0 : Int) < _; first | decide | omega) | exact ⟨by decide, by decide⟩ | exact ⟨by omega, by omega⟩ | exact ⟨by decide, by decide, by decide⟩)))
local macro_rules | `(tactic| walk_at "x") => `(tactic| (repeat (first | walk_at "x1" | walk_at "xv" | walk_at "xi" | walk_at "xd")))
local macro_rules | `(tactic| walk_at "start") => `(tactic| (simp only [L2.start, List.map_cons, List.map_nil, List.length_cons, List.length_nil, Nat.reduceAdd, Nat.reduceSub, List.replicate, List.cons_append, List.nil_append, List.append_nil]))
local macro_rules | `(tactic| walk_at "isi") => `(tactic| first
  | refine Br.x_isi (b := true) (.base (.int _)) (by decide +kernel) ?_ | refine Br.x_isi (b := false) (.base (.int _)) (by decide +kernel) ?_
  | refine Br.x_isi (b := true) (.base (.bl _)) (by decide +kernel) ?_ | refine Br.x_isi (b := false) (.base (.bl _)) (by decide +kernel) ?_
  | refine Br.x_isi (b := false) (.base .non) (by decide +kernel) ?_
  | refine Br.x_isi (b := true) (.base (.str _)) (by decide +kernel) ?_ | refine Br.x_isi (b := false) (.base (.str _)) (by decide +kernel) ?_
  | refine Br.x_isi (b := true) (.base (.tup (by assumption))) (by decide +kernel) ?_ | refine Br.x_isi (b := false) (.base (.tup (by assumption))) (by decide +kernel) ?_
  | refine Br.x_isi (b := true) (.base (.lst (by assumption))) (by decide +kernel) ?_ | refine Br.x_isi (b := false) (.base (.lst (by assumption))) (by decide +kernel) ?_)
local macro_rules | `(tactic| walk_at "f") => `(tactic| (refine L2.iteF ?_; walk_at "x"))
local macro_rules | `(tactic| walk_at "t") => `(tactic| (refine L2.iteT ?_; walk_at "x"))
local macro_rules | `(tactic| walk_at "is") => `(tactic| (walk_at "isi"; walk_at "x"))
local macro_rules | `(tactic| walk_at "xb") => `(tactic| (simp only [Br.bindS, List.set_cons_zero, List.set_cons_succ]; walk_at "x"))

section
variable {P : Program} {w : World} {K : PySem.W.Frag} {mg : Str → Option Value} {base : Heap}

/-! ### the draws -/
/-- the draws at d: a list of a list of numbers (at n) and a place -/
def Dr (H : Hp) (d n : Addr) : Prop := ∃ (ns : List Int) (k : Int), H d = some (.lst [.ref n, .int k]) ∧ H n = some (.lst (ns.map V.int)) ∧ Rg 0 1000000 ns ∧ 0 ≤ k ∧ ns.length ≤ 3780
theorem Dr.ne {H : Hp} {d n : Addr} (h : Dr H d n) : H d ≠ none := by
  obtain ⟨_, _, h, _⟩ := h
  rw [h]
  exact fun z => nomatch z
theorem Dr.new {H : Hp} {d n p : Addr} (h : Dr H d n) (hp : H p = none) : p ≠ d := fun e => h.ne (e ▸ hp)
theorem Dr.newN {H : Hp} {d n p : Addr} (h : Dr H d n) (hp : H p = none) : p ≠ n := fun e => by
  obtain ⟨_, _, _, h2, _⟩ := h
  rw [← e, hp] at h2
  cases h2
theorem Dr.dn {H : Hp} {d n : Addr} (h : Dr H d n) : d ≠ n := by
  obtain ⟨ns, k, h1, h2, _⟩ := h
  exact ne_of h1 h2 (by
    intro e
    have e1 : [V.ref n, V.int k] = ns.map V.int := HO.lst.inj e
    cases ns with
    | nil => cases e1
    | cons x r => cases (List.cons.inj e1).1)
/-- changes elsewhere -/
theorem Dr.upd {H : Hp} {d n p : Addr} {o : HO} (h : Dr H d n) (hd : p ≠ d) (hn : p ≠ n) : Dr (upd H p o) d n := by
  obtain ⟨ns, k, h1, h2, h3⟩ := h
  exact ⟨ns, k, by rw [upd_ne hd.symm]; exact h1, by rw [upd_ne hn.symm]; exact h2, h3⟩
theorem Dr.upd0 {H : Hp} {d n p : Addr} {o : HO} (h : Dr H d n) (hp : H p = none) : Dr (L2.upd H p o) d n := h.upd (h.new hp) (h.newN hp)
theorem Dr.same {H H' : Hp} {d n : Addr} (h : Dr H d n) (s : Same H H') : Dr H' d n := by
  obtain ⟨ns, k, h1, h2, h3⟩ := h
  exact ⟨ns, k, s _ _ h1, s _ _ h2, h3⟩
/-- what is fresh behind was fresh ahead -/
theorem Keep.free {H H' : Hp} {d n p : Addr} (s : Keep d H H') (h : Dr H' d n) (hp : H' p = none) : H p = none := by
  cases e : H p with
  | none => rfl
  | some o =>
    by_cases hd : p = d
    · rw [hd] at hp
      exact absurd hp h.ne
    · rw [s p o e hd] at hp
      cases hp
theorem Dr.mk {H : Hp} {d n : Addr} {ns : List Int} (hn : H n = some (.lst (ns.map V.int))) (hr : Rg 0 1000000 ns) (hl : ns.length ≤ 3780) (hd : H d = none) : Dr (L2.upd H d (.lst [.ref n, .int 0])) d n :=
  ⟨ns, 0, upd_same, by rw [upd_ne (ne_of_none hn hd)]; exact hn, hr, Int.le_refl _, hl⟩
/-- what a def that draws gives: a value of which P, the draws moved on -/
abbrev RetD (d n : Addr) (P : V → Prop) (H : Hp) (Q : VK) : Prop := ∀ v H', P v → Dr H' d n → Keep d H H' → Q v H'
abbrev RetG (d n : Addr) (P : V → Hp → Prop) (H : Hp) (Q : VK) : Prop := ∀ v H', P v H' → Dr H' d n → Keep d H H' → Q v H'
abbrev IsI (lo hi : Int) : V → Prop := fun v => ∃ z : Int, v = .int z ∧ lo ≤ z ∧ z < hi

def sp_law_mixed (K : PySem.W.Frag) : Sp := fun vs H Q _ => ∃ i k : Int, vs = [.int i, .int k] ∧ ∀ r : Int, 0 ≤ r → r < 2147483647 → Q (.int r) H
theorem ok_law_mixed (T : Txt K mg) : FnOk P w K mg base CX0 1 T.a_law_mixed T.fd_law_mixed ["number", "k"] (sp_law_mixed K) := by
  refine T.F_law_mixed.ok sc_law_mixed (fun vs H Q E h => ?_) (fun cdv A outer s H vs Q E hr h => ?_)
  · obtain ⟨i, k, rfl, _⟩ := h
    rfl
  · obtain ⟨i, k, rfl, q⟩ := h
    refine ⟨_, (pss_cons (ps_set (i := 2) sc_law_mixed.nd rfl (.inl rfl) (pe_op op_mod (pe_op op_add (pe_op op_add (pe_op op_mul (pv 0) pe_int) (pe_op op_mul (pv 1) pe_int)) pe_int) pe_int))
      (pss_one (ps_ret (pe_op op_mod (pe_op op_add (pe_op op_mul (pv 2) (pe_op op_add (pe_op op_fdiv (pv 2) pe_int) pe_int)) (pv 1)) pe_int)))), ?_⟩
    walk_at "start"
    walk_at "x"
    exact q _ (Int.emod_nonneg _ (by decide)) (Int.emod_lt_of_pos _ (by decide))


def sp_law_numbers (K : PySem.W.Frag) : Sp := fun vs H Q _ => ∃ (a : Addr) (ns : List Int), vs = [.ref a] ∧ SqL K H a (ns.map V.int) ∧ ns.length ≤ 63 ∧
  ∀ (p : Addr) (ms : List Int) (H' : Hp), H p = none → Same H H' → H' p = some (.lst (ms.map V.int)) → Rg 0 1000000 ms → ms.length ≤ 3780 → Q (.ref p) H'
/-- the numbers so far -/
def NumI (H : Hp) (p : Addr) (n : Nat) (H' : Hp) : Prop := ∃ ms : List Int, Same H H' ∧ H' p = some (.lst (ms.map V.int)) ∧ Rg 0 1000000 ms ∧ ms.length ≤ n
theorem NumI.app {H H' : Hp} {p : Addr} {n : Nat} (h : NumI H p n H') (hp : H p = none) (hn : n ≤ 100000) {R : VK} {z : Int} (h1 : 0 ≤ z) (h2 : z < 1000000) (q : ∀ H2, NumI H p (n + 1) H2 → R .non H2) : rAppend (.ref p) [.int z] H' R := by
  obtain ⟨ms, s, e, r, l⟩ := h
  refine x_app e (by rw [List.length_map]; omega) (q _ ⟨ms ++ [z], sput s hp, ?_, r.snoc h1 h2, ?_⟩)
  · rw [upd_same, List.map_append]; rfl
  · rw [List.length_append]; exact Nat.add_le_add_right l 1
theorem NumI.ty {K : PySem.W.Frag} {H H' : Hp} {p : Addr} {n : Nat} (h : NumI H p n H') {R : Prop} (q : R) : tyV K "list" (.ref p) H' ∧ R := by
  obtain ⟨ms, s, e, r, l⟩ := h
  exact x_tyL e q
theorem NumI.mono {H H' : Hp} {p : Addr} {n m : Nat} (h : NumI H p n H') (l : n ≤ m) : NumI H p m H' := by
  obtain ⟨ms, s, e, r, k⟩ := h
  exact ⟨ms, s, e, r, Nat.le_trans k l⟩
theorem ok_law_numbers (T : Txt K mg) : FnOk P w K mg base CX0 2 T.a_law_numbers T.fd_law_numbers ["script"] (sp_law_numbers K) := by
  refine T.F_law_numbers.ok sc_law_numbers (fun vs H Q E h => ?_) (fun cdv A outer s H vs Q E hr h => ?_)
  · obtain ⟨a, ns, rfl, _⟩ := h
    rfl
  · obtain ⟨a, ns, rfl, hS, hl, q⟩ := h
    refine ⟨_, (pss_cons (ps_set (i := 1) sc_law_numbers.nd rfl (.inl rfl) (pe_lst pa_nil))
      (pss_cons (ps_for PassesOwn.never rfl (pi_list (pv 0)) (pg_name (i := 2) sc_law_numbers.nd rfl (Or.inl rfl))
      (pss_one (ps_if (pt_cmpR op_ge (pv 2) (pe_op op_pow pe_int pe_int) (nomark _))
      (pss_cons (ps_set (i := 3) sc_law_numbers.nd rfl (.inl rfl) (pv 2))
      (pss_one (ps_for PassesOwn.never rfl (pi_range1 (by rfl) T.m_range (pa_cons pe_int pa_nil)) (pg_name (i := 4) sc_law_numbers.nd rfl (Or.inl rfl))
      (pss_one (ps_if (pt_cmpR op_gt (pv 3) pe_int (nomark _))
      (pss_cons (ps_expr (pe_bm PySem.F.plainAttrs_list PySem.F.slot_list_append PySem.F.type_list_append mt_append (pv 1) (pa_cons (pe_op op_mod (pv 3) pe_int) pa_nil)))
      (pss_one (ps_set (i := 3) sc_law_numbers.nd rfl (.inl rfl) (pe_op op_fdiv (pv 3) pe_int))))
      pss_nil)))))
      (pss_cons (ps_expr (pe_bm PySem.F.plainAttrs_list PySem.F.slot_list_append PySem.F.type_list_append mt_append (pv 1) (pa_cons (pe_op op_mod (pv 2) pe_int) pa_nil)))
      (pss_one (ps_for PassesOwn.never rfl (pi_range1 (by rfl) T.m_range (pa_cons pe_int pa_nil)) (pg_name (i := 4) sc_law_numbers.nd rfl (Or.inl rfl))
      (pss_one (ps_expr (pe_bm PySem.F.plainAttrs_list PySem.F.slot_list_append PySem.F.type_list_append mt_append (pv 1) (pa_cons (pe_op op_mod (pe_call (ok_law_mixed T) hr (by rfl) T.g_law_mixed T.F_law_mixed.kp T.b_law_mixed .nil pass0 (pa_cons (pe_call (ok_law_mixed T) hr (by rfl) T.g_law_mixed T.F_law_mixed.kp T.b_law_mixed .nil pass0 (pa_cons (pe_op op_mod (pv 2) pe_int) (pa_cons (pv 4) pa_nil))) (pa_cons (pe_op op_add (pv 4) pe_int) pa_nil))) pe_int) pa_nil))))))))))
      (pss_one (ps_ret (pv 1))))), ?_⟩
    walk_at "start"
    walk_at "x"
    refine ⟨Nat.zero_le _, fun p hp => ?_⟩
    walk_at "x"
    refine x_forL (p := a) (ns.map V.int) (fun i σ' H' => ∃ v2 v3 v4, σ' = [some (.ref a), some (.ref p), v2, v3, v4] ∧ NumI H p (60 * i) H') (fun R r => ⟨_, rfl, r⟩) ((same_upd hp).seq hS) ?_ ?_ ?_ ?_
    · exact ⟨none, none, none, rfl, [], same_upd hp, upd_same, .nil, Nat.le_refl _⟩
    · rintro i σ' H' hi ⟨v2, v3, v4, rfl, ms, s, _⟩
      exact s.seq hS
    · rintro i x σ' H' hx ⟨v2, v3, v4, rfl, hN⟩
      obtain ⟨z, hz, rfl⟩ := map_get hx
      have hi : i < 63 := by
        have := (List.getElem?_eq_some_iff.mp hz).1
        omega
      walk_at "x"
      refine x_ite (fun hc => ?_) (fun hc => ?_)
      · walk_at "x"
        refine x_forR1 60 (fun j σ' H' => ∃ r v4, σ' = [some (.ref a), some (.ref p), some (.int z), some (.int r), v4] ∧ NumI H p (60 * i + j) H') (fun R r => r) (by decide) (by decide) ⟨z, v4, rfl, hN⟩ ?_ ?_
        · rintro j σ' H2 hj ⟨r, v4, rfl, hN⟩
          walk_at "x"
          refine x_ite (fun hc => ?_) (fun hc => ?_)
          · walk_at "x"
            refine hN.ty ?_
            walk_at "x"
            refine hN.app hp (by omega) (Int.emod_nonneg _ (by decide)) (Int.emod_lt_of_pos _ (by decide)) fun H3 hN3 => ?_
            walk_at "x"
            exact ⟨_, _, rfl, hN3⟩
          · walk_at "x"
            exact ⟨r, _, rfl, hN.mono (by omega)⟩
        · rintro σ' H2 ⟨r, v4, rfl, hN⟩
          exact ⟨_, _, _, rfl, hN.mono (by show 60 * i + (60 : Int).toNat ≤ 60 * (i + 1); omega)⟩
      · walk_at "x"
        refine hN.ty ?_
        walk_at "x"
        refine hN.app hp (by omega) (Int.emod_nonneg _ (by decide)) (Int.emod_lt_of_pos _ (by decide)) fun H3 hN3 => ?_
        walk_at "x"
        refine x_forR1 5 (fun j σ' H' => ∃ v4, σ' = [some (.ref a), some (.ref p), some (.int z), v3, v4] ∧ NumI H p (60 * i + 1 + j) H') (fun R r => r) (by decide) (by decide) ⟨v4, rfl, hN3⟩ ?_ ?_
        · rintro j σ' H2 hj ⟨v4, rfl, hN⟩
          walk_at "x"
          refine hN.ty ?_
          walk_at "x"
          refine ⟨_, _, rfl, fun r h0 h1 => ?_⟩
          walk_at "x"
          refine ⟨_, _, rfl, fun r h0 h1 => ?_⟩
          walk_at "x"
          refine hN.app hp (by omega) (Int.emod_nonneg _ (by decide)) (Int.emod_lt_of_pos _ (by decide)) fun H3 hN3 => ?_
          walk_at "x"
          exact ⟨_, rfl, hN3⟩
        · rintro σ' H2 ⟨v4, rfl, hN⟩
          exact ⟨_, _, _, rfl, hN.mono (by show 60 * i + 1 + (5 : Int).toNat ≤ 60 * (i + 1); omega)⟩
    · rintro σ' H' ⟨v2, v3, v4, rfl, ms, s, e, r, l⟩
      walk_at "x"
      exact q p ms H' hp s e r (by rw [List.length_map] at l; omega)


def sp_law_draw (K : PySem.W.Frag) : Sp := fun vs H Q _ => ∃ (d n : Addr), vs = [.ref d] ∧ Dr H d n ∧ RetD d n (IsI 0 1000000) H Q
theorem ok_law_draw (T : Txt K mg) : FnOk P w K mg base CX0 2 T.a_law_draw T.fd_law_draw ["draws"] (sp_law_draw K) := by
  refine T.F_law_draw.ok sc_law_draw (fun vs H Q E h => ?_) (fun cdv A outer s H vs Q E hr h => ?_)
  · obtain ⟨d, n, rfl, _⟩ := h
    rfl
  · obtain ⟨d, n, rfl, hD, q⟩ := h
    have hn := hD.dn
    obtain ⟨ns, k, h1, h2, h3, h4, h5⟩ := hD
    have hD : Dr (upd H d (.lst [.ref n, .int (k + 1)])) d n := ⟨ns, k + 1, upd_same, by rw [upd_ne hn.symm]; exact h2, h3, by omega, h5⟩
    refine ⟨_, (pss_cons (ps_set (i := 1) sc_law_draw.nd rfl (.inl rfl) (pe_ix (r := rIxL K) ix_list (pv 0) pe_int (fun _ _ => rfl)))
      (pss_cons (ps_asg (pe_op op_add (pv 1) pe_int) (pg_sub (pv 0) pe_int set_list))
      (pss_cons (ps_if (pt_cmpR op_lt (pv 1) (pe_callB (id := "len") (r := rLen K) cr_len (by rfl) T.m_len PySem.boot_len (pa_cons (pe_ix (r := rIxL K) ix_list (pv 0) pe_int (fun _ _ => rfl)) pa_nil)) (nomark _))
      (pss_one (ps_ret (pe_ix (r := rIxL K) ix_list (pe_ix (r := rIxL K) ix_list (pv 0) pe_int (fun _ _ => rfl)) (pv 1) (fun _ _ => rfl))))
      pss_nil)
      (pss_cons (ps_set (i := 2) sc_law_draw.nd rfl (.inl rfl) (pe_op op_add pe_int (pv 1)))
      (pss_cons (ps_if (pt_cmpR op_gt (pe_callB (id := "len") (r := rLen K) cr_len (by rfl) T.m_len PySem.boot_len (pa_cons (pe_ix (r := rIxL K) ix_list (pv 0) pe_int (fun _ _ => rfl)) pa_nil)) pe_int (nomark _))
      (pss_one (ps_set (i := 2) sc_law_draw.nd rfl (.inl rfl) (pe_op op_add (pv 2) (pe_op op_mul pe_int (pe_ix (r := rIxL K) ix_list (pe_ix (r := rIxL K) ix_list (pv 0) pe_int (fun _ _ => rfl)) pe_int (fun _ _ => rfl))))))
      pss_nil)
      (pss_one (ps_ret (pe_op op_mod (pe_call (ok_law_mixed T) hr (by rfl) T.g_law_mixed T.F_law_mixed.kp T.b_law_mixed .nil pass0 (pa_cons (pe_call (ok_law_mixed T) hr (by rfl) T.g_law_mixed T.F_law_mixed.kp T.b_law_mixed .nil pass0 (pa_cons (pv 2) (pa_cons (pv 1) pa_nil))) (pa_cons pe_int pa_nil))) pe_int)))))))), ?_⟩
    walk_at "start"
    walk_at "x"
    refine x_ixL (sq_of h1) (show _ = some (V.int k) from rfl) ?_
    walk_at "x"
    refine x_subL (k := 1) h1 rfl ?_
    walk_at "x"
    have hd : (upd H d (HO.lst [.ref n, .int (k + 1)])) d = some (.lst [.ref n, .int (k + 1)]) := upd_same
    have hnn : (upd H d (HO.lst [.ref n, .int (k + 1)])) n = some (.lst (ns.map V.int)) := by rw [upd_ne hn.symm]; exact h2
    refine x_ixL (sq_of hd) (show _ = some (V.ref n) from rfl) ?_
    walk_at "x"
    refine x_len (sq_of hnn) ?_
    walk_at "x"
    rw [List.length_map]
    refine x_ite (fun hc => ?_) (fun hc => ?_)
    · walk_at "x"
      refine x_ixL (sq_of hd) (show _ = some (V.ref n) from rfl) ?_
      walk_at "x"
      obtain ⟨j, rfl⟩ : ∃ j : Nat, k = (j : Int) := ⟨k.toNat, by omega⟩
      have hj : j < ns.length := by omega
      refine x_ixL (v := .int ns[j]) (sq_of hnn) (atI_nat (by rw [List.getElem?_map, List.getElem?_eq_getElem hj]; rfl)) ?_
      exact q _ _ ⟨_, rfl, h3 _ (List.getElem_mem hj)⟩ hD keep_upd
    · walk_at "x"
      refine x_ixL (sq_of hd) (show _ = some (V.ref n) from rfl) ?_
      walk_at "x"
      refine x_len (sq_of hnn) ?_
      walk_at "x"
      rw [List.length_map]
      refine x_ite (fun hc => ?_) (fun hc => ?_)
      · walk_at "x"
        refine x_ixL (sq_of hd) (show _ = some (V.ref n) from rfl) ?_
        walk_at "x"
        have hj : 0 < ns.length := by omega
        refine x_ixL (v := .int ns[0]) (sq_of hnn) (atI_nat (j := 0) (by rw [List.getElem?_map, List.getElem?_eq_getElem hj]; rfl)) ?_
        walk_at "x"
        refine ⟨_, _, rfl, fun r h0 h1 => ?_⟩
        walk_at "x"
        refine ⟨_, _, rfl, fun r h0 h1 => ?_⟩
        walk_at "x"
        exact q _ _ ⟨_, rfl, Int.emod_nonneg _ (by decide), Int.emod_lt_of_pos _ (by decide)⟩ hD keep_upd
      · walk_at "x"
        refine ⟨_, _, rfl, fun r h0 h1 => ?_⟩
        walk_at "x"
        refine ⟨_, _, rfl, fun r h0 h1 => ?_⟩
        walk_at "x"
        exact q _ _ ⟨_, rfl, Int.emod_nonneg _ (by decide), Int.emod_lt_of_pos _ (by decide)⟩ hD keep_upd


def sp_law_large (K : PySem.W.Frag) : Sp := fun vs H Q _ => ∃ (d n : Addr) (b : Int), vs = [.ref d, .int b] ∧ 0 < b ∧ Dr H d n ∧ RetD d n (IsI 0 b) H Q
theorem ok_law_large (T : Txt K mg) : FnOk P w K mg base CX0 3 T.a_law_large T.fd_law_large ["draws", "bound"] (sp_law_large K) := by
  refine T.F_law_large.ok sc_law_large (fun vs H Q E h => ?_) (fun cdv A outer s H vs Q E hr h => ?_)
  · obtain ⟨d, n, b, rfl, _⟩ := h
    rfl
  · obtain ⟨d, n, b, rfl, hb, hD, q⟩ := h
    refine ⟨_, (pss_cons (ps_set (i := 2) sc_law_large.nd rfl (.inl rfl) (pe_op op_add (pe_call (ok_law_draw T) hr (by rfl) T.g_law_draw T.F_law_draw.kp T.b_law_draw .nil pass0 (pa_cons (pv 0) pa_nil)) (pe_op op_mul (pe_op op_pow pe_int pe_int) (pe_op op_mod (pe_call (ok_law_draw T) hr (by rfl) T.g_law_draw T.F_law_draw.kp T.b_law_draw .nil pass0 (pa_cons (pv 0) pa_nil)) pe_int))))
      (pss_one (ps_ret (pe_op op_mod (pv 2) (pv 1))))), ?_⟩
    walk_at "start"
    walk_at "x"
    refine ⟨d, n, rfl, hD, ?_⟩
    rintro _ H1 ⟨z, rfl, hz0, hz1⟩ hD1 hk1
    walk_at "x"
    refine ⟨d, n, rfl, hD1, ?_⟩
    rintro _ H2 ⟨y, rfl, hy0, hy1⟩ hD2 hk2
    walk_at "x"
    exact q _ _ ⟨_, rfl, Int.emod_nonneg _ (by omega), Int.emod_lt_of_pos _ hb⟩ hD2 (hk1.trans hk2)


def sp_law_modulus (K : PySem.W.Frag) : Sp := fun vs H Q _ => ∃ (d n : Addr), vs = [.ref d] ∧ Dr H d n ∧ RetD d n (IsI 2 1000000001) H Q
theorem ok_law_modulus (T : Txt K mg) : FnOk P w K mg base CX0 4 T.a_law_modulus T.fd_law_modulus ["draws"] (sp_law_modulus K) := by
  refine T.F_law_modulus.ok sc_law_modulus (fun vs H Q E h => ?_) (fun cdv A outer s H vs Q E hr h => ?_)
  · obtain ⟨d, n, rfl, _⟩ := h
    rfl
  · obtain ⟨d, n, rfl, hD, q⟩ := h
    refine ⟨_, (pss_cons (ps_set (i := 1) sc_law_modulus.nd rfl (.inl rfl) (pe_op op_mod (pe_call (ok_law_draw T) (hr.mono (by decide)) (by rfl) T.g_law_draw T.F_law_draw.kp T.b_law_draw .nil pass0 (pa_cons (pv 0) pa_nil)) pe_int))
      (pss_cons (ps_if (pt_cmpR op_lt (pv 1) pe_int (nomark _))
      (pss_one (ps_ret (pe_ix (r := rIxL K) ix_list (pe_lst (pa_cons pe_int (pa_cons pe_int (pa_cons (pe_op op_pow pe_int pe_int) (pa_cons pe_int pa_nil))))) (pv 1) (fun _ _ => rfl))))
      pss_nil)
      (pss_cons (ps_if (pt_cmpR op_lt (pv 1) pe_int (nomark _))
      (pss_one (ps_ret (pe_op op_add pe_int (pe_op op_mod (pe_call (ok_law_draw T) (hr.mono (by decide)) (by rfl) T.g_law_draw T.F_law_draw.kp T.b_law_draw .nil pass0 (pa_cons (pv 0) pa_nil)) pe_int))))
      pss_nil)
      (pss_one (ps_ret (pe_op op_add pe_int (pe_call (ok_law_large T) hr (by rfl) T.g_law_large T.F_law_large.kp T.b_law_large .nil pass0 (pa_cons (pv 0) (pa_cons (pe_op op_sub (pe_op op_pow pe_int pe_int) pe_int) pa_nil))))))))), ?_⟩
    walk_at "start"
    walk_at "x"
    refine ⟨d, n, rfl, hD, ?_⟩
    rintro _ H1 ⟨z, rfl, hz0, hz1⟩ hD1 hk1
    walk_at "x"
    have z0 : 0 ≤ z % 8 := Int.emod_nonneg _ (by decide)
    refine x_ite (fun hc => ?_) (fun hc => ?_)
    · walk_at "x"
      refine ⟨by show 4 ≤ sizeLine; decide, fun p hp => ?_⟩
      walk_at "x"
      obtain ⟨v, hv, hm⟩ := at_lt (xs := [.int 2, .int 3, .int (10 ^ (9 : Int).toNat), .int 999999937]) z0 (show _ < (4 : Int) from hc)
      refine x_ixL (sq_of upd_same) hv ?_
      walk_at "x"
      have hm' : v = .int 2 ∨ v = .int 3 ∨ v = .int 1000000000 ∨ v = .int 999999937 := by simpa using hm
      refine q _ _ ?_ (hD1.upd0 hp) (hk1.trans (Same.keep (same_upd hp)))
      rcases hm' with rfl | rfl | rfl | rfl <;> exact ⟨_, rfl, by decide, by decide⟩
    · walk_at "x"
      refine x_ite (fun hc => ?_) (fun hc => ?_)
      · walk_at "x"
        refine ⟨d, n, rfl, hD1, ?_⟩
        rintro _ H2 ⟨y, rfl, hy0, hy1⟩ hD2 hk2
        walk_at "x"
        have y0 : 0 ≤ y % 60 := Int.emod_nonneg _ (by decide)
        have y1 : y % 60 < 60 := Int.emod_lt_of_pos _ (by decide)
        exact q _ _ ⟨_, rfl, by omega, by omega⟩ hD2 (hk1.trans hk2)
      · walk_at "x"
        refine ⟨d, n, _, rfl, by decide, hD1, ?_⟩
        rintro _ H2 ⟨y, rfl, hy0, hy1⟩ hD2 hk2
        walk_at "x"
        have e : (10 ^ (9 : Int).toNat - 1 : Int) = 999999999 := by decide
        rw [e] at hy1
        exact q _ _ ⟨_, rfl, by omega, by omega⟩ hD2 (hk1.trans hk2)


def sp_law_number (K : PySem.W.Frag) : Sp := fun vs H Q _ => ∃ (d n : Addr) (m : Int), vs = [.ref d, .int m] ∧ 2 ≤ m ∧ Dr H d n ∧ RetD d n (IsI 0 m) H Q
theorem ok_law_number (T : Txt K mg) : FnOk P w K mg base CX0 4 T.a_law_number T.fd_law_number ["draws", "modulus"] (sp_law_number K) := by
  refine T.F_law_number.ok sc_law_number (fun vs H Q E h => ?_) (fun cdv A outer s H vs Q E hr h => ?_)
  · obtain ⟨d, n, m, rfl, _⟩ := h
    rfl
  · obtain ⟨d, n, m, rfl, hm, hD, q⟩ := h
    refine ⟨_, (pss_cons (ps_set (i := 2) sc_law_number.nd rfl (.inl rfl) (pe_op op_mod (pe_call (ok_law_draw T) (hr.mono (by decide)) (by rfl) T.g_law_draw T.F_law_draw.kp T.b_law_draw .nil pass0 (pa_cons (pv 0) pa_nil)) pe_int))
      (pss_cons (ps_if (pt_cmpR op_lt (pv 2) pe_int (nomark _))
      (pss_one (ps_ret (pe_ix (r := rIxL K) ix_list (pe_lst (pa_cons pe_int (pa_cons pe_int (pa_cons (pe_op op_sub (pv 1) pe_int) pa_nil)))) (pv 2) (fun _ _ => rfl))))
      pss_nil)
      (pss_one (ps_ret (pe_call (ok_law_large T) hr (by rfl) T.g_law_large T.F_law_large.kp T.b_law_large .nil pass0 (pa_cons (pv 0) (pa_cons (pv 1) pa_nil))))))), ?_⟩
    walk_at "start"
    walk_at "x"
    refine ⟨d, n, rfl, hD, ?_⟩
    rintro _ H1 ⟨z, rfl, hz0, hz1⟩ hD1 hk1
    walk_at "x"
    have z0 : 0 ≤ z % 6 := Int.emod_nonneg _ (by decide)
    refine x_ite (fun hc => ?_) (fun hc => ?_)
    · walk_at "x"
      refine ⟨by show 3 ≤ sizeLine; decide, fun p hp => ?_⟩
      walk_at "x"
      obtain ⟨v, hv, hm⟩ := at_lt (xs := [.int 0, .int 1, .int (m - 1)]) z0 (show _ < (3 : Int) from hc)
      refine x_ixL (sq_of upd_same) hv ?_
      walk_at "x"
      have hm' : v = .int 0 ∨ v = .int 1 ∨ v = .int (m - 1) := by simpa using hm
      refine q _ _ ?_ (hD1.upd0 hp) (hk1.trans (Same.keep (same_upd hp)))
      rcases hm' with rfl | rfl | rfl <;> exact ⟨_, rfl, by omega, by omega⟩
    · walk_at "x"
      refine ⟨d, n, _, rfl, by omega, hD1, ?_⟩
      rintro _ H2 ⟨y, rfl, hy0, hy1⟩ hD2 hk2
      walk_at "x"
      exact q _ _ ⟨_, rfl, hy0, hy1⟩ hD2 (hk1.trans hk2)


def sp_law_gcd (K : PySem.W.Frag) : Sp := fun vs H Q _ => ∃ a b : Int, vs = [.int a, .int b] ∧ 0 ≤ a ∧ a < 2 ^ 31 ∧ 0 ≤ b ∧ b < 2 ^ 31 ∧ Q (.int (Int.gcd a b : Nat)) H
theorem ok_law_gcd (T : Txt K mg) : FnOk P w K mg base CX0 1 T.a_law_gcd T.fd_law_gcd ["one", "two"] (sp_law_gcd K) := by
  refine T.F_law_gcd.ok sc_law_gcd (fun vs H Q E h => ?_) (fun cdv A outer s H vs Q E hr h => ?_)
  · obtain ⟨a, b, rfl, _⟩ := h
    rfl
  · obtain ⟨a, b, rfl, ha0, ha1, hb0, hb1, q⟩ := h
    refine ⟨_, (pss_cons (ps_for PassesOwn.never rfl (pi_range1 (by rfl) T.m_range (pa_cons pe_int pa_nil)) (pg_name (i := 2) sc_law_gcd.nd rfl (Or.inl rfl))
      (pss_cons (ps_if (pt_cmpR op_eq (pv 1) pe_int (nomark _))
      (pss_one (ps_ret (pv 0)))
      pss_nil)
      (pss_cons (ps_set (i := 3) sc_law_gcd.nd rfl (.inl rfl) (pe_op op_mod (pe_callTy (T := "int") (r := rInt1) cr_int1 (by rfl) T.m_int (by decide +kernel) (pa_cons (pv 0) pa_nil)) (pv 1)))
      (pss_cons (ps_set (i := 0) sc_law_gcd.nd rfl (.inl rfl) (pv 1))
      (pss_one (ps_set (i := 1) sc_law_gcd.nd rfl (.inl rfl) (pv 3)))))))
      (pss_one (ps_ret (pv 0)))), ?_⟩
    walk_at "start"
    walk_at "x"
    refine x_forR1 200 (fun i σ' H' => i ≤ 100 ∧ H' = H ∧ ∃ x y v2 v3, σ' = [some (.int x), some (.int y), v2, v3] ∧ 0 ≤ x ∧ 0 ≤ y ∧ Int.gcd x y = Int.gcd a b ∧ ((i = 0 ∧ x < 2 ^ 31 ∧ y < 2 ^ 31) ∨ (y < x ∧ x * y * 2 ^ i ≤ 2 ^ 70))) (fun R r => r) (by decide) (by decide) ⟨by decide, rfl, a, b, _, _, rfl, ha0, hb0, rfl, .inl ⟨rfl, ha1, hb1⟩⟩ ?_ ?_
    · rintro i σ' H' hi ⟨hi2, rfl, x, y, v2, v3, rfl, hx, hy, hg, hI⟩
      walk_at "x"
      refine x_ite (fun hc => ?_) (fun hc => ?_)
      · walk_at "x"
        rw [hc, Int.gcd_zero_right] at hg
        have e : x = ((Int.gcd a b : Nat) : Int) := by omega
        rw [e]
        exact q
      · have hy1 : 0 < y := by omega
        walk_at "x"
        have r0 := Int.emod_nonneg x (show y ≠ 0 by omega)
        have r1 := Int.emod_lt_of_pos x hy1
        refine ⟨?_, rfl, _, _, _, _, rfl, hy, r0, by rw [gcd_step]; exact hg, .inr ⟨r1, ?_⟩⟩
        · rcases hI with ⟨e, _⟩ | ⟨h1, h2⟩
          · omega
          · by_cases hh : i < 70
            · omega
            · have h3 : (2 : Int) ^ 70 ≤ 2 ^ i := by
                have := Nat.pow_le_pow_right (show 0 < 2 by decide) (show 70 ≤ i by omega)
                exact_mod_cast this
              have h4 : 2 * 1 ≤ x * y := Int.mul_le_mul (by omega) (by omega) (by decide) (by omega)
              have h5 : x * y * 2 ^ 70 ≤ x * y * 2 ^ i := Int.mul_le_mul_of_nonneg_left h3 (by omega)
              omega
        · rcases hI with ⟨e, h1, h2⟩ | ⟨h1, h2⟩
          · subst e
            have h4 : y * (x % y) ≤ 2 ^ 31 * 2 ^ 31 := Int.mul_le_mul (by omega) (by omega) (by omega) (by decide)
            omega
          · have h3 := half_step hy1 h1
            have h4 : y * (x % y) * 2 * 2 ^ i ≤ x * y * 2 ^ i := Int.mul_le_mul_of_nonneg_right h3 (Int.pow_nonneg (by decide))
            have e : y * (x % y) * 2 ^ (i + 1) = y * (x % y) * 2 * 2 ^ i := by
              rw [Int.pow_succ, Int.mul_assoc (y * (x % y)) 2, Int.mul_comm 2 (2 ^ i)]
            omega
    · rintro σ' H' ⟨hi, _⟩
      exact absurd hi (by decide)



/-- what inverse_of gives -/
def InvV (n m : Int) (v : V) : Prop := (Int.gcd n m ≠ 1 → v = .non) ∧ (Int.gcd n m = 1 → ∃ x : Int, v = .int x ∧ 0 ≤ x ∧ x < m ∧ x * n % m = 1)
def sp_inverse_of (K : PySem.W.Frag) : Sp := fun vs H Q _ => ∃ n m : Int, vs = [.int n, .int m] ∧ 2 ≤ m ∧ m ≤ 1000000000 ∧ ∀ v H', InvV n m v → Same H H' → Q v H'
theorem ok_inverse_of (T : Txt K mg) : FnOk P w K mg base CX0 1 T.a_inverse_of T.fd_inverse_of ["n", "modulus"] (sp_inverse_of K) := by
  refine T.F_inverse_of.ok sc_inverse_of (fun vs H Q E h => ?_) (fun cdv A outer s H vs Q E hr h => ?_)
  · obtain ⟨n, m, rfl, _⟩ := h
    rfl
  · obtain ⟨n, m, rfl, hm2, hm9, q⟩ := h
    refine ⟨_, (pss_cons (ps_par (i := 2) (j := 3) rfl sc_inverse_of.nd rfl rfl (by decide) rfl rfl (pa_cons (pv 1) (pa_cons (pe_op op_mod (pv 0) (pv 1)) pa_nil)) (by rfl))
      (pss_cons (ps_asg (pe_tup (pa_cons pe_int (pa_cons pe_int pa_nil))) (pg_tup rfl (pgs_cons (pg_name (i := 4) sc_inverse_of.nd rfl (Or.inl rfl)) (pgs_cons (pg_name (i := 5) sc_inverse_of.nd rfl (Or.inl rfl)) pgs_nil))))
      (pss_cons (ps_while PassesOwn.never (pt_cmpR op_ne (pv 3) pe_int (nomark _))
      (pss_cons (ps_set (i := 6) sc_inverse_of.nd rfl (.inl rfl) (pe_op op_fdiv (pv 2) (pv 3)))
      (pss_cons (ps_par (i := 2) (j := 3) rfl sc_inverse_of.nd rfl rfl (by decide) rfl rfl (pa_cons (pv 3) (pa_cons (pe_op op_sub (pv 2) (pe_op op_mul (pv 6) (pv 3))) pa_nil)) (by rfl))
      (pss_one (ps_par (i := 4) (j := 5) rfl sc_inverse_of.nd rfl rfl (by decide) rfl rfl (pa_cons (pv 5) (pa_cons (pe_op op_sub (pv 4) (pe_op op_mul (pv 6) (pv 5))) pa_nil)) (by rfl))))))
      (pss_one (ps_ret (pe_ifExp (pt_cmpR op_eq (pv 2) pe_int (nomark _)) (pe_op op_mod (pv 4) (pv 1)) pe_non)))))), ?_⟩
    walk_at "start"
    walk_at "x"
    have r0 := Int.emod_nonneg n (show m ≠ 0 by omega)
    have r1 := Int.emod_lt_of_pos n (show 0 < m by omega)
    refine ⟨by show 2 ≤ sizeLine; decide, fun p hp => x_gTup2 (st_of upd_same) ?_⟩
    walk_at "x"
    refine x_while (fun k σ' H' => Same H H' ∧ ∃ l r lf rf v6, σ' = [some (.int n), some (.int m), some (.int l), some (.int r), some (.int lf), some (.int rf), v6] ∧ k = r.toNat ∧ 0 ≤ r ∧ r < l ∧ l ≤ 1000000000 ∧ Int.gcd l r = Int.gcd n m ∧ (m ∣ lf * n - l) ∧ (m ∣ rf * n - r)) (n % m).toNat ?_ ?_
    · refine ⟨same_upd hp, _, _, _, _, _, rfl, rfl, r0, r1, hm9, ?_, ?_, ?_⟩
      · rw [gcd_step]
      · exact ⟨-1, by omega⟩
      · refine ⟨n / m, ?_⟩
        have := Int.mul_ediv_add_emod n m
        omega
    · rintro k σ' H' ⟨hs, l, r, lf, rf, v6, rfl, rfl, hr0, hrl, hl, hg, hd1, hd2⟩
      refine ⟨!decide (r = 0), fun R z => by walk_at "x"; exact z, fun hb => ?_, fun hb => ?_⟩
      · have hr : r ≠ 0 := by simpa using hb
        have hd0 : 0 ≤ l / r := Int.ediv_nonneg (by omega) hr0
        have hd3 : l / r ≤ l := Int.ediv_le_self _ (by omega)
        have e : l - l / r * r = l % r := by rw [Int.emod_def, Int.mul_comm r]
        have s0 := Int.emod_nonneg l hr
        have s1 := Int.emod_lt_of_pos l (show 0 < r by omega)
        walk_at "x"
        refine ⟨(l % r).toNat, by omega, hs, r, l - l / r * r, rf, lf - l / r * rf, _, rfl, by rw [e], by omega, by omega, by omega, by rw [e, gcd_step]; exact hg, hd2, ?_⟩
        obtain ⟨u, hu⟩ := hd1
        obtain ⟨w', hw⟩ := hd2
        refine ⟨u - l / r * w', ?_⟩
        have e2 : (lf - l / r * rf) * n = lf * n - l / r * (rf * n) := by rw [Int.sub_mul, Int.mul_assoc]
        have e3 : rf * n = r + m * w' := by omega
        rw [e2, e3, Int.mul_add, Int.mul_sub]
        have e4 : l / r * (m * w') = m * (l / r * w') := by
          rw [← Int.mul_assoc, ← Int.mul_assoc, Int.mul_comm (l / r) m]
        omega
      · have hr : r = 0 := by simpa using hb
        subst hr
        rw [Int.gcd_zero_right] at hg
        walk_at "x"
        have hl0 : ((Int.gcd n m : Nat) : Int) = l := by omega
        refine x_ite (fun hc => ?_) (fun hc => ?_)
        · walk_at "x"
          refine q _ _ ⟨fun h => absurd (show Int.gcd n m = 1 by omega) h, fun _ => ⟨_, rfl, Int.emod_nonneg _ (by omega), Int.emod_lt_of_pos _ (by omega), ?_⟩⟩ hs
          rw [Int.mul_emod, Int.emod_emod, ← Int.mul_emod]
          obtain ⟨u, hu⟩ := hd1
          have e : lf * n = 1 + m * u := by omega
          rw [e, Int.add_mul_emod_self_left]
          exact Int.emod_eq_of_lt (by decide) (by omega)
        · walk_at "x"
          exact q _ _ ⟨fun _ => rfl, fun h => absurd (show l = 1 by omega) hc⟩ hs


end
end Br
namespace Br
open PySem PySem.Spec PyProof.Rows L2
local macro_rules | `(tactic| walk_at "x1") => `(tactic| (with_reducible first
  | refine Br.x_seq ?_ | refine Br.x_set ?_ | refine Br.x_asg ?_ | refine Br.x_next ?_ | refine Br.x_ret ?_ | refine Br.x_retN ?_ | refine Br.x_drop ?_ | refine Br.x_if ?_ | refine Br.x_brk ?_ | refine Br.x_cont ?_
  | refine Br.x_c ?_ | refine Br.x_op ?_ | refine Br.x_un ?_ | refine Br.x_I0 ?_ | refine Br.x_U ?_ | refine Br.x_EqI ?_ | refine Br.x_NeI ?_ | refine Br.x_EqB ?_ | refine Br.x_iN ?_ | refine Br.x_int1 ?_ | refine Br.x_min2 ?_ | refine Br.x_max2 ?_ | refine Br.x_nN ?_ | refine Br.x_ifE ?_
  | refine Br.x_test (b := ()) ?_ | refine Br.x_tB ?_ | refine Br.x_bl ?_ | refine Br.x_and ?_ | refine Br.x_or ?_ | refine Br.x_not ?_ | refine Br.x_andV ?_ | refine Br.x_orV ?_ | refine Br.x_notV ?_ | refine Br.x_blP ?_
  | refine Br.x_nil ?_ | refine Br.x_cons ?_ | refine Br.x_call ?_ | refine Br.x_CB ?_ | refine Br.x_BM ?_ | refine Br.x_tup ?_ | refine Br.x_lst ?_ | refine Br.x_chain ?_ | refine Br.x_par ?_ | refine Br.x_gSub ?_ | refine Br.x_gName ?_ | refine Br.x_fld ?_ | refine Br.x_fldS ?_ | refine Br.x_match ?_ | refine Br.x_else ?_ | refine Br.x_noCase ?_))
local macro_rules | `(tactic| walk_at "xv") => `(tactic| ((with_reducible refine' Br.x_var ?hvar ?_); (case hvar => rfl)))
local macro_rules | `(tactic| walk_at "xd") => `(tactic| (dsimp only [List.set_cons_zero, List.set_cons_succ, List.cons_append, List.nil_append, List.append_nil]))
local macro_rules | `(tactic| walk_at "xi") => `(tactic| ((with_reducible refine Br.x_I ?hside ?_); (case hside => first | exact Br.mul_r (by decide) (by decide) | exact Br.mul_l (by decide) (by decide) | exact Br.mul_l (by omega) (by omega) | exact Br.mul_r (by omega) (by omega) | (show (0 : Int) < _; first | decide | omega) | exact ⟨by decide, by decide⟩ | exact ⟨by omega, by omega⟩ | exact ⟨by decide, by decide, by decide⟩)))
local macro_rules | `(tactic| walk_at "x") => `(tactic| (repeat (first | walk_at "x1" | walk_at "xv" | walk_at "xi" | walk_at "xd")))
local macro_rules | `(tactic| walk_at "start") => `(tactic| (simp only [L2.start, List.map_cons, List.map_nil, List.length_cons, List.length_nil, Nat.reduceAdd, Nat.reduceSub, List.replicate, List.cons_append, List.nil_append, List.append_nil]))
local macro_rules | `(tactic| walk_at "isi") => `(tactic| first
  | refine Br.x_isi (b := true) (.base (.int _)) (by decide +kernel) ?_ | refine Br.x_isi (b := false) (.base (.int _)) (by decide +kernel) ?_
  | refine Br.x_isi (b := true) (.base (.bl _)) (by decide +kernel) ?_ | refine Br.x_isi (b := false) (.base (.bl _)) (by decide +kernel) ?_
  | refine Br.x_isi (b := false) (.base .non) (by decide +kernel) ?_
  | refine Br.x_isi (b := true) (.base (.str _)) (by decide +kernel) ?_ | refine Br.x_isi (b := false) (.base (.str _)) (by decide +kernel) ?_
  | refine Br.x_isi (b := true) (.base (.tup (by assumption))) (by decide +kernel) ?_ | refine Br.x_isi (b := false) (.base (.tup (by assumption))) (by decide +kernel) ?_
  | refine Br.x_isi (b := true) (.base (.lst (by assumption))) (by decide +kernel) ?_ | refine Br.x_isi (b := false) (.base (.lst (by assumption))) (by decide +kernel) ?_)
local macro_rules | `(tactic| walk_at "f") => `(tactic| (refine L2.iteF ?_; walk_at "x"))
local macro_rules | `(tactic| walk_at "t") => `(tactic| (refine L2.iteT ?_; walk_at "x"))
local macro_rules | `(tactic| walk_at "is") => `(tactic| (walk_at "isi"; walk_at "x"))
local macro_rules | `(tactic| walk_at "xb") => `(tactic| (simp only [Br.bindS, List.set_cons_zero, List.set_cons_succ]; walk_at "x"))

section
variable {P : Program} {w : World} {K : PySem.W.Frag} {mg : Str → Option Value} {base : Heap}

open Br.F

/-- the bottoms of the shares -/
def sp_products_of_differences (K : PySem.W.Frag) : Sp := fun vs H Q _ => ∃ n p : Nat, vs = [.int (n : Int), .int (p : Int)] ∧ 1 ≤ n ∧ n ≤ 1000 ∧ 2 ≤ p ∧ p ≤ 1000000000 ∧
  ∀ (a : Addr) (bs : List Int) (H' : Hp), H a = none → Same H H' → H' a = some (.lst (bs.map V.int)) → bs.length = n → (∀ (i : Nat) b, bs[i]? = some b → (p : Int) ∣ b - Ab (i : Int) i n) → Q (.ref a) H'
theorem fct_one : fct 1 = 1 := rfl
theorem getLast_at {fs : List Int} {j : Nat} (h : fs.length = j + 1) : ∃ z, fs[j]? = some z ∧ fs = fs.dropLast ++ [z] := by
  have hne : fs ≠ [] := fun e => by rw [e] at h; cases h
  refine ⟨fs.getLast hne, ?_, (List.dropLast_concat_getLast hne).symm⟩
  rw [List.getLast_eq_getElem, List.getElem?_eq_getElem (by omega)]
  congr 1
  have e : fs.length - 1 = j := by omega
  simp only [e]
theorem ok_products_of_differences (T : Txt K mg) : FnOk P w K mg base CX0 1 T.a_products_of_differences T.fd_products_of_differences ["size", "prime"] (sp_products_of_differences K) := by
  refine T.F_products_of_differences.ok sc_products_of_differences (fun vs H Q E h => ?_) (fun cdv A outer s H vs Q E hr h => ?_)
  · obtain ⟨n, p, rfl, _⟩ := h
    rfl
  · obtain ⟨n, p, rfl, hn1, hn2, hp1, hp2, q⟩ := h
    refine ⟨_, (pss_cons (ps_set (i := 2) sc_products_of_differences.nd rfl (.inl rfl) (pe_lst (pa_cons pe_int pa_nil)))
      (pss_cons (ps_for PassesOwn.never rfl (pi_range2 (by rfl) T.m_range (pa_cons pe_int (pa_cons (pv 0) pa_nil))) (pg_name (i := 3) sc_products_of_differences.nd rfl (Or.inl rfl))
      (pss_one (ps_expr (pe_bm PySem.F.plainAttrs_list PySem.F.slot_list_append PySem.F.type_list_append mt_append (pv 2) (pa_cons (pe_op op_mod (pe_op op_mul (pe_ix (r := rIxL K) ix_list (pv 2) (pe_un un_neg pe_int) (fun _ _ => rfl)) (pv 3)) (pv 1)) pa_nil)))))
      (pss_cons (ps_set (i := 4) sc_products_of_differences.nd rfl (.inl rfl) (pe_lst pa_nil))
      (pss_cons (ps_for PassesOwn.never rfl (pi_range1 (by rfl) T.m_range (pa_cons (pv 0) pa_nil)) (pg_name (i := 5) sc_products_of_differences.nd rfl (Or.inl rfl))
      (pss_cons (ps_set (i := 6) sc_products_of_differences.nd rfl (.inl rfl) (pe_op op_sub (pe_op op_sub (pv 0) pe_int) (pv 5)))
      (Evl.pss_cut (ps_set (i := 7) sc_products_of_differences.nd rfl (.inl rfl) (pe_ifExp (pt_cmpR op_eq (pe_op op_mod (pv 6) pe_int) pe_int (nomark _)) pe_int (pe_un un_neg pe_int)))
      (pss_one (ps_expr (pe_bm PySem.F.plainAttrs_list PySem.F.slot_list_append PySem.F.type_list_append mt_append (pv 4) (pa_cons (pe_op op_mul (pe_op op_mul (pv 7) (pe_ix (r := rIxL K) ix_list (pv 2) (pv 5) (fun _ _ => rfl))) (pe_ix (r := rIxL K) ix_list (pv 2) (pv 6) (fun _ _ => rfl))) pa_nil)))))))
      (pss_one (ps_ret (pv 4))))))), ?_⟩
    walk_at "start"
    walk_at "x"
    refine ⟨by show 1 ≤ sizeLine; decide, fun a ha => ?_⟩
    walk_at "x"
    -- the factorials
    refine x_forR2 1 (n : Int) (fun i σ' H' => ∃ v3, σ' = [some (.int (n : Int)), some (.int (p : Int)), some (.ref a), v3, none, none, none, none] ∧ Same H H' ∧ ∃ fs : List Int, H' a = some (.lst (fs.map V.int)) ∧ fs.length = i + 1 ∧ ∀ (j : Nat) z, fs[j]? = some z → 0 ≤ z ∧ z < p ∧ (p : Int) ∣ z - fct j)
      (fun R r => r) (fun R r => ⟨_, rfl, r⟩) (by decide) (by decide) (by omega) (by omega) ?_ ?_ ?_
    · refine ⟨none, rfl, same_upd ha, [1], upd_same, rfl, fun j z hz => ?_⟩
      match j, hz with
      | 0, hz =>
        have e : z = 1 := (Option.some.inj hz).symm
        rw [e]
        exact ⟨by decide, by omega, 0, rfl⟩
      | j + 1, hz => simp at hz
    · rintro i σ' H' hi ⟨v3, rfl, hs, fs, hf, hl, hz⟩
      obtain ⟨z, gz, ez⟩ := getLast_at hl
      obtain ⟨z0, z1, zd⟩ := hz i z gz
      walk_at "x"
      refine x_tyL hf ?_
      walk_at "x"
      refine x_ixL (v := .int z) (sq_of hf) (by rw [ez, List.map_append]; exact atI_last _ _) ?_
      walk_at "x"
      refine x_app hf (by rw [List.length_map]; omega) ?_
      walk_at "x"
      refine ⟨_, rfl, sput hs ha, fs ++ [z * (1 + (i : Int)) % (p : Int)], by rw [upd_same, List.map_append]; rfl, by rw [List.length_append, hl]; rfl, fun j y hy => ?_⟩
      by_cases hj : j < fs.length
      · rw [List.getElem?_append_left hj] at hy
        exact hz j y hy
      · rw [List.getElem?_append_right (by omega)] at hy
        have ej : j = i + 1 := by
          have := (List.getElem?_eq_some_iff.mp hy).1
          simp at this
          omega
        subst ej
        rw [hl, Nat.sub_self] at hy
        have e : y = z * (1 + (i : Int)) % (p : Int) := (Option.some.inj hy).symm
        rw [e]
        refine ⟨Int.emod_nonneg _ (by omega), Int.emod_lt_of_pos _ (by omega), ?_⟩
        obtain ⟨u, hu⟩ := zd
        have h4 := Int.mul_ediv_add_emod (z * (1 + (i : Int))) p
        refine ⟨u * ((i : Int) + 1) - z * (1 + (i : Int)) / (p : Int), ?_⟩
        show _ - fct i * ((i : Int) + 1) = _
        have ez : z = fct i + p * u := by omega
        grind
    rintro σ' H1 ⟨v3, rfl, hs, fs, hf, hl, hz⟩
    have hl : fs.length = n := by omega
    walk_at "x"
    refine ⟨Nat.zero_le _, fun b hb => ?_⟩
    have hba : a ≠ b := ne_of_none hf hb
    walk_at "x"
    refine x_forR1 (n : Int) (fun i σ' H' => ∃ v5 v6 v7, σ' = [some (.int (n : Int)), some (.int (p : Int)), some (.ref a), v3, some (.ref b), v5, v6, v7] ∧ Same H1 H' ∧ ∃ bs : List Int, H' b = some (.lst (bs.map V.int)) ∧ bs.length = i ∧ ∀ (j : Nat) z, bs[j]? = some z → (p : Int) ∣ z - Ab (j : Int) j n)
      (fun R r => ⟨_, rfl, r⟩) (by omega) (by omega) ⟨none, none, none, rfl, same_upd hb, [], upd_same, rfl, fun j z h => by simp at h⟩ ?_ ?_
    · rintro i σ' H' hi ⟨v5, v6, v7, rfl, hs', bs, hB, hbl, hbz⟩
      have hi : i < n := by omega
      have hf' : H' a = some (.lst (fs.map V.int)) := hs' _ _ hf
      obtain ⟨x, gx⟩ : ∃ x, fs[i]? = some x := ⟨_, List.getElem?_eq_getElem (by omega)⟩
      obtain ⟨y, gy⟩ : ∃ y, fs[n - 1 - i]? = some y := ⟨_, List.getElem?_eq_getElem (by omega)⟩
      obtain ⟨x0, x1, xd⟩ := hz i x gx
      obtain ⟨y0, y1, yd⟩ := hz _ y gy
      have key : (p : Int) ∣ sg (n - 1 - i) * x * y - Ab (i : Int) i n := by
        have e : n = i + 1 + (n - 1 - i) := by omega
        have e2 : Ab (i : Int) i n = fct i * (sg (n - 1 - i) * fct (n - 1 - i)) := by
          have := Ab_hi (at_ := i) (n - 1 - i)
          rw [← e] at this
          exact this
        rw [e2]
        obtain ⟨u, hu⟩ := xd
        obtain ⟨v, hv⟩ := yd
        have e3 : x = fct i + p * u := by omega
        have e4 : y = fct (n - 1 - i) + p * v := by omega
        rw [e3, e4]
        refine ⟨sg (n - 1 - i) * (u * (fct (n - 1 - i) + p * v) + fct i * v), ?_⟩
        grind
      have hsg : sg (n - 1 - i) = 1 ∨ sg (n - 1 - i) = -1 := by unfold sg; split <;> simp
      have ea : ((n : Int) - 1 - (i : Int)) = ((n - 1 - i : Nat) : Int) := by omega
      walk_at "x"
      rw [ea]
      refine x_cut (fun σ2 H2 => H2 = H' ∧ ∃ s : Int, σ2 = [some (.int (n : Int)), some (.int (p : Int)), some (.ref a), v3, some (.ref b), some (.int (i : Int)), some (.int ((n - 1 - i : Nat) : Int)), some (.int s)] ∧ s = sg (n - 1 - i)) ?_ ?_
      · walk_at "x"
        refine x_ite (fun hc => ?_) (fun hc => ?_)
        · walk_at "x"
          exact ⟨rfl, _, rfl, by unfold sg; rw [if_pos (by omega)]⟩
        · walk_at "x"
          exact ⟨rfl, _, rfl, by unfold sg; rw [if_neg (by omega)]⟩
      · rintro σ2 H2 ⟨rfl, s, rfl, es⟩
        have s1 : s = 1 ∨ s = -1 := by rw [es]; exact hsg
        walk_at "x"
        refine x_tyL hB ?_
        walk_at "x"
        refine x_ixL (v := .int x) (sq_of hf') (atI_nat (by rw [List.getElem?_map, gx]; rfl)) ?_
        walk_at "x"
        refine x_ixL (v := .int y) (sq_of hf') (atI_nat (by rw [List.getElem?_map, gy]; rfl)) ?_
        walk_at "x"
        refine x_app hB (by rw [List.length_map]; omega) ?_
        walk_at "x"
        refine ⟨_, _, _, rfl, sput hs' hb, bs ++ [s * x * y], by rw [upd_same, List.map_append]; rfl, by rw [List.length_append, hbl]; rfl, fun j w hw => ?_⟩
        by_cases hj : j < bs.length
        · rw [List.getElem?_append_left hj] at hw
          exact hbz j w hw
        · rw [List.getElem?_append_right (by omega)] at hw
          have ej : j = i := by
            have := (List.getElem?_eq_some_iff.mp hw).1
            simp at this
            omega
          subst ej
          rw [hbl, Nat.sub_self] at hw
          have e : w = s * x * y := (Option.some.inj hw).symm
          rw [e, es]
          exact key
    · rintro σ' H' ⟨v5, v6, v7, rfl, hs', bs, hB, hbl, hbz⟩
      walk_at "x"
      exact q b bs H' (sfree hs hb) (hs.trans hs') hB (by omega) hbz



def sp_shares (K : PySem.W.Frag) : Sp := fun vs H Q _ => ∃ (n p : Nat) (x : Int), vs = [.int (n : Int), .int (p : Int), .int x] ∧ 1 ≤ n ∧ n ≤ 1000 ∧ IsPrime p ∧ n ≤ p ∧ p ≤ 1000000000 ∧ 0 ≤ x ∧ x < p ∧
  ∀ (a : Addr) (rs : List Int) (H' : Hp), H a = none → Same H H' → H' a = some (.lst (rs.map V.int)) → rs.length = n → (∀ (i : Nat) r, rs[i]? = some r → Bas p n i x r) → Q (.ref a) H'
theorem ok_shares (T : Txt K mg) : FnOk P w K mg base CX0 2 T.a_shares T.fd_shares ["size", "prime", "x"] (sp_shares K) := by
  refine T.F_shares.ok sc_shares (fun vs H Q E h => ?_) (fun cdv A outer s H vs Q E hr h => ?_)
  · obtain ⟨n, p, x, rfl, _⟩ := h
    rfl
  · obtain ⟨n, p, x, rfl, hn1, hn2, hp, hnp, hp9, hx0, hx1, q⟩ := h
    have hp2 := hp.1
    refine ⟨_, (pss_cons (ps_if (pt_cmpR op_lt (pv 2) (pv 0) (nomark _))
      (pss_one (ps_ret (pe_lc (own := [("at", 3)]) (g := gName 3) (tt := tYes) rfl sc_shares.nd (pi_range1 (by rfl) T.m_range (pa_cons (pv 0) pa_nil)) (blkOk_by (N := N_shares) (sc := defScope s_shares) (by decide +kernel)) (fun _ _ _ _ _ => (pg_name (i := 3) sc_shares.nd rfl (Or.inl rfl))) (fun _ _ _ _ _ => pts_nil) (fun _ _ _ _ _ => (pe_ifExp (pt_cmpR op_eq (pv 3) (pv 2) (nomark _)) pe_int pe_int)))))
      pss_nil)
      (pss_cons (ps_set (i := 4) sc_shares.nd rfl (.inl rfl) pe_int)
      (pss_cons (ps_for PassesOwn.never rfl (pi_range1 (by rfl) T.m_range (pa_cons (pv 0) pa_nil)) (pg_name (i := 3) sc_shares.nd rfl (Or.inl rfl))
      (pss_one (ps_set (i := 4) sc_shares.nd rfl (.inl rfl) (pe_op op_mod (pe_op op_mul (pv 4) (pe_op op_sub (pv 2) (pv 3))) (pv 1)))))
      (pss_cons (ps_set (i := 5) sc_shares.nd rfl (.inl rfl) (pe_lst pa_nil))
      (pss_cons (ps_for PassesOwn.never rfl (pi_enum (by rfl) T.m_enumerate (pa_cons (pe_call (ok_products_of_differences T) hr (by rfl) T.g_products_of_differences T.F_products_of_differences.kp T.b_products_of_differences .nil pass0 (pa_cons (pv 0) (pa_cons (pv 1) pa_nil))) pa_nil)) (pg_tup rfl (pgs_cons (pg_name (i := 3) sc_shares.nd rfl (Or.inl rfl)) (pgs_cons (pg_name (i := 6) sc_shares.nd rfl (Or.inl rfl)) pgs_nil)))
      (pss_one (ps_expr (pe_bm PySem.F.plainAttrs_list PySem.F.slot_list_append PySem.F.type_list_append mt_append (pv 5) (pa_cons (pe_op op_mod (pe_op op_mul (pv 4) (pe_call (ok_inverse_of T) hr (by rfl) T.g_inverse_of T.F_inverse_of.kp T.b_inverse_of .nil pass0 (pa_cons (pe_op op_mul (pe_op op_sub (pv 2) (pv 3)) (pv 6)) (pa_cons (pv 1) pa_nil)))) (pv 1)) pa_nil)))))
      (pss_one (ps_ret (pv 5)))))))), ?_⟩
    walk_at "start"
    walk_at "x"
    refine x_ite (fun hc => ?_) (fun hc => ?_)
    · walk_at "x"
      obtain ⟨xn, rfl⟩ : ∃ xn : Nat, x = (xn : Int) := ⟨x.toNat, by omega⟩
      refine x_lcR1 (n : Int) (fun a i H' => Same H H' ∧ ∃ rs : List Int, H' a = some (.lst (rs.map V.int)) ∧ rs.length = i ∧ ∀ (j : Nat) r, rs[j]? = some r → Bas p n j (xn : Int) r) (fun R r => ⟨_, rfl, r⟩) (by omega) (by omega) (fun a ha => ⟨same_upd ha, [], upd_same, rfl, fun j r h => by simp at h⟩) (fun x => rfl) ?_ ?_
      · rintro a i H' ha hi ⟨hs, rs, hr, hl, hb⟩
        walk_at "x"
        have hB := Bas.ind (p := p) (n := n) (at_ := i) (x := xn) hp (by omega)
        refine x_ite (fun he => ?_) (fun he => ?_)
        · rw [if_pos (by omega)] at hB
          walk_at "x"
          refine ⟨_, hr, Nat.lt_of_lt_of_le (show _ < 100000 by rw [List.length_map]; omega) (by decide), sput hs ha, rs ++ [1], map_app, by rw [List.length_append, hl]; rfl, fun j r h => ?_⟩
          rcases snoc_at hl h with ⟨_, h⟩ | ⟨rfl, rfl⟩
          · exact hb j r h
          · exact hB
        · rw [if_neg (by omega)] at hB
          walk_at "x"
          refine ⟨_, hr, Nat.lt_of_lt_of_le (show _ < 100000 by rw [List.length_map]; omega) (by decide), sput hs ha, rs ++ [0], map_app, by rw [List.length_append, hl]; rfl, fun j r h => ?_⟩
          rcases snoc_at hl h with ⟨_, h⟩ | ⟨rfl, rfl⟩
          · exact hb j r h
          · exact hB
      · rintro a H' ha ⟨hs, rs, hr, hl, hb⟩
        exact q a rs H' ha hs hr (by omega) hb
    · walk_at "x"
      refine x_forR1 (n : Int) (fun i σ' H' => H = H' ∧ ∃ v3 t, σ' = [some (.int (n : Int)), some (.int (p : Int)), some (.int x), v3, some (.int t), none, none] ∧ 0 ≤ t ∧ t < p ∧ (p : Int) ∣ t - Tp x i) (fun R r => ⟨_, rfl, r⟩) (by omega) (by omega) ⟨rfl, none, 1, rfl, by decide, by omega, 0, rfl⟩ ?_ ?_
      · rintro i σ' H' hi ⟨rfl, v3, t, rfl, t0, t1, u, hu⟩
        walk_at "x"
        refine ⟨rfl, _, _, rfl, Int.emod_nonneg _ (by omega), Int.emod_lt_of_pos _ (by omega), ?_⟩
        have h4 := Int.mul_ediv_add_emod (t * (x - (i : Int))) p
        refine ⟨u * (x - (i : Int)) - t * (x - (i : Int)) / (p : Int), ?_⟩
        show _ - Tp x i * (x - (i : Int)) = _
        have et : t = Tp x i + p * u := by omega
        grind
      rintro σ' H' ⟨rfl, v3, t, rfl, t0, t1, ht⟩
      walk_at "x"
      refine ⟨Nat.zero_le _, fun a ha => ?_⟩
      walk_at "x"
      refine x_for ?_
      unfold iEnum
      walk_at "x"
      refine ⟨n, p, rfl, hn1, hn2, hp2, hp9, fun b bs H2 hb hs2 hB hbl hbz => ?_⟩
      walk_at "x"
      have hab : a ≠ b := ne_of_none upd_same hb
      have hs0 : Same H H2 := (same_upd ha).trans hs2
      refine ⟨b, bs.map V.int, rfl, sq_of hB, for_it (D := ⟨_, Q, fun _ _ => False, fun _ _ => False⟩) (walk_enum (K := K) (xs := bs.map V.int)) (fun i σ' H' => ∃ v3 v6, σ' = [some (.int (n : Int)), some (.int (p : Int)), some (.int x), v3, some (.int t), some (.ref a), v6] ∧ Same H H' ∧ H' b = some (.lst (bs.map V.int)) ∧ ∃ rs : List Int, H' a = some (.lst (rs.map V.int)) ∧ rs.length = i ∧ ∀ (j : Nat) r, rs[j]? = some r → Bas p n j x r) ⟨_, _, rfl, hs0, hB, [], hs2 _ _ upd_same, rfl, fun j r h => by simp at h⟩ (fun i σ' H' _ z => by
        obtain ⟨_, _, _, _, e, _⟩ := z
        exact sq_of e) ?_ ?_⟩
      · rintro i _ σ' H' H3 hi ⟨v3, v6, rfl, hs, hB, rs, hr, hrl, hrz⟩ ⟨c, u, v, rfl, hc, rfl, gu, gv⟩
        cases gu
        obtain ⟨y, gy, rfl⟩ := map_get gv
        have hi : i < n := by rw [List.length_map] at hi; omega
        refine x_gTup2 (st_of upd_same) ?_
        have hca : a ≠ c := ne_of_none hr hc
        have hcb : b ≠ c := ne_of_none hB hc
        have hr' : (upd H' c (.tup [.int (i : Int), .int y])) a = some (.lst (rs.map V.int)) := by rw [upd_ne hca]; exact hr
        have hB' : (upd H' c (.tup [.int (i : Int), .int y])) b = some (.lst (bs.map V.int)) := by rw [upd_ne hcb]; exact hB
        have hs' := sput (o := .tup [.int (i : Int), .int y]) hs (sfree hs hc)
        walk_at "x"
        refine x_tyL hr' ?_
        walk_at "x"
        refine ⟨(x - (i : Int)) * y, (p : Int), rfl, by omega, by omega, fun v H4 hv hs4 => ?_⟩
        have hy := hbz i y gy
        have hcop : Int.gcd ((x - (i : Int)) * y) (p : Int) = 1 := by
          have hnd : ¬ (p : Int) ∣ (x - (i : Int)) * y := fun hd => by
            rcases hp.mulI hd with h1 | h1
            · have := small_dvd h1 (by omega) (by omega)
              omega
            · exact Ab_own hp hi hnp (by
                have e : Ab (i : Int) i n = y - (y - Ab (i : Int) i n) := by omega
                rw [e]
                exact Int.dvd_sub h1 hy)
          have h1 : ¬ p ∣ ((x - (i : Int)) * y).natAbs := fun h => hnd (Int.ofNat_dvd_left.mpr h)
          have h2 := hp.coprime h1
          show Nat.gcd ((x - (i : Int)) * y).natAbs ((p : Int)).natAbs = 1
          rw [Int.natAbs_natCast, Nat.gcd_comm]
          exact h2
        obtain ⟨z, rfl, z0, z1, hz⟩ := hv.2 hcop
        walk_at "x"
        refine x_app (hs4 _ _ hr') (by rw [List.length_map]; omega) ?_
        walk_at "x"
        refine ⟨_, _, rfl, sput (hs'.trans hs4) ha, by rw [upd_ne hab.symm]; exact hs4 _ _ hB', rs ++ [t * z % (p : Int)], map_app, by rw [List.length_append, hrl]; rfl, fun j r h => ?_⟩
        rcases snoc_at hrl h with ⟨_, h⟩ | ⟨rfl, rfl⟩
        · exact hrz j r h
        · exact Bas.inv hi hp2 ht hy hz
      · rintro σ' H' ⟨v3, v6, rfl, hs, hB, rs, hr, hrl, hrz⟩
        exact ⟨_, rfl, q a rs H' ha hs hr (by rw [List.length_map] at hrl; omega) hrz⟩


/-! ### tables -/

def sp_weighted (K : PySem.W.Frag) : Sp := fun vs H Q _ => ∃ (a b : Addr) (r c : List Int), vs = [.ref a, .ref b] ∧ SqT K H a (r.map V.int) ∧ SqL K H b (c.map V.int) ∧ r.length = c.length ∧ r.length ≤ 1000 ∧ Rg 0 1000000000 r ∧
  ∀ H', Same H H' → Q (.int (S1 (fun j => c.getD j 0 * r.getD j 0) r.length)) H'
theorem ok_weighted (T : Txt K mg) : FnOk P w K mg base CX0 1 T.a_weighted T.fd_weighted ["row", "shares"] (sp_weighted K) := by
  refine T.F_weighted.ok sc_weighted (fun vs H Q E h => ?_) (fun cdv A outer s H vs Q E hr h => ?_)
  · obtain ⟨a, b, r, c, rfl, _⟩ := h
    rfl
  · obtain ⟨a, b, r, c, rfl, hr, hc, hl, hl2, hR, q⟩ := h
    refine ⟨_, (pss_one (ps_ret (pe_callB (id := "sum") (r := rSum K) (cr_sum rfl) (by rfl) T.m_sum (by decide +kernel) (pa_cons (pe_lc (own := [("share", 2), ("value", 3)]) (g := gTup K 2 (gCons (gName 2) (gCons (gName 3) gNil))) (tt := tYes) rfl sc_weighted.nd (pi_zipM (by rfl) T.m_zip (pa_cons (pv 1) (pa_cons (pv 0) pa_nil))) (blkOk_by (N := N_weighted) (sc := defScope s_weighted) (by decide +kernel)) (fun _ _ _ _ _ => (pg_tup rfl (pgs_cons (pg_name (i := 2) sc_weighted.nd rfl (Or.inl rfl)) (pgs_cons (pg_name (i := 3) sc_weighted.nd rfl (Or.inl rfl)) pgs_nil)))) (fun _ _ _ _ _ => pts_nil) (fun _ _ _ _ _ => (pe_op op_mul (pv 2) (pv 3)))) pa_nil)))), ?_⟩
    walk_at "start"
    walk_at "x"
    refine x_lcI (J := ItzM K b a) (n := r.length) (fun R k => by unfold iZipM; walk_at "x"; exact ⟨b, a, _, _, rfl, hc, hr, k⟩) (walk_mix (by rw [List.length_map, hl]) (by rw [List.length_map])) (fun o i H' => Same H H' ∧ ∃ w : List Int, H' o = some (.lst (w.map V.int)) ∧ w.sum = S1 (fun j => c.getD j 0 * r.getD j 0) i ∧ w.length = i) (fun o ho => ⟨same_upd ho, [], upd_same, rfl, rfl⟩) (fun o i H' _ _ z => ⟨z.1.seq hc, seqT z.1 hr⟩) ?_ ?_ ?_
    · rintro o i _ H' H2 hi ho ⟨hs, w, hw, hws, hwl⟩ ⟨p, u, v, rfl, hp, rfl, gu, gv⟩
      obtain ⟨y, gy, rfl⟩ := map_get gu
      obtain ⟨z, gz, rfl⟩ := map_get gv
      have bz := hR.get gz
      refine x_gTup2 (st_of upd_same) ⟨rfl, ?_⟩
      have hpo : o ≠ p := ne_of_none hw hp
      walk_at "x"
      refine ⟨_, by rw [upd_ne hpo]; exact hw, Nat.lt_of_lt_of_le (show _ < 100000 by rw [List.length_map]; omega) (by decide), sput (sput hs (sfree hs hp)) ho, w ++ [y * z], map_app, ?_, by rw [List.length_append, hwl]; rfl⟩
      rw [List.sum_append, hws]
      show _ = S1 _ i + c.getD i 0 * r.getD i 0
      rw [getD_of gy, getD_of gz]
      simp
    · intro x σ' H' R R' hRR hg
      obtain ⟨p, xs, e, h1, h2, v, r', e2, w, r2, e3, e4, h3⟩ := hg
      exact ⟨p, xs, e, h1, h2, v, r', e2, w, r2, e3, e4, hRR _ _ h3⟩
    · rintro o H' ho ⟨hs, w, hw, hws, hwl⟩
      walk_at "x"
      refine ⟨o, w, rfl, sq_of hw, ?_⟩
      rw [hws]
      exact q H' hs


def sp_interpolate (K : PySem.W.Frag) : Sp := fun vs H Q _ => ∃ (a : Addr) (p : Nat) (x y : Int) (t : List (List Int)), vs = [.ref a, .int (p : Int), .int x, .int y] ∧ TabAt K H a t ∧ IsTab p t ∧ t.length ≤ 1000 ∧ IsPrime p ∧ p ≤ 1000000000 ∧ 0 ≤ x ∧ x < p ∧ 0 ≤ y ∧ y < p ∧
  ∀ (v : Int) (H' : Hp), Itp p t x y v → 0 ≤ v → v < p → Same H H' → Q (.int v) H'
theorem Itp.of {p : Nat} {t : List (List Int)} {x y : Int} {rs cs : List Int} (hr : rs.length = t.length) (hc : cs.length = t.length) (h1 : ∀ (i : Nat) r, rs[i]? = some r → Bas p t.length i x r) (h2 : ∀ (i : Nat) r, cs[i]? = some r → Bas p t.length i y r) :
    Itp p t x y (S1 (fun i => rs.getD i 0 * S1 (fun j => cs.getD j 0 * (t.getD i []).getD j 0) t.length) t.length % p) :=
  ⟨fun i => rs.getD i 0, fun j => cs.getD j 0, fun i hi => h1 i _ (get_getD (by omega)), fun j hj => h2 j _ (get_getD (by omega)), rfl⟩
theorem ok_interpolate (T : Txt K mg) : FnOk P w K mg base CX0 3 T.a_interpolate T.fd_interpolate ["table", "prime", "x", "y"] (sp_interpolate K) := by
  refine T.F_interpolate.ok sc_interpolate (fun vs H Q E h => ?_) (fun cdv A outer s H vs Q E hr h => ?_)
  · obtain ⟨a, p, x, y, t, rfl, _⟩ := h
    rfl
  · obtain ⟨a, p, x, y, t, rfl, hT, hI, htl, hp, hp9, hx0, hx1, hy0, hy1, q⟩ := h
    have hp2 := hp.1
    obtain ⟨as, hA, hal, hrow⟩ := id hT
    refine ⟨_, (pss_cons (ps_set (i := 4) sc_interpolate.nd rfl (.inl rfl) (pe_call (ok_shares T) hr (by rfl) T.g_shares T.F_shares.kp T.b_shares .nil pass0 (pa_cons (pe_callB (id := "len") (r := rLen K) cr_len (by rfl) T.m_len PySem.boot_len (pa_cons (pv 0) pa_nil)) (pa_cons (pv 1) (pa_cons (pe_op op_mod (pv 2) (pv 1)) pa_nil)))))
      (pss_cons (ps_set (i := 5) sc_interpolate.nd rfl (.inl rfl) (pe_call (ok_shares T) hr (by rfl) T.g_shares T.F_shares.kp T.b_shares .nil pass0 (pa_cons (pe_callB (id := "len") (r := rLen K) cr_len (by rfl) T.m_len PySem.boot_len (pa_cons (pv 0) pa_nil)) (pa_cons (pv 1) (pa_cons (pe_op op_mod (pv 3) (pv 1)) pa_nil)))))
      (pss_cons (ps_set (i := 6) sc_interpolate.nd rfl (.inl rfl) pe_int)
      (pss_cons (ps_for PassesOwn.never rfl (pi_zipM (by rfl) T.m_zip (pa_cons (pv 4) (pa_cons (pv 0) pa_nil))) (pg_tup rfl (pgs_cons (pg_name (i := 7) sc_interpolate.nd rfl (Or.inl rfl)) (pgs_cons (pg_name (i := 8) sc_interpolate.nd rfl (Or.inl rfl)) pgs_nil)))
      (pss_one (ps_if (pt_cmpR op_ne (pv 7) pe_int (nomark _))
      (pss_one (ps_set (i := 6) sc_interpolate.nd rfl (.inl rfl) (pe_op op_add (pv 6) (pe_op op_mul (pv 7) (pe_call (ok_weighted T) (hr.mono (by decide)) (by rfl) T.g_weighted T.F_weighted.kp T.b_weighted .nil pass0 (pa_cons (pv 8) (pa_cons (pv 5) pa_nil)))))))
      pss_nil)))
      (pss_one (ps_ret (pe_op op_mod (pv 6) (pv 1)))))))), ?_⟩
    walk_at "start"
    walk_at "x"
    refine x_lenT hA ?_
    walk_at "x"
    rw [Int.emod_eq_of_lt hx0 hx1, List.length_map, hal]
    refine ⟨t.length, p, x, rfl, hI.pos, htl, hp, hI.le, hp9, hx0, hx1, fun ra rs H1 hra hs1 hrs hrl hrz => ?_⟩
    walk_at "x"
    refine x_lenT (seqT hs1 hA) ?_
    walk_at "x"
    rw [Int.emod_eq_of_lt hy0 hy1, List.length_map, hal]
    refine ⟨t.length, p, y, rfl, hI.pos, htl, hp, hI.le, hp9, hy0, hy1, fun ca cs H2 hca hs2 hcs hcl hcz => ?_⟩
    walk_at "x"
    have hs02 : Same H H2 := hs1.trans hs2
    refine x_forI (J := ItzM K ra a) (n := t.length) (fun R k => by unfold iZipM; walk_at "x"; exact ⟨ra, a, _, _, rfl, sq_of (hs2 _ _ hrs), seqT hs02 hA, k⟩) (walk_mix (xs := rs.map V.int) (ys := as.map V.ref) (by rw [List.length_map, hrl]) (by rw [List.length_map, hal]))
      (fun i σ' H' => ∃ v7 v8, σ' = [some (.ref a), some (.int (p : Int)), some (.int x), some (.int y), some (.ref ra), some (.ref ca), some (.int (S1 (fun i => rs.getD i 0 * S1 (fun j => cs.getD j 0 * (t.getD i []).getD j 0) t.length) i)), v7, v8] ∧ Same H2 H') ⟨none, none, rfl, Same.refl _⟩
      (fun i σ' H' _ z => by
        obtain ⟨_, _, _, s⟩ := z
        exact ⟨sq_of (s _ _ (hs2 _ _ hrs)), seqT (hs02.trans s) hA⟩) ?_ ?_
    · rintro i _ σ' H' H3 hi ⟨v7, v8, rfl, s⟩ ⟨c, u, v, rfl, hc, rfl, gu, gv⟩
      obtain ⟨r, gr, rfl⟩ := map_get gu
      obtain ⟨b, gb, rfl⟩ := map_getR gv
      obtain ⟨row, grow⟩ : ∃ row, t[i]? = some row := ⟨_, List.getElem?_eq_getElem hi⟩
      obtain ⟨rwl, rwR⟩ := hI.rows i row grow
      have hB := hrz i r gr
      have s3 : Same H (upd H' c (.tup [.int r, .ref b])) := sput (hs02.trans s) (sfree (hs02.trans s) hc)
      have s23 : Same H2 (upd H' c (.tup [.int r, .ref b])) := sput s (sfree s hc)
      refine x_gTup2 (st_of upd_same) ?_
      have step : S1 (fun i => rs.getD i 0 * S1 (fun j => cs.getD j 0 * (t.getD i []).getD j 0) t.length) (i + 1) = S1 (fun i => rs.getD i 0 * S1 (fun j => cs.getD j 0 * (t.getD i []).getD j 0) t.length) i + r * S1 (fun j => cs.getD j 0 * row.getD j 0) row.length := by
        show S1 _ i + rs.getD i 0 * S1 (fun j => cs.getD j 0 * (t.getD i []).getD j 0) t.length = _
        rw [getD_of gr, rwl, List.getD_eq_getElem?_getD (l := t), grow]
        rfl
      walk_at "x"
      refine x_iteN (fun hz => ?_) (fun hz => ?_)
      · walk_at "x"
        refine ⟨b, ca, row, cs, rfl, seqT s3 (hrow i row b grow gb), sq_of (s23 _ _ hcs), by omega, by omega, fun z hz => ⟨(rwR z hz).1, by have := (rwR z hz).2; omega⟩, fun H4 hs4 => ?_⟩
        have hB0 := hB.1
        have hB1 := hB.2.1
        walk_at "x"
        rw [← step]
        exact ⟨_, _, rfl, s23.trans hs4⟩
      · walk_at "x"
        refine ⟨some (.int r), some (.ref b), ?_, s23⟩
        rw [step, hz, Int.zero_mul, Int.add_zero]
    · rintro σ' H' ⟨v7, v8, rfl, s⟩
      walk_at "x"
      exact q _ H' (Itp.of hrl hcl hrz hcz) (Int.emod_nonneg _ (by omega)) (Int.emod_lt_of_pos _ (by omega)) (hs02.trans s)





end
end Br
namespace Br
open PySem PySem.Spec PyProof.Rows L2
local macro_rules | `(tactic| walk_at "x1") => `(tactic| (with_reducible first
  | refine Br.x_seq ?_ | refine Br.x_set ?_ | refine Br.x_asg ?_ | refine Br.x_next ?_ | refine Br.x_ret ?_ | refine Br.x_retN ?_ | refine Br.x_drop ?_ | refine Br.x_if ?_ | refine Br.x_brk ?_ | refine Br.x_cont ?_
  | refine Br.x_c ?_ | refine Br.x_op ?_ | refine Br.x_un ?_ | refine Br.x_I0 ?_ | refine Br.x_U ?_ | refine Br.x_EqI ?_ | refine Br.x_NeI ?_ | refine Br.x_EqB ?_ | refine Br.x_iN ?_ | refine Br.x_int1 ?_ | refine Br.x_min2 ?_ | refine Br.x_max2 ?_ | refine Br.x_nN ?_ | refine Br.x_ifE ?_
  | refine Br.x_test (b := ()) ?_ | refine Br.x_tB ?_ | refine Br.x_bl ?_ | refine Br.x_and ?_ | refine Br.x_or ?_ | refine Br.x_not ?_ | refine Br.x_andV ?_ | refine Br.x_orV ?_ | refine Br.x_notV ?_ | refine Br.x_blP ?_
  | refine Br.x_nil ?_ | refine Br.x_cons ?_ | refine Br.x_call ?_ | refine Br.x_CB ?_ | refine Br.x_BM ?_ | refine Br.x_tup ?_ | refine Br.x_lst ?_ | refine Br.x_chain ?_ | refine Br.x_par ?_ | refine Br.x_gSub ?_ | refine Br.x_gName ?_ | refine Br.x_fld ?_ | refine Br.x_fldS ?_ | refine Br.x_match ?_ | refine Br.x_else ?_ | refine Br.x_noCase ?_))
local macro_rules | `(tactic| walk_at "xv") => `(tactic| ((with_reducible refine' Br.x_var ?hvar ?_); (case hvar => rfl)))
local macro_rules | `(tactic| walk_at "xd") => `(tactic| (dsimp only [List.set_cons_zero, List.set_cons_succ, List.cons_append, List.nil_append, List.append_nil]))
local macro_rules | `(tactic| walk_at "xi") => `(tactic| ((with_reducible refine Br.x_I ?hside ?_); (case hside => first | exact Br.mul_r (by decide) (by decide) | exact Br.mul_l (by decide) (by decide) | exact Br.mul_l (by omega) (by omega) | exact Br.mul_r (by omega) (by omega) | (show (0 : Int) < _; first | decide | omega) | exact ⟨by decide, by decide⟩ | exact ⟨by omega, by omega⟩ | exact ⟨by decide, by decide, by decide⟩)))
local macro_rules | `(tactic| walk_at "x") => `(tactic| (repeat (first | walk_at "x1" | walk_at "xv" | walk_at "xi" | walk_at "xd")))
local macro_rules | `(tactic| walk_at "start") => `(tactic| (simp only [L2.start, List.map_cons, List.map_nil, List.length_cons, List.length_nil, Nat.reduceAdd, Nat.reduceSub, List.replicate, List.cons_append, List.nil_append, List.append_nil]))
local macro_rules | `(tactic| walk_at "isi") => `(tactic| first
  | refine Br.x_isi (b := true) (.base (.int _)) (by decide +kernel) ?_ | refine Br.x_isi (b := false) (.base (.int _)) (by decide +kernel) ?_
  | refine Br.x_isi (b := true) (.base (.bl _)) (by decide +kernel) ?_ | refine Br.x_isi (b := false) (.base (.bl _)) (by decide +kernel) ?_
  | refine Br.x_isi (b := false) (.base .non) (by decide +kernel) ?_
  | refine Br.x_isi (b := true) (.base (.str _)) (by decide +kernel) ?_ | refine Br.x_isi (b := false) (.base (.str _)) (by decide +kernel) ?_
  | refine Br.x_isi (b := true) (.base (.tup (by assumption))) (by decide +kernel) ?_ | refine Br.x_isi (b := false) (.base (.tup (by assumption))) (by decide +kernel) ?_
  | refine Br.x_isi (b := true) (.base (.lst (by assumption))) (by decide +kernel) ?_ | refine Br.x_isi (b := false) (.base (.lst (by assumption))) (by decide +kernel) ?_)
local macro_rules | `(tactic| walk_at "f") => `(tactic| (refine L2.iteF ?_; walk_at "x"))
local macro_rules | `(tactic| walk_at "t") => `(tactic| (refine L2.iteT ?_; walk_at "x"))
local macro_rules | `(tactic| walk_at "is") => `(tactic| (walk_at "isi"; walk_at "x"))
local macro_rules | `(tactic| walk_at "xb") => `(tactic| (simp only [Br.bindS, List.set_cons_zero, List.set_cons_succ]; walk_at "x"))

section
variable {P : Program} {w : World} {K : PySem.W.Frag} {mg : Str → Option Value} {base : Heap}

/-! ### primes -/
def PrimeI (n : Int) : Prop := 2 ≤ n ∧ ∀ d : Int, 2 ≤ d → d * d ≤ n → n % d ≠ 0
theorem sq_lt {a b : Int} (ha : 0 ≤ a) (h : a < b) : a * a < b * b := by
  have h1 : a * a ≤ a * b := Int.mul_le_mul_of_nonneg_left (Int.le_of_lt h) ha
  have h2 : a * b < b * b := Int.mul_lt_mul_of_pos_right h (by omega)
  omega
theorem le_of_sq {a b : Int} (hb : 0 ≤ b) (h : a * a ≤ b * b) : a ≤ b := by
  by_cases h1 : a ≤ b
  · exact h1
  · have := sq_lt hb (show b < a by omega)
    omega
theorem even_dvd {n d : Int} (hd : d % 2 = 0) (h : n % d = 0) : n % 2 = 0 := by
  obtain ⟨q, hq⟩ := Int.dvd_of_emod_eq_zero h
  obtain ⟨r, hr⟩ := Int.dvd_of_emod_eq_zero hd
  rw [hq, hr, Int.mul_assoc]
  exact Int.mul_emod_right 2 _

def sp_is_prime (K : PySem.W.Frag) : Sp := fun vs H Q _ => ∃ n : Int, vs = [.int n] ∧ 0 ≤ n ∧ n < 2000000000 ∧ ∀ b : Bool, (b = true ↔ PrimeI n) → Q (.bl b) H
theorem ok_is_prime (T : Txt K mg) : FnOk P w K mg base CX0 1 T.a_is_prime T.fd_is_prime ["n"] (sp_is_prime K) := by
  refine T.F_is_prime.ok sc_is_prime (fun vs H Q E h => ?_) (fun cdv A outer s H vs Q E hr h => ?_)
  · obtain ⟨n, rfl, _⟩ := h
    rfl
  · obtain ⟨n, rfl, h0, h1, q⟩ := h
    refine ⟨_, (pss_cons (ps_if (pt_cmpR op_lt (pv 0) pe_int (nomark _))
      (pss_one (ps_ret (pe_cmpR op_gt (pv 0) pe_int (nomark _))))
      pss_nil)
      (pss_cons (ps_if (pt_cmpR op_eq (pe_op op_mod (pv 0) pe_int) pe_int (nomark _))
      (pss_one (ps_ret pe_bl))
      pss_nil)
      (pss_cons (ps_for PassesOwn.never rfl (pi_range3 (by rfl) T.m_range (pa_cons pe_int (pa_cons (pe_op op_add (pe_callBfun cr_isqrt (by rfl) T.m_isqrt (pa_cons (pv 0) pa_nil)) pe_int) (pa_cons pe_int pa_nil)))) (pg_name (i := 1) sc_is_prime.nd rfl (Or.inl rfl))
      (pss_one (ps_if (pt_cmpR op_eq (pe_op op_mod (pv 0) (pv 1)) pe_int (nomark _))
      (pss_one (ps_ret pe_bl))
      pss_nil)))
      (pss_one (ps_ret pe_bl))))), ?_⟩
    walk_at "start"
    walk_at "x"
    refine x_ite (fun hc => ?_) (fun hc => ?_)
    · walk_at "x"
      refine q _ ⟨fun e => ⟨by have := of_decide_eq_true e; omega, fun d h2 hd => ?_⟩, fun e => decide_eq_true (by have := e.1; omega)⟩
      have : 2 * 2 ≤ d * d := Int.mul_le_mul h2 h2 (by decide) (by omega)
      omega
    · walk_at "x"
      refine x_ite (fun hc2 => ?_) (fun hc2 => ?_)
      · walk_at "x"
        exact q _ ⟨fun e => (by cases e), fun e => absurd hc2 (e.2 2 (by decide) (by omega))⟩
      · walk_at "x"
        have hn2 : ∀ d : Int, d % 2 = 0 → n % d ≠ 0 := fun d hd e => hc2 (even_dvd hd e)
        obtain ⟨r, er, hr0, hr1, hr2⟩ := isq_spec h0
        have hr3 : r < 44722 := by
          by_cases hh : r < 44722
          · exact hh
          · have : (44722 : Int) * 44722 ≤ r * r := Int.mul_le_mul (by omega) (by omega) (by decide) (by omega)
            omega
        refine x_forR3 3 (r + 1) 2 (fun i σ' H' => ∃ v, σ' = [some (.int n), v] ∧ H' = H ∧ ∀ d : Int, 2 ≤ d → d < 3 + (i : Int) * 2 → n % d ≠ 0) (fun R k => k) (fun R k => by walk_at "x"; exact x_isqrt0 h0 (by omega) er (by walk_at "x"; exact k)) (fun R k => k) (by decide) (by decide) (by decide) (by decide) (by omega) (by omega) ?_ ?_ ?_
        · exact ⟨none, rfl, rfl, fun d h2 h3 => by
            have e : d = 2 := by omega
            rw [e]; exact hc2⟩
        · rintro i σ' H' hi ⟨v, rfl, rfl, hI⟩
          walk_at "x"
          refine x_ite (fun hd => ?_) (fun hd => ?_)
          · walk_at "x"
            refine q _ ⟨fun e => (by cases e), fun e => absurd hd (e.2 _ (by omega) ?_)⟩
            have : (3 + (i : Int) * 2) * (3 + (i : Int) * 2) ≤ r * r := Int.mul_le_mul (by omega) (by omega) (by omega) (by omega)
            omega
          · walk_at "x"
            refine ⟨_, rfl, rfl, fun d h2 h3 => ?_⟩
            by_cases h4 : d < 3 + (i : Int) * 2
            · exact hI d h2 h4
            · by_cases h5 : d = 3 + (i : Int) * 2
              · rw [h5]; exact hd
              · exact hn2 d (by omega)
        · rintro i σ' H' hi ⟨v, rfl, rfl, hI⟩
          walk_at "x"
          refine q _ ⟨fun _ => ⟨by omega, fun d h2 h3 => hI d h2 ?_⟩, fun _ => rfl⟩
          have : d < r + 1 := by
            by_cases hh : d < r + 1
            · exact hh
            · have : (r + 1) * (r + 1) ≤ d * d := Int.mul_le_mul (by omega) (by omega) (by omega) (by omega)
              omega
          omega




open Br.F
/-- a value of any kind that the laws put in -/
inductive Odd (H : Hp) : V → Prop
  | int (i : Int) : Odd H (.int i)
  | bl (b : Bool) : Odd H (.bl b)
  | non : Odd H .non
  | str (x : Str) : Odd H (.str x)
  | tup (a : Addr) (xs : List V) (h : H a = some (.tup xs)) : Odd H (.ref a)
  | lst (a : Addr) (xs : List V) (h : H a = some (.lst xs)) : Odd H (.ref a)
theorem Odd.same {H H' : Hp} {v : V} (h : Odd H v) (s : Same H H') : Odd H' v := by
  cases h with
  | int i => exact .int i
  | bl b => exact .bl b
  | non => exact .non
  | str x => exact .str x
  | tup a xs h => exact .tup a xs (s _ _ h)
  | lst a xs h => exact .lst a xs (s _ _ h)
def isB (v : V) (b : Int) : Bool := match v with
  | .int i => decide (0 ≤ i) && decide (i < b)
  | _ => false
theorem isB_int {i b : Int} (h0 : 0 ≤ i) (h1 : i < b) : isB (.int i) b = true := by
  show (decide (0 ≤ i) && decide (i < b)) = true
  rw [decide_eq_true h0, decide_eq_true h1]; rfl

def sp_is_below (K : PySem.W.Frag) : Sp := fun vs H Q _ => ∃ (v : V) (b : Int), vs = [v, .int b] ∧ Odd H v ∧ Q (.bl (isB v b)) H
theorem ok_is_below (T : Txt K mg) : FnOk P w K mg base CX0 1 T.a_is_below T.fd_is_below ["value", "bound"] (sp_is_below K) := by
  refine T.F_is_below.ok sc_is_below (fun vs H Q E h => ?_) (fun cdv A outer s H vs Q E hr h => ?_)
  · obtain ⟨v, b, rfl, _⟩ := h
    rfl
  · obtain ⟨v, b, rfl, hv, q⟩ := h
    refine ⟨_, (pss_one (ps_ret (pe_and (pe_callB (id := "isinstance") (r := rIsi K) call_isi (by rfl) T.m_isinstance (by decide +kernel) (pa_cons (pv 0) (pa_cons (pe_bltn (v := .ty "int") (by rfl) T.m_int (by decide +kernel) rfl) pa_nil))) (pe_and (pe_not (pe_callB (id := "isinstance") (r := rIsi K) call_isi (by rfl) T.m_isinstance (by decide +kernel) (pa_cons (pv 0) (pa_cons (pe_bltn (v := .ty "bool") (by rfl) T.m_bool (by decide +kernel) rfl) pa_nil)))) (pe_one (pe_chain op_le op_lt pe_int (pv 0) (pv 1))))))), ?_⟩
    walk_at "start"
    cases hv with
    | int i =>
      walk_at "x"
      walk_at "is"
      walk_at "t"
      walk_at "is"
      walk_at "t"
      refine x_ite (fun h0 => ?_) (fun h0 => ?_)
      · walk_at "x"
        have e : isB (.int i) b = decide (i < b) := by show (decide (0 ≤ i) && decide (i < b)) = _; rw [decide_eq_true h0]; rfl
        rw [← e]; exact q
      · have e : isB (.int i) b = false := by show (decide (0 ≤ i) && decide (i < b)) = _; rw [decide_eq_false h0]; rfl
        rw [← e]; exact q
    | bl x =>
      walk_at "x"
      walk_at "is"
      walk_at "t"
      walk_at "is"
      walk_at "f"
      exact q
    | non =>
      walk_at "x"
      walk_at "is"
      walk_at "f"
      exact q
    | str x =>
      walk_at "x"
      walk_at "is"
      walk_at "f"
      exact q
    | tup a xs h =>
      walk_at "x"
      walk_at "is"
      walk_at "f"
      exact q
    | lst a xs h =>
      walk_at "x"
      walk_at "is"
      walk_at "f"
      exact q



def sp_is_modulus (K : PySem.W.Frag) : Sp := fun vs H Q _ => ∃ (v : V), vs = [v] ∧ Odd H v ∧ Q (.bl (isB v 1000000001 && !isB v 2)) H
theorem ok_is_modulus (T : Txt K mg) : FnOk P w K mg base CX0 2 T.a_is_modulus T.fd_is_modulus ["value"] (sp_is_modulus K) := by
  refine T.F_is_modulus.ok sc_is_modulus (fun vs H Q E h => ?_) (fun cdv A outer s H vs Q E hr h => ?_)
  · obtain ⟨v, rfl, _⟩ := h
    rfl
  · obtain ⟨v, rfl, hv, q⟩ := h
    refine ⟨_, (pss_one (ps_ret (pe_and (pe_call (ok_is_below T) hr (by rfl) T.g_is_below T.F_is_below.kp T.b_is_below .nil pass0 (pa_cons (pv 0) (pa_cons (pe_op op_add (pe_glob (v := .int 1000000000) (by rfl) T.c_GREATEST_MODULUS ⟨_, rfl⟩) pe_int) pa_nil))) (pe_one (pe_cmpR op_ge (pv 0) pe_int (nomark _)))))), ?_⟩
    walk_at "start"
    walk_at "x"
    refine ⟨v, _, rfl, hv, ?_⟩
    walk_at "x"
    refine x_iteB (fun hb => ?_) (fun hb => ?_)
    · cases hv with
      | int i =>
        have h0 : 0 ≤ i := by
          by_cases h0 : 0 ≤ i
          · exact h0
          · exfalso
            have e : (decide (0 ≤ i) && decide (i < 1000000000 + 1)) = true := hb
            rw [decide_eq_false h0] at e
            cases e
        walk_at "x"
        have e : (isB (.int i) 1000000001 && !isB (.int i) 2) = decide (2 ≤ i) := by
          rw [show isB (.int i) 1000000001 = true from hb]
          show (true && !(decide (0 ≤ i) && decide (i < 2))) = _
          rw [decide_eq_true h0]
          by_cases h2 : 2 ≤ i
          · rw [decide_eq_true h2, decide_eq_false (show ¬ i < 2 by omega)]; rfl
          · rw [decide_eq_false h2, decide_eq_true (show i < 2 by omega)]; rfl
        rw [← e]
        exact q
      | _ => cases hb
    · rw [show isB v 1000000001 = false from hb] at q
      exact q


def sp_are_numbers (K : PySem.W.Frag) : Sp := fun vs H Q _ => ∃ (v : V) (n m : Int), vs = [v, .int n, .int m] ∧
  ((∃ (a : Addr) (xs : List V), v = .ref a ∧ H a = some (.lst xs) ∧ xs.length ≤ 100000 ∧ (∀ x, x ∈ xs → Odd H x) ∧ ∀ H', Same H H' → Q (.bl (decide ((xs.length : Int) = n) && xs.all fun x => isB x m)) H') ∨
   (Odd H v ∧ (∀ (a : Addr) (xs : List V), v = .ref a → H a ≠ some (.lst xs)) ∧ Q (.bl false) H))
theorem getDV {xs : List V} {i : Nat} {x : V} (h : xs[i]? = some x) : xs.getD i .non = x := by rw [List.getD_eq_getElem?_getD, h]; rfl
theorem range_all {xs : List V} {f : V → Bool} : ((List.range xs.length).map fun i => f (xs.getD i .non)).all id = xs.all f := by
  have e : (List.range xs.length).map (fun i => f (xs.getD i .non)) = xs.map f := by
    apply List.ext_getElem?
    intro i
    rw [List.getElem?_map, List.getElem?_map]
    by_cases h : i < xs.length
    · rw [List.getElem?_range h, List.getElem?_eq_getElem h]
      show some (f (xs.getD i .non)) = some (f xs[i])
      rw [getDV (List.getElem?_eq_getElem h)]
    · rw [List.getElem?_eq_none (by simpa using h), List.getElem?_eq_none (by simpa using h)]
      rfl
  rw [e, List.all_map]
  rfl
theorem ok_are_numbers (T : Txt K mg) : FnOk P w K mg base CX0 2 T.a_are_numbers T.fd_are_numbers ["values", "many", "modulus"] (sp_are_numbers K) := by
  refine T.F_are_numbers.ok sc_are_numbers (fun vs H Q E h => ?_) (fun cdv A outer s H vs Q E hr h => ?_)
  · obtain ⟨v, n, m, rfl, _⟩ := h
    rfl
  · obtain ⟨v, n, m, rfl, h⟩ := h
    refine ⟨_, (pss_cons (ps_if (PW.pt (pw_or (pt_not (pt_val (pe_callB (id := "isinstance") (r := rIsi K) call_isi (by rfl) T.m_isinstance (by decide +kernel) (pa_cons (pv 0) (pa_cons (pe_bltn (v := .ty "list") (by rfl) T.m_list (by decide +kernel) rfl) pa_nil))))) (pw_or1 (pt_cmpR op_ne (pe_callB (id := "len") (r := rLen K) cr_len (by rfl) T.m_len PySem.boot_len (pa_cons (pv 0) pa_nil)) (pv 1) (nomark _)))))
      (pss_one (ps_ret pe_bl))
      pss_nil)
      (pss_one (ps_ret (pe_callB (id := "all") (r := rAll K) (cr_all rfl) (by rfl) T.m_all (by decide +kernel) (pa_cons (pe_lc (own := [("value", 3)]) (g := gName 3) (tt := tYes) rfl sc_are_numbers.nd (pi_list (pv 0)) (blkOk_by (N := N_are_numbers) (sc := defScope s_are_numbers) (by decide +kernel)) (fun _ _ _ _ _ => (pg_name (i := 3) sc_are_numbers.nd rfl (Or.inl rfl))) (fun _ _ _ _ _ => pts_nil) (fun _ _ _ _ _ => (pe_call (ok_is_below T) hr (by rfl) T.g_is_below T.F_is_below.kp T.b_is_below .nil pass0 (pa_cons (pv 3) (pa_cons (pv 2) pa_nil))))) pa_nil))))), ?_⟩
    walk_at "start"
    rcases h with ⟨a, xs, rfl, ha, hl, ho, q⟩ | ⟨hv, hno, q⟩
    · walk_at "x"
      walk_at "is"
      walk_at "f"
      refine x_len (sq_of ha) ?_
      walk_at "x"
      refine x_iteN (fun hc => ?_) (fun hc => ?_)
      · walk_at "x"
        have e : (decide ((xs.length : Int) = n) && xs.all fun x => isB x m) = false := by rw [decide_eq_false hc]; rfl
        rw [← e]
        exact q H (Same.refl _)
      · walk_at "x"
        refine x_lcB (xs := xs) (fun i => isB (xs.getD i .non) m) (J := Itl K a) (G := fun H => SqL K H a xs) (fun R r => ⟨_, rfl, a, rfl, ⟨xs, sq_of ha⟩, r⟩) walk_list hl (fun H' s => sq_of (s _ _ ha)) (fun x => rfl) ?_ ?_
        · intro i x H' hs hx R hR
          walk_at "x"
          refine ⟨x, m, rfl, (ho x (List.mem_of_getElem? hx)).same hs, ?_⟩
          rw [← getDV hx]
          exact hR H' (Same.refl _)
        · intro p H' hp hs hP
          walk_at "x"
          refine x_all hP ?_
          rw [range_all (f := fun x => isB x m)]
          have e : (decide ((xs.length : Int) = n) && xs.all fun x => isB x m) = xs.all fun x => isB x m := by rw [decide_eq_true hc]; rfl
          rw [← e]
          exact q H' hs
    · cases hv with
      | int i =>
        walk_at "x"
        walk_at "is"
        walk_at "t"
        exact q
      | bl x =>
        walk_at "x"
        walk_at "is"
        walk_at "t"
        exact q
      | non =>
        walk_at "x"
        walk_at "is"
        walk_at "t"
        exact q
      | str x =>
        walk_at "x"
        walk_at "is"
        walk_at "t"
        exact q
      | tup a xs h =>
        walk_at "x"
        walk_at "is"
        walk_at "t"
        exact q
      | lst a xs h => exact absurd h (hno a xs rfl)



def sp_is_factor (K : PySem.W.Frag) : Sp := fun vs H Q _ => ∃ (a : Addr) (f : Fac) (t c i : Nat), vs = [.ref a, .int (t : Int), .int (c : Int), .int (i : Int)] ∧ FacAt H a f ∧ FacOk c i t f ∧ Q (.bl true) H
theorem ok_is_factor (T : Txt K mg) : FnOk P w K mg base CX0 2 T.a_is_factor T.fd_is_factor ["factor", "target", "cells", "inputs"] (sp_is_factor K) := by
  refine T.F_is_factor.ok sc_is_factor (fun vs H Q E h => ?_) (fun cdv A outer s H vs Q E hr h => ?_)
  · obtain ⟨a, f, t, c, i, rfl, _⟩ := h
    rfl
  · obtain ⟨a, f, t, c, i, rfl, hf, ok, q⟩ := h
    refine ⟨_, (pss_cons (ps_if (pt_not (pt_val (pe_callB (id := "isinstance") (r := rIsi K) call_isi (by rfl) T.m_isinstance (by decide +kernel) (pa_cons (pv 0) (pa_cons (pe_bltn (v := .ty "tuple") (by rfl) T.m_tuple (by decide +kernel) rfl) pa_nil)))))
      (pss_one (ps_ret pe_bl))
      pss_nil)
      (pss_one (ps_match (pv 0) (pcs_seq rfl op_eq (pcap_name 4 sc_is_factor.nd rfl (.inl rfl) pcap_nil)
      (pss_one (ps_ret (pe_and (pe_call (ok_is_below T) hr (by rfl) T.g_is_below T.F_is_below.kp T.b_is_below .nil pass0 (pa_cons (pv 4) (pa_cons (pv 2) pa_nil))) (pe_one (pe_cmpR op_ne (pv 4) (pv 1) (nomark _))))))
      (pcs_seq rfl op_eq (pcap_name 4 sc_is_factor.nd rfl (.inl rfl) pcap_nil)
      (pss_one (ps_ret (pe_call (ok_is_below T) hr (by rfl) T.g_is_below T.F_is_below.kp T.b_is_below .nil pass0 (pa_cons (pv 4) (pa_cons (pv 3) pa_nil)))))
      (pcs_else (rest := _) (pss_one (ps_ret pe_bl)))))))), ?_⟩
    walk_at "start"
    cases f with
    | cell k =>
      have hf : H a = some (.tup [.str "cell", .int (k : Int)]) := hf
      walk_at "x"
      walk_at "is"
      walk_at "f"
      refine x_caseY (st_of hf) rfl ?_
      walk_at "xb"
      refine ⟨_, _, rfl, .int _, ?_⟩
      walk_at "x"
      rw [isB_int (by omega) (by have := ok.1; omega)]
      walk_at "t"
      rw [decide_eq_false (show ¬ (k : Int) = (t : Int) by have := ok.2; omega)]
      exact q
    | inp k =>
      have hf : H a = some (.tup [.str "input", .int (k : Int)]) := hf
      walk_at "x"
      walk_at "is"
      walk_at "f"
      refine x_caseW (st_of hf) rfl (by decide) ?_
      refine x_caseY (st_of hf) rfl ?_
      walk_at "xb"
      refine ⟨_, _, rfl, .int _, ?_⟩
      rw [isB_int (by omega) (by have h : k < i := ok; omega)]
      exact q


def sp_are_factors (K : PySem.W.Frag) : Sp := fun vs H Q _ => ∃ (a : Addr) (as : List Addr) (fs : List Fac) (t c i : Nat), vs = [.ref a, .int (t : Int), .int (c : Int), .int (i : Int)] ∧ H a = some (.tup (as.map V.ref)) ∧ as.length = fs.length ∧ (∀ (k : Nat) x b, fs[k]? = some x → as[k]? = some b → FacAt H b x) ∧
  fs.length ≤ 3 ∧ (∀ f, f ∈ fs → FacOk c i t f) ∧ ∀ H', Same H H' → Q (.bl true) H'
theorem ok_are_factors (T : Txt K mg) : FnOk P w K mg base CX0 3 T.a_are_factors T.fd_are_factors ["factors", "target", "cells", "inputs"] (sp_are_factors K) := by
  refine T.F_are_factors.ok sc_are_factors (fun vs H Q E h => ?_) (fun cdv A outer s H vs Q E hr h => ?_)
  · obtain ⟨a, as, fs, t, c, i, rfl, _⟩ := h
    rfl
  · obtain ⟨a, as, fs, t, c, i, rfl, ha, hl, hf, h3, ok, q⟩ := h
    refine ⟨_, (pss_cons (ps_if (PW.pt (pw_or (pt_not (pt_val (pe_callB (id := "isinstance") (r := rIsi K) call_isi (by rfl) T.m_isinstance (by decide +kernel) (pa_cons (pv 0) (pa_cons (pe_bltn (v := .ty "tuple") (by rfl) T.m_tuple (by decide +kernel) rfl) pa_nil))))) (pw_or1 (pt_cmpR op_gt (pe_callB (id := "len") (r := rLen K) cr_len (by rfl) T.m_len PySem.boot_len (pa_cons (pv 0) pa_nil)) (pe_glob (v := .int 3) (by rfl) T.c_MOST_FACTORS ⟨_, rfl⟩) (nomark _)))))
      (pss_one (ps_ret pe_bl))
      pss_nil)
      (pss_one (ps_ret (pe_callB (id := "all") (r := rAll K) (cr_all rfl) (by rfl) T.m_all (by decide +kernel) (pa_cons (pe_lc (own := [("factor", 4)]) (g := gName 4) (tt := tYes) rfl sc_are_factors.nd (pi_tup (pv 0)) (blkOk_by (N := N_are_factors) (sc := defScope s_are_factors) (by decide +kernel)) (fun _ _ _ _ _ => (pg_name (i := 4) sc_are_factors.nd rfl (Or.inl rfl))) (fun _ _ _ _ _ => pts_nil) (fun _ _ _ _ _ => (pe_call (ok_is_factor T) hr (by rfl) T.g_is_factor T.F_is_factor.kp T.b_is_factor .nil pass0 (pa_cons (pv 4) (pa_cons (pv 1) (pa_cons (pv 2) (pa_cons (pv 3) pa_nil))))))) pa_nil))))), ?_⟩
    walk_at "start"
    walk_at "x"
    walk_at "is"
    walk_at "f"
    refine x_lenT (st_of ha) ?_
    walk_at "x"
    rw [List.length_map, hl, decide_eq_false (show ¬ (3 : Int) < (fs.length : Int) by omega)]
    walk_at "f"
    refine x_lcB (xs := as.map V.ref) (fun _ => true) (J := Itt K a) (G := fun H => SqT K H a (as.map V.ref)) (fun R r => ⟨_, rfl, a, rfl, ⟨_, st_of ha⟩, r⟩) walk_tup (by rw [List.length_map]; omega) (fun H' s => st_of (s _ _ ha)) (fun x => rfl) ?_ ?_
    · intro k x H' hs hx R hR
      obtain ⟨b, hb, rfl⟩ := map_getR hx
      have hk : k < fs.length := by
        have := (List.getElem?_eq_some_iff.mp hb).1
        omega
      walk_at "x"
      exact ⟨b, _, t, c, i, rfl, (hf k _ b (List.getElem?_eq_getElem hk) hb).tups (Tups.same hs), ok _ (List.getElem_mem hk), hR H' (Same.refl _)⟩
    · intro p H' hp hs hP
      walk_at "x"
      refine x_all hP ?_
      rw [all_range fun _ _ => rfl]
      exact q H' hs


def sp_are_three_cells (K : PySem.W.Frag) : Sp := fun vs H Q _ => ∃ (t a b c : Nat), vs = [.int (t : Int), .int (a : Int), .int (b : Int), .int (c : Int)] ∧ t < c ∧ a < c ∧ b < c ∧ t ≠ a ∧ t ≠ b ∧ a ≠ b ∧ ∀ H', Same H H' → Q (.bl true) H'
theorem ok_are_three_cells (T : Txt K mg) : FnOk P w K mg base CX0 2 T.a_are_three_cells T.fd_are_three_cells ["target", "a", "b", "cells"] (sp_are_three_cells K) := by
  refine T.F_are_three_cells.ok sc_are_three_cells (fun vs H Q E h => ?_) (fun cdv A outer s H vs Q E hr h => ?_)
  · obtain ⟨t, a, b, c, rfl, _⟩ := h
    rfl
  · obtain ⟨t, a, b, c, rfl, ht, ha, hb, hta, htb, hab, q⟩ := h
    refine ⟨_, (pss_cons (ps_if (pt_not (pt_val (pe_callB (id := "all") (r := rAll K) (cr_all rfl) (by rfl) T.m_all (by decide +kernel) (pa_cons (pe_lc (own := [("cell", 4)]) (g := gName 4) (tt := tYes) rfl sc_are_three_cells.nd (pi_tup (pe_tup (pa_cons (pv 0) (pa_cons (pv 1) (pa_cons (pv 2) pa_nil))))) (blkOk_by (N := N_are_three_cells) (sc := defScope s_are_three_cells) (by decide +kernel)) (fun _ _ _ _ _ => (pg_name (i := 4) sc_are_three_cells.nd rfl (Or.inl rfl))) (fun _ _ _ _ _ => pts_nil) (fun _ _ _ _ _ => (pe_call (ok_is_below T) hr (by rfl) T.g_is_below T.F_is_below.kp T.b_is_below .nil pass0 (pa_cons (pv 4) (pa_cons (pv 3) pa_nil))))) pa_nil))))
      (pss_one (ps_ret pe_bl))
      pss_nil)
      (pss_one (ps_ret (pe_and (pe_cmpR op_ne (pv 0) (pv 1) (nomark _)) (pe_and (pe_cmpR op_ne (pv 0) (pv 2) (nomark _)) (pe_one (pe_cmpR op_ne (pv 1) (pv 2) (nomark _)))))))), ?_⟩
    walk_at "start"
    walk_at "x"
    refine x_lcB0 (xs := [.int (t : Int), .int (a : Int), .int (b : Int)]) (fun _ => true) (Nat.le_of_ble_eq_true rfl) (fun R hR => ?_) (fun x => rfl) ?_ ?_
    · unfold iTup
      walk_at "x"
      refine ⟨by show 3 ≤ sizeLine; decide, fun o ho => ?_⟩
      exact ⟨o, rfl, ⟨_, st_of upd_same⟩, hR (Itt K o) _ _ (same_upd ho) walk_tup fun H' s => st_of (s _ _ upd_same)⟩
    · intro k x H' hs hx R hR
      have hx' : x = .int (t : Int) ∨ x = .int (a : Int) ∨ x = .int (b : Int) := by
        have := List.mem_of_getElem? hx
        simpa using this
      walk_at "x"
      rcases hx' with rfl | rfl | rfl
      · refine ⟨_, _, rfl, .int _, ?_⟩
        rw [isB_int (by omega) (by omega)]
        exact hR H' (Same.refl _)
      · refine ⟨_, _, rfl, .int _, ?_⟩
        rw [isB_int (by omega) (by omega)]
        exact hR H' (Same.refl _)
      · refine ⟨_, _, rfl, .int _, ?_⟩
        rw [isB_int (by omega) (by omega)]
        exact hR H' (Same.refl _)
    · intro p H' hs hP
      walk_at "x"
      refine x_all hP ?_
      rw [all_range fun _ _ => rfl]
      walk_at "x"
      walk_at "f"
      rw [decide_eq_false (show ¬ (t : Int) = (a : Int) by omega)]
      walk_at "t"
      rw [decide_eq_false (show ¬ (t : Int) = (b : Int) by omega)]
      walk_at "t"
      rw [decide_eq_false (show ¬ (a : Int) = (b : Int) by omega)]
      exact q H' hs


def sp_is_sign (K : PySem.W.Frag) : Sp := fun vs H Q _ => ∃ (s : Int) (m : Nat), vs = [.int s, .int (m : Int)] ∧ 2 ≤ m ∧ (s = 1 ∨ s = (m : Int) - 1) ∧ ∀ H', Same H H' → Q (.bl true) H'
theorem ok_is_sign (T : Txt K mg) : FnOk P w K mg base CX0 2 T.a_is_sign T.fd_is_sign ["sign", "modulus"] (sp_is_sign K) := by
  refine T.F_is_sign.ok sc_is_sign (fun vs H Q E h => ?_) (fun cdv A outer s H vs Q E hr h => ?_)
  · obtain ⟨s, m, rfl, _⟩ := h
    rfl
  · obtain ⟨s, m, rfl, hm, hs, q⟩ := h
    refine ⟨_, (pss_one (ps_ret (pe_and (pe_call (ok_is_below T) hr (by rfl) T.g_is_below T.F_is_below.kp T.b_is_below .nil pass0 (pa_cons (pv 0) (pa_cons (pv 1) pa_nil))) (pe_one (pe_cmpR (r := rIn K false) op_in_seq (pv 0) (pe_tup (pa_cons pe_int (pa_cons (pe_op op_sub (pv 1) pe_int) pa_nil))) (by with_unfolding_all rfl)))))), ?_⟩
    walk_at "start"
    walk_at "x"
    refine ⟨_, _, rfl, .int _, ?_⟩
    rw [isB_int (by omega) (by omega)]
    walk_at "x"
    walk_at "t"
    refine ⟨by show 2 ≤ sizeLine; decide, fun o ho => ?_⟩
    refine ⟨o, [.int 1, .int ((m : Int) - 1)], rfl, .inr (st_of upd_same), rfl, rfl, ?_⟩
    have e : inV (.int s) [.int 1, .int ((m : Int) - 1)] = true := by
      show ((1 : Int) == s || ((m : Int) - 1 == s || false)) = true
      rcases hs with rfl | rfl
      · simp
      · simp
    rw [e]
    exact q _ (same_upd ho)


def sp_is_row (K : PySem.W.Frag) : Sp := fun vs H Q _ => ∃ (a : Addr) (r : List Int) (n m : Nat), vs = [.ref a, .int (n : Int), .int (m : Int)] ∧ H a = some (.tup (r.map V.int)) ∧ r.length = n ∧ n ≤ 1000 ∧ Rg 0 m r ∧ ∀ H', Same H H' → Q (.bl true) H'
theorem ok_is_row (T : Txt K mg) : FnOk P w K mg base CX0 2 T.a_is_row T.fd_is_row ["row", "size", "modulus"] (sp_is_row K) := by
  refine T.F_is_row.ok sc_is_row (fun vs H Q E h => ?_) (fun cdv A outer s H vs Q E hr h => ?_)
  · obtain ⟨a, r, n, m, rfl, _⟩ := h
    rfl
  · obtain ⟨a, r, n, m, rfl, ha, hl, hn, hR, q⟩ := h
    refine ⟨_, (pss_cons (ps_if (PW.pt (pw_or (pt_not (pt_val (pe_callB (id := "isinstance") (r := rIsi K) call_isi (by rfl) T.m_isinstance (by decide +kernel) (pa_cons (pv 0) (pa_cons (pe_bltn (v := .ty "tuple") (by rfl) T.m_tuple (by decide +kernel) rfl) pa_nil))))) (pw_or1 (pt_cmpR op_ne (pe_callB (id := "len") (r := rLen K) cr_len (by rfl) T.m_len PySem.boot_len (pa_cons (pv 0) pa_nil)) (pv 1) (nomark _)))))
      (pss_one (ps_ret pe_bl))
      pss_nil)
      (pss_one (ps_ret (pe_callB (id := "all") (r := rAll K) (cr_all rfl) (by rfl) T.m_all (by decide +kernel) (pa_cons (pe_lc (own := [("value", 3)]) (g := gName 3) (tt := tYes) rfl sc_is_row.nd (pi_tup (pv 0)) (blkOk_by (N := N_is_row) (sc := defScope s_is_row) (by decide +kernel)) (fun _ _ _ _ _ => (pg_name (i := 3) sc_is_row.nd rfl (Or.inl rfl))) (fun _ _ _ _ _ => pts_nil) (fun _ _ _ _ _ => (pe_call (ok_is_below T) hr (by rfl) T.g_is_below T.F_is_below.kp T.b_is_below .nil pass0 (pa_cons (pv 3) (pa_cons (pv 2) pa_nil))))) pa_nil))))), ?_⟩
    walk_at "start"
    walk_at "x"
    walk_at "is"
    walk_at "f"
    refine x_lenT (st_of ha) ?_
    walk_at "x"
    rw [List.length_map, hl, decide_eq_true rfl]
    walk_at "f"
    refine x_lcB (xs := r.map V.int) (fun _ => true) (J := Itt K a) (G := fun H => SqT K H a (r.map V.int)) (fun R r => ⟨_, rfl, a, rfl, ⟨_, st_of ha⟩, r⟩) walk_tup (by rw [List.length_map]; omega) (fun H' s => st_of (s _ _ ha)) (fun x => rfl) ?_ ?_
    · intro k x H' hs hx R hR'
      obtain ⟨z, hz, rfl⟩ := map_get hx
      walk_at "x"
      refine ⟨_, _, rfl, .int _, ?_⟩
      rw [isB_int (hR.get hz).1 (hR.get hz).2]
      exact hR' H' (Same.refl _)
    · intro p H' hp hs hP
      walk_at "x"
      refine x_all hP ?_
      rw [all_range fun _ _ => rfl]
      exact q H' hs


def sp_is_table (K : PySem.W.Frag) : Sp := fun vs H Q _ => ∃ (a : Addr) (tb : List (List Int)) (m : Nat), vs = [.ref a, .int (m : Int)] ∧ TbAt H a tb ∧ IsTab m tb ∧ tb.length ≤ 1000 ∧ ∀ H', Same H H' → Q (.bl true) H'
theorem ok_is_table (T : Txt K mg) : FnOk P w K mg base CX0 3 T.a_is_table T.fd_is_table ["table", "modulus"] (sp_is_table K) := by
  refine T.F_is_table.ok sc_is_table (fun vs H Q E h => ?_) (fun cdv A outer s H vs Q E hr h => ?_)
  · obtain ⟨a, tb, m, rfl, _⟩ := h
    rfl
  · obtain ⟨a, tb, m, rfl, ⟨as, ha, hl, hrow⟩, hI, hn, q⟩ := h
    have h1 := hI.pos
    have h2 := hI.le
    refine ⟨_, (pss_cons (ps_if (PW.pt (pw_or (pt_not (pt_val (pe_callB (id := "isinstance") (r := rIsi K) call_isi (by rfl) T.m_isinstance (by decide +kernel) (pa_cons (pv 0) (pa_cons (pe_bltn (v := .ty "tuple") (by rfl) T.m_tuple (by decide +kernel) rfl) pa_nil))))) (pw_or1 (pt_not (pt_chain op_le op_le pe_int (pe_callB (id := "len") (r := rLen K) cr_len (by rfl) T.m_len PySem.boot_len (pa_cons (pv 0) pa_nil)) (pv 1))))))
      (pss_one (ps_ret pe_bl))
      pss_nil)
      (pss_one (ps_ret (pe_callB (id := "all") (r := rAll K) (cr_all rfl) (by rfl) T.m_all (by decide +kernel) (pa_cons (pe_lc (own := [("row", 2)]) (g := gName 2) (tt := tYes) rfl sc_is_table.nd (pi_tup (pv 0)) (blkOk_by (N := N_is_table) (sc := defScope s_is_table) (by decide +kernel)) (fun _ _ _ _ _ => (pg_name (i := 2) sc_is_table.nd rfl (Or.inl rfl))) (fun _ _ _ _ _ => pts_nil) (fun _ _ _ _ _ => (pe_call (ok_is_row T) hr (by rfl) T.g_is_row T.F_is_row.kp T.b_is_row .nil pass0 (pa_cons (pv 2) (pa_cons (pe_callB (id := "len") (r := rLen K) cr_len (by rfl) T.m_len PySem.boot_len (pa_cons (pv 0) pa_nil)) (pa_cons (pv 1) pa_nil)))))) pa_nil))))), ?_⟩
    walk_at "start"
    walk_at "x"
    walk_at "is"
    walk_at "f"
    refine x_lenT (st_of ha) ?_
    walk_at "x"
    rw [List.length_map, hl, decide_eq_true (show (1 : Int) ≤ (tb.length : Int) by omega)]
    walk_at "t"
    rw [decide_eq_true (show (tb.length : Int) ≤ (m : Int) by omega)]
    walk_at "f"
    refine x_lcB (xs := as.map V.ref) (fun _ => true) (J := Itt K a) (G := fun H => SqT K H a (as.map V.ref)) (fun R r => ⟨_, rfl, a, rfl, ⟨_, st_of ha⟩, r⟩) walk_tup (by rw [List.length_map]; omega) (fun H' s => st_of (s _ _ ha)) (fun x => rfl) ?_ ?_
    · intro k x H' hs hx R hR
      obtain ⟨b, hb, rfl⟩ := map_getR hx
      have hk : k < tb.length := by
        have := (List.getElem?_eq_some_iff.mp hb).1
        omega
      obtain ⟨rl, rR⟩ := hI.rows k _ (List.getElem?_eq_getElem hk)
      walk_at "x"
      refine x_lenT (st_of (hs _ _ ha)) ?_
      walk_at "x"
      rw [List.length_map, hl]
      exact ⟨b, _, tb.length, m, rfl, hs _ _ (hrow k _ b (List.getElem?_eq_getElem hk) hb), rl, hn, rR, fun H2 s2 => hR H2 s2⟩
    · intro p H' hp hs hP
      walk_at "x"
      refine x_all hP ?_
      rw [all_range fun _ _ => rfl]
      exact q H' hs


def sp_is_step (K : PySem.W.Frag) : Sp := fun vs H Q _ => ∃ (a : Addr) (s : Stp) (m c i : Nat), vs = [.ref a, .int (m : Int), .int (c : Int), .int (i : Int)] ∧ StpAt H a s ∧ StpOk m c i s ∧ 2 ≤ m ∧ ∀ H', Same H H' → Q (.bl true) H'
theorem ok_is_step (T : Txt K mg) : FnOk P w K mg base CX0 4 T.a_is_step T.fd_is_step ["step", "modulus", "cells", "inputs"] (sp_is_step K) := by
  refine T.F_is_step.ok sc_is_step (fun vs H Q E h => ?_) (fun cdv A outer s H vs Q E hr h => ?_)
  · obtain ⟨a, s, m, c, i, rfl, _⟩ := h
    rfl
  · obtain ⟨a, s, m, c, i, rfl, hs, ok, hm, q⟩ := h
    refine ⟨_, (pss_cons (ps_if (pt_not (pt_val (pe_callB (id := "isinstance") (r := rIsi K) call_isi (by rfl) T.m_isinstance (by decide +kernel) (pa_cons (pv 0) (pa_cons (pe_bltn (v := .ty "tuple") (by rfl) T.m_tuple (by decide +kernel) rfl) pa_nil)))))
      (pss_one (ps_ret pe_bl))
      pss_nil)
      (pss_one (ps_match (pv 0) (pcs_seq rfl op_eq (pcap_name 4 sc_is_step.nd rfl (.inl rfl) (pcap_name 5 sc_is_step.nd rfl (.inl rfl) (pcap_name 6 sc_is_step.nd rfl (.inl rfl) pcap_nil)))
      (pss_one (ps_ret (pe_and (pe_call (ok_is_below T) (hr.mono (by decide)) (by rfl) T.g_is_below T.F_is_below.kp T.b_is_below .nil pass0 (pa_cons (pv 4) (pa_cons (pv 2) pa_nil))) (pe_and (pe_call (ok_is_below T) (hr.mono (by decide)) (by rfl) T.g_is_below T.F_is_below.kp T.b_is_below .nil pass0 (pa_cons (pv 5) (pa_cons (pv 1) pa_nil))) (pe_one (pe_call (ok_are_factors T) hr (by rfl) T.g_are_factors T.F_are_factors.kp T.b_are_factors .nil pass0 (pa_cons (pv 6) (pa_cons (pv 4) (pa_cons (pv 2) (pa_cons (pv 3) pa_nil))))))))))
      (pcs_seq rfl op_eq (pcap_name 4 sc_is_step.nd rfl (.inl rfl) (pcap_name 7 sc_is_step.nd rfl (.inl rfl) pcap_nil))
      (pss_one (ps_ret (pe_and (pe_call (ok_is_below T) (hr.mono (by decide)) (by rfl) T.g_is_below T.F_is_below.kp T.b_is_below .nil pass0 (pa_cons (pv 4) (pa_cons (pv 2) pa_nil))) (pe_and (pe_call (ok_is_below T) (hr.mono (by decide)) (by rfl) T.g_is_below T.F_is_below.kp T.b_is_below .nil pass0 (pa_cons (pv 7) (pa_cons (pv 1) pa_nil))) (pe_one (pe_cmpR op_eq (pe_callBfun cr_gcd (by rfl) T.m_gcd (pa_cons (pv 7) (pa_cons (pv 1) pa_nil))) pe_int (nomark _)))))))
      (pcs_seq rfl op_eq (pcap_name 8 sc_is_step.nd rfl (.inl rfl) (pcap_name 9 sc_is_step.nd rfl (.inl rfl) pcap_nil))
      (pss_one (ps_ret (pe_and (pe_call (ok_is_below T) (hr.mono (by decide)) (by rfl) T.g_is_below T.F_is_below.kp T.b_is_below .nil pass0 (pa_cons (pv 8) (pa_cons (pv 2) pa_nil))) (pe_and (pe_call (ok_is_below T) (hr.mono (by decide)) (by rfl) T.g_is_below T.F_is_below.kp T.b_is_below .nil pass0 (pa_cons (pv 9) (pa_cons (pv 2) pa_nil))) (pe_one (pe_cmpR op_ne (pv 8) (pv 9) (nomark _)))))))
      (pcs_seq rfl op_eq (pcap_name 4 sc_is_step.nd rfl (.inl rfl) (pcap_name 10 sc_is_step.nd rfl (.inl rfl) (pcap_name 11 sc_is_step.nd rfl (.inl rfl) (pcap_name 8 sc_is_step.nd rfl (.inl rfl) (pcap_name 9 sc_is_step.nd rfl (.inl rfl) pcap_nil)))))
      (pss_one (ps_ret (pe_and (pe_call (ok_are_three_cells T) (hr.mono (by decide)) (by rfl) T.g_are_three_cells T.F_are_three_cells.kp T.b_are_three_cells .nil pass0 (pa_cons (pv 4) (pa_cons (pv 8) (pa_cons (pv 9) (pa_cons (pv 2) pa_nil))))) (pe_and (pe_call (ok_is_sign T) (hr.mono (by decide)) (by rfl) T.g_is_sign T.F_is_sign.kp T.b_is_sign .nil pass0 (pa_cons (pv 10) (pa_cons (pv 1) pa_nil))) (pe_one (pe_call (ok_is_table T) hr (by rfl) T.g_is_table T.F_is_table.kp T.b_is_table .nil pass0 (pa_cons (pv 11) (pa_cons (pv 1) pa_nil))))))))
      (pcs_else (rest := _) (pss_one (ps_ret pe_bl)))))))))), ?_⟩
    walk_at "start"
    cases s with
    | add t k fs =>
      obtain ⟨f, as, h1, h2, h3, h4⟩ := hs
      obtain ⟨o1, o2, o3, o4, o5⟩ := ok
      walk_at "x"
      walk_at "is"
      walk_at "f"
      refine x_caseY (st_of h1) rfl ?_
      walk_at "xb"
      refine ⟨_, _, rfl, .int _, ?_⟩
      rw [isB_int (by omega) (by omega)]
      walk_at "x"
      walk_at "t"
      refine ⟨_, _, rfl, .int _, ?_⟩
      rw [isB_int o2 o3]
      walk_at "x"
      walk_at "t"
      exact ⟨f, as, fs, t, c, i, rfl, h2, h3, h4, o4, o5, q⟩
    | scale t u =>
      have h1 : H a = some (.tup [.str "scale", .int (t : Int), .int u]) := hs
      obtain ⟨o1, o2, o3, o4⟩ := ok
      walk_at "x"
      walk_at "is"
      walk_at "f"
      refine x_caseNo (st_of h1) (Nat.ne_of_beq_eq_false rfl) ?_
      refine x_caseY (st_of h1) rfl ?_
      walk_at "xb"
      refine ⟨_, _, rfl, .int _, ?_⟩
      rw [isB_int (by omega) (by omega)]
      walk_at "x"
      walk_at "t"
      refine ⟨_, _, rfl, .int _, ?_⟩
      rw [isB_int o2 o3]
      walk_at "x"
      walk_at "t"
      refine ⟨u, (m : Int), rfl, ?_⟩
      walk_at "x"
      have e : ((Nat.gcd u.natAbs ((m : Int)).natAbs : Nat) : Int) = 1 := by
        have : Nat.gcd u.natAbs ((m : Int)).natAbs = 1 := o4
        rw [this]; rfl
      rw [e, decide_eq_true rfl]
      exact q H (Same.refl _)
    | swap x y =>
      have h1 : H a = some (.tup [.str "swap", .int (x : Int), .int (y : Int)]) := hs
      obtain ⟨o1, o2, o3⟩ := ok
      walk_at "x"
      walk_at "is"
      walk_at "f"
      refine x_caseNo (st_of h1) (Nat.ne_of_beq_eq_false rfl) ?_
      refine x_caseW (st_of h1) rfl (by decide) ?_
      refine x_caseY (st_of h1) rfl ?_
      walk_at "xb"
      refine ⟨_, _, rfl, .int _, ?_⟩
      rw [isB_int (by omega) (by omega)]
      walk_at "x"
      walk_at "t"
      refine ⟨_, _, rfl, .int _, ?_⟩
      rw [isB_int (by omega) (by omega)]
      walk_at "x"
      walk_at "t"
      rw [decide_eq_false (show ¬ (x : Int) = (y : Int) by omega)]
      exact q H (Same.refl _)
    | tab t g tb x y =>
      obtain ⟨o, h1, h2⟩ := hs
      obtain ⟨o1, o2, o3, o4, o5, o6, o7, o8, o9, o10⟩ := ok
      walk_at "x"
      walk_at "is"
      walk_at "f"
      refine x_caseNo (st_of h1) (Nat.ne_of_beq_eq_false rfl) ?_
      refine x_caseNo (st_of h1) (Nat.ne_of_beq_eq_false rfl) ?_
      refine x_caseNo (st_of h1) (Nat.ne_of_beq_eq_false rfl) ?_
      refine x_caseY (st_of h1) rfl ?_
      walk_at "xb"
      refine ⟨t, x, y, c, rfl, o1, o2, o3, o4, o5, o6, fun H1 s1 => ?_⟩
      walk_at "x"
      walk_at "t"
      refine ⟨g, m, rfl, hm, o7, fun H2 s2 => ?_⟩
      walk_at "x"
      walk_at "t"
      exact ⟨o, tb, m, rfl, (h2.tups (Tups.same s1)).tups (Tups.same s2), o8, o9, fun H3 s3 => q H3 ((s1.trans s2).trans s3)⟩


end
end Br
namespace Br
open PySem PySem.Spec PyProof.Rows L2
local macro_rules | `(tactic| walk_at "x1") => `(tactic| (with_reducible first
  | refine Br.x_seq ?_ | refine Br.x_set ?_ | refine Br.x_asg ?_ | refine Br.x_next ?_ | refine Br.x_ret ?_ | refine Br.x_retN ?_ | refine Br.x_drop ?_ | refine Br.x_if ?_ | refine Br.x_brk ?_ | refine Br.x_cont ?_
  | refine Br.x_c ?_ | refine Br.x_op ?_ | refine Br.x_un ?_ | refine Br.x_I0 ?_ | refine Br.x_U ?_ | refine Br.x_EqI ?_ | refine Br.x_NeI ?_ | refine Br.x_EqB ?_ | refine Br.x_iN ?_ | refine Br.x_int1 ?_ | refine Br.x_min2 ?_ | refine Br.x_max2 ?_ | refine Br.x_nN ?_ | refine Br.x_ifE ?_
  | refine Br.x_test (b := ()) ?_ | refine Br.x_tB ?_ | refine Br.x_bl ?_ | refine Br.x_and ?_ | refine Br.x_or ?_ | refine Br.x_not ?_ | refine Br.x_andV ?_ | refine Br.x_orV ?_ | refine Br.x_notV ?_ | refine Br.x_blP ?_
  | refine Br.x_nil ?_ | refine Br.x_cons ?_ | refine Br.x_call ?_ | refine Br.x_CB ?_ | refine Br.x_BM ?_ | refine Br.x_tup ?_ | refine Br.x_lst ?_ | refine Br.x_chain ?_ | refine Br.x_par ?_ | refine Br.x_gSub ?_ | refine Br.x_gName ?_ | refine Br.x_fld ?_ | refine Br.x_fldS ?_ | refine Br.x_match ?_ | refine Br.x_else ?_ | refine Br.x_noCase ?_))
local macro_rules | `(tactic| walk_at "xv") => `(tactic| ((with_reducible refine' Br.x_var ?hvar ?_); (case hvar => rfl)))
local macro_rules | `(tactic| walk_at "xd") => `(tactic| (dsimp only [List.set_cons_zero, List.set_cons_succ, List.cons_append, List.nil_append, List.append_nil]))
local macro_rules | `(tactic| walk_at "xi") => `(tactic| ((with_reducible refine Br.x_I ?hside ?_); (case hside => first | exact Br.mul_r (by decide) (by decide) | exact Br.mul_l (by decide) (by decide) | exact Br.mul_l (by omega) (by omega) | exact Br.mul_r (by omega) (by omega) | (show (0 : Int) < _; first | decide | omega) | exact ⟨by decide, by decide⟩ | exact ⟨by omega, by omega⟩ | exact ⟨by decide, by decide, by decide⟩)))
local macro_rules | `(tactic| walk_at "x") => `(tactic| (repeat (first | walk_at "x1" | walk_at "xv" | walk_at "xi" | walk_at "xd")))
local macro_rules | `(tactic| walk_at "start") => `(tactic| (simp only [L2.start, List.map_cons, List.map_nil, List.length_cons, List.length_nil, Nat.reduceAdd, Nat.reduceSub, List.replicate, List.cons_append, List.nil_append, List.append_nil]))
local macro_rules | `(tactic| walk_at "isi") => `(tactic| first
  | refine Br.x_isi (b := true) (.base (.int _)) (by decide +kernel) ?_ | refine Br.x_isi (b := false) (.base (.int _)) (by decide +kernel) ?_
  | refine Br.x_isi (b := true) (.base (.bl _)) (by decide +kernel) ?_ | refine Br.x_isi (b := false) (.base (.bl _)) (by decide +kernel) ?_
  | refine Br.x_isi (b := false) (.base .non) (by decide +kernel) ?_
  | refine Br.x_isi (b := true) (.base (.str _)) (by decide +kernel) ?_ | refine Br.x_isi (b := false) (.base (.str _)) (by decide +kernel) ?_
  | refine Br.x_isi (b := true) (.base (.tup (by assumption))) (by decide +kernel) ?_ | refine Br.x_isi (b := false) (.base (.tup (by assumption))) (by decide +kernel) ?_
  | refine Br.x_isi (b := true) (.base (.lst (by assumption))) (by decide +kernel) ?_ | refine Br.x_isi (b := false) (.base (.lst (by assumption))) (by decide +kernel) ?_)
local macro_rules | `(tactic| walk_at "f") => `(tactic| (refine L2.iteF ?_; walk_at "x"))
local macro_rules | `(tactic| walk_at "t") => `(tactic| (refine L2.iteT ?_; walk_at "x"))
local macro_rules | `(tactic| walk_at "is") => `(tactic| (walk_at "isi"; walk_at "x"))
local macro_rules | `(tactic| walk_at "xb") => `(tactic| (simp only [Br.bindS, List.set_cons_zero, List.set_cons_succ]; walk_at "x"))

section
variable {P : Program} {w : World} {K : PySem.W.Frag} {mg : Str → Option Value} {base : Heap}

open Br.F

def sp_product_of (K : PySem.W.Frag) : Sp := fun vs H Q _ => ∃ (f mo io : Addr) (as : List Addr) (fs : List Fac) (t c i m : Nat) (mv iv : List Int), vs = [.ref f, .ref mo, .ref io, .int (m : Int)] ∧ H f = some (.tup (as.map V.ref)) ∧ as.length = fs.length ∧ (∀ (k : Nat) x b, fs[k]? = some x → as[k]? = some b → FacAt H b x) ∧
  (∀ x, x ∈ fs → FacOk c i t x) ∧ H mo = some (.lst (mv.map V.int)) ∧ H io = some (.lst (iv.map V.int)) ∧ Mem m c mv ∧ Mem m i iv ∧ 2 ≤ m ∧ m ≤ 1000000000 ∧ ∀ r : Int, 0 ≤ r → r < m → (m : Int) ∣ r - prodV mv iv fs → Q (.int r) H
theorem prodV_snoc {mv iv : List Int} {f : Fac} : ∀ {fs : List Fac}, prodV mv iv (fs ++ [f]) = prodV mv iv fs * facV mv iv f
  | [] => by show facV mv iv f * 1 = 1 * facV mv iv f; rw [Int.mul_one, Int.one_mul]
  | x :: fs => by
    show facV mv iv x * prodV mv iv (fs ++ [f]) = facV mv iv x * prodV mv iv fs * facV mv iv f
    rw [prodV_snoc, Int.mul_assoc]
theorem ok_product_of (T : Txt K mg) : FnOk P w K mg base CX0 1 T.a_product_of T.fd_product_of ["factors", "memory", "given", "modulus"] (sp_product_of K) := by
  refine T.F_product_of.ok sc_product_of (fun vs H Q E h => ?_) (fun cdv A outer s H vs Q E hr h => ?_)
  · obtain ⟨f, mo, io, as, fs, t, c, i, m, mv, iv, rfl, _⟩ := h
    rfl
  · obtain ⟨f, mo, io, as, fs, t, c, i, m, mv, iv, rfl, hf, hl, hfa, ok, hm, hi, mm, mi, m2, m9, q⟩ := h
    refine ⟨_, (pss_cons (ps_set (i := 4) sc_product_of.nd rfl (.inl rfl) pe_int)
      (pss_cons (ps_for PassesOwn.never rfl (pi_tup (pv 0)) (pg_tup rfl (pgs_cons (pg_name (i := 5) sc_product_of.nd rfl (Or.inl rfl)) (pgs_cons (pg_name (i := 6) sc_product_of.nd rfl (Or.inl rfl)) pgs_nil)))
      (pss_cons (ps_set (i := 7) sc_product_of.nd rfl (.inl rfl) (pe_ifExp (pt_cmpR op_eq (pv 5) pe_str (nomark _)) (pe_ix (r := rIxL K) ix_list (pv 1) (pv 6) (fun _ _ => rfl)) (pe_ix (r := rIxL K) ix_list (pv 2) (pv 6) (fun _ _ => rfl))))
      (pss_one (ps_set (i := 4) sc_product_of.nd rfl (.inl rfl) (pe_op op_mod (pe_op op_mul (pv 4) (pv 7)) (pv 3))))))
      (pss_one (ps_ret (pv 4))))), ?_⟩
    walk_at "start"
    walk_at "x"
    refine x_forI (J := Itt K f) (n := (as.map V.ref).length) (G := fun H => SqT K H f (as.map V.ref)) (fun R r => ⟨_, rfl, f, rfl, ⟨_, st_of hf⟩, r⟩) walk_tup (fun k σ' H' => H = H' ∧ ∃ r v5 v6 v7, σ' = [some (.ref f), some (.ref mo), some (.ref io), some (.int (m : Int)), some (.int r), v5, v6, v7] ∧ 0 ≤ r ∧ r < m ∧ (m : Int) ∣ r - prodV mv iv (fs.take k))
      ⟨rfl, 1, _, _, _, rfl, by decide, by omega, 0, rfl⟩ (fun k σ' H' _ z => by rw [← z.1]; exact st_of hf) ?_ ?_
    · rintro k x σ' H' H2 hk ⟨rfl, r, v5, v6, v7, rfl, r0, r1, rd⟩ ⟨rfl, hx⟩
      obtain ⟨b, hb, rfl⟩ := map_getR hx
      have hk : k < fs.length := by
        have := (List.getElem?_eq_some_iff.mp hb).1
        omega
      obtain ⟨y, hy⟩ : ∃ y, fs[k]? = some y := ⟨_, List.getElem?_eq_getElem hk⟩
      have oky := ok y (List.mem_of_getElem? hy)
      have hfy := hfa k y b hy hb
      have fin : ∀ z : Int, z = facV mv iv y → (m : Int) ∣ r * z % m - prodV mv iv (fs.take (k + 1)) := fun z hz => by
        rw [take_snoc hy, prodV_snoc, ← hz]
        exact dvd_step rd
      cases y with
      | cell j =>
        have hfy : H2 b = some (.tup [.str "cell", .int (j : Int)]) := hfy
        obtain ⟨z, gz, ez, z0, z1⟩ := mm.get oky.1
        refine x_gTup2 (st_of hfy) ?_
        walk_at "x"
        refine x_Eq rfl ?_
        walk_at "x"
        rw [decide_eq_true rfl]
        walk_at "t"
        refine x_ixL (v := .int z) (sq_of hm) (atI_nat (by rw [List.getElem?_map, gz]; rfl)) ?_
        walk_at "x"
        exact ⟨rfl, _, _, _, _, rfl, Int.emod_nonneg _ (by omega), Int.emod_lt_of_pos _ (by omega), fin z ez.symm⟩
      | inp j =>
        have hfy : H2 b = some (.tup [.str "input", .int (j : Int)]) := hfy
        obtain ⟨z, gz, ez, z0, z1⟩ := mi.get (show j < i from oky)
        refine x_gTup2 (st_of hfy) ?_
        walk_at "x"
        refine x_Eq rfl ?_
        walk_at "x"
        rw [decide_eq_false (by decide)]
        walk_at "f"
        refine x_ixL (v := .int z) (sq_of hi) (atI_nat (by rw [List.getElem?_map, gz]; rfl)) ?_
        walk_at "x"
        exact ⟨rfl, _, _, _, _, rfl, Int.emod_nonneg _ (by omega), Int.emod_lt_of_pos _ (by omega), fin z ez.symm⟩
    · rintro σ' H' ⟨rfl, r, v5, v6, v7, rfl, r0, r1, rd⟩
      walk_at "x"
      refine q r r0 r1 ?_
      rw [List.length_map, hl, List.take_length] at rd
      exact rd


/-- pairs of a cell and its new content -/
def ChAt (H : Hp) (l : Addr) (cs : List (Nat × Int)) : Prop := ∃ as : List Addr, H l = some (.lst (as.map V.ref)) ∧ as.length = cs.length ∧ ∀ (i : Nat) (x : Nat × Int) b, cs[i]? = some x → as[i]? = some b → H b = some (.tup [.int (x.1 : Int), .int x.2])
def applyC (cs : List (Nat × Int)) (mv : List Int) : List Int := cs.foldl (fun m x => m.set x.1 x.2) mv
def sp_changes (K : PySem.W.Frag) : Sp := fun vs H Q _ => ∃ (a mo io : Addr) (s : Stp) (c i m : Nat) (mv iv : List Int), vs = [.ref a, .ref mo, .ref io, .int (m : Int)] ∧ StpAt H a s ∧ StpOk m c i s ∧ H mo = some (.lst (mv.map V.int)) ∧ H io = some (.lst (iv.map V.int)) ∧ Mem m c mv ∧ Mem m i iv ∧ 2 ≤ m ∧ m ≤ 1000000000 ∧
  ∀ (l : Addr) (cs : List (Nat × Int)) (H' : Hp), H l = none → Same H H' → ChAt H' l cs → applyC cs mv = stepF m iv mv s → cs.length ≤ 2 → (∀ x, x ∈ cs → x.1 < c) → Q (.ref l) H'
theorem ch_one {H : Hp} {p l : Addr} {t : Nat} {z : Int} (hp : H p = none) (hl : (L2.upd H p (.tup [.int (t : Int), .int z])) l = none) : Same H (L2.upd (L2.upd H p (.tup [.int (t : Int), .int z])) l (.lst [.ref p])) ∧ ChAt (L2.upd (L2.upd H p (.tup [.int (t : Int), .int z])) l (.lst [.ref p])) l [(t, z)] := by
  refine ⟨(same_upd hp).trans (same_upd hl), [p], upd_same, rfl, fun i x b e1 e2 => ?_⟩
  match i, e1, e2 with
  | 0, e1, e2 =>
    cases e1
    cases e2
    rw [upd_ne (ne_of_none upd_same hl), upd_same]
  | i + 1, e1, _ => simp at e1
theorem mod_cong {m : Nat} {a b c r : Int} (h : (m : Int) ∣ r - c) : (a + b * r) % m = (a + b * c) % m := by
  refine Int.emod_eq_emod_iff_emod_sub_eq_zero.mpr (Int.emod_eq_zero_of_dvd ?_)
  obtain ⟨k, hk⟩ := h
  refine ⟨b * k, ?_⟩
  have e : r = c + m * k := by omega
  rw [e]
  grind
theorem ok_changes (T : Txt K mg) : FnOk P w K mg base CX0 4 T.a_changes T.fd_changes ["step", "memory", "given", "modulus"] (sp_changes K) := by
  refine T.F_changes.ok sc_changes (fun vs H Q E h => ?_) (fun cdv A outer s H vs Q E hr h => ?_)
  · obtain ⟨a, mo, io, s, c, i, m, mv, iv, rfl, _⟩ := h
    rfl
  · obtain ⟨a, mo, io, s, c, i, m, mv, iv, rfl, hs, ok, hm, hi, mm, mi, m2, m9, q⟩ := h
    refine ⟨_, (pss_one (ps_match (pv 0) (pcs_seq rfl op_eq (pcap_name 4 sc_changes.nd rfl (.inl rfl) (pcap_name 5 sc_changes.nd rfl (.inl rfl) (pcap_name 6 sc_changes.nd rfl (.inl rfl) pcap_nil)))
      (pss_cons (ps_set (i := 7) sc_changes.nd rfl (.inl rfl) (pe_op op_mul (pv 5) (pe_call (ok_product_of T) (hr.mono (by decide)) (by rfl) T.g_product_of T.F_product_of.kp T.b_product_of .nil pass0 (pa_cons (pv 6) (pa_cons (pv 1) (pa_cons (pv 2) (pa_cons (pv 3) pa_nil)))))))
      (pss_one (ps_ret (pe_lst (pa_cons (pe_tup (pa_cons (pv 4) (pa_cons (pe_op op_mod (pe_op op_add (pe_ix (r := rIxL K) ix_list (pv 1) (pv 4) (fun _ _ => rfl)) (pv 7)) (pv 3)) pa_nil))) pa_nil)))))
      (pcs_seq rfl op_eq (pcap_name 4 sc_changes.nd rfl (.inl rfl) (pcap_name 8 sc_changes.nd rfl (.inl rfl) pcap_nil))
      (pss_one (ps_ret (pe_lst (pa_cons (pe_tup (pa_cons (pv 4) (pa_cons (pe_op op_mod (pe_op op_mul (pe_ix (r := rIxL K) ix_list (pv 1) (pv 4) (fun _ _ => rfl)) (pv 8)) (pv 3)) pa_nil))) pa_nil))))
      (pcs_seq rfl op_eq (pcap_name 9 sc_changes.nd rfl (.inl rfl) (pcap_name 10 sc_changes.nd rfl (.inl rfl) pcap_nil))
      (pss_one (ps_ret (pe_lst (pa_cons (pe_tup (pa_cons (pv 9) (pa_cons (pe_ix (r := rIxL K) ix_list (pv 1) (pv 10) (fun _ _ => rfl)) pa_nil))) (pa_cons (pe_tup (pa_cons (pv 10) (pa_cons (pe_ix (r := rIxL K) ix_list (pv 1) (pv 9) (fun _ _ => rfl)) pa_nil))) pa_nil)))))
      (pcs_seq rfl op_eq (pcap_name 4 sc_changes.nd rfl (.inl rfl) (pcap_name 11 sc_changes.nd rfl (.inl rfl) (pcap_name 12 sc_changes.nd rfl (.inl rfl) (pcap_name 9 sc_changes.nd rfl (.inl rfl) (pcap_name 10 sc_changes.nd rfl (.inl rfl) pcap_nil)))))
      (pss_cons (ps_set (i := 7) sc_changes.nd rfl (.inl rfl) (pe_op op_mul (pv 11) (pe_call (ok_interpolate T) hr (by rfl) T.g_interpolate T.F_interpolate.kp T.b_interpolate .nil pass0 (pa_cons (pv 12) (pa_cons (pv 3) (pa_cons (pe_ix (r := rIxL K) ix_list (pv 1) (pv 9) (fun _ _ => rfl)) (pa_cons (pe_ix (r := rIxL K) ix_list (pv 1) (pv 10) (fun _ _ => rfl)) pa_nil)))))))
      (pss_one (ps_ret (pe_lst (pa_cons (pe_tup (pa_cons (pv 4) (pa_cons (pe_op op_mod (pe_op op_add (pe_ix (r := rIxL K) ix_list (pv 1) (pv 4) (fun _ _ => rfl)) (pv 7)) (pv 3)) pa_nil))) pa_nil)))))
      pcs_nil)))))), ?_⟩
    walk_at "start"
    cases s with
    | add t k fs =>
      obtain ⟨f, as, h1, h2, h3, h4⟩ := hs
      obtain ⟨o1, o2, o3, o4, o5⟩ := ok
      obtain ⟨z, gz, ez, z0, z1⟩ := mm.get o1
      walk_at "x"
      refine x_caseY (st_of h1) rfl ?_
      walk_at "xb"
      refine ⟨f, mo, io, as, fs, t, c, i, m, mv, iv, rfl, h2, h3, h4, o5, hm, hi, mm, mi, m2, m9, fun r r0 r1 rd => ?_⟩
      walk_at "x"
      refine x_ixL (v := .int z) (sq_of hm) (atI_nat (by rw [List.getElem?_map, gz]; rfl)) ?_
      walk_at "x"
      refine ⟨by show 2 ≤ sizeLine; decide, fun p hp => ?_⟩
      walk_at "x"
      refine ⟨by show 1 ≤ sizeLine; decide, fun l hl => ?_⟩
      obtain ⟨sm, ch⟩ := ch_one hp hl
      refine q l _ _ ((same_upd hp).free hl) sm ch ?_ (Nat.le_of_ble_eq_true rfl) (fun x hx => by rw [List.mem_singleton.mp hx]; exact o1)
      show mv.set t ((z + k * r) % m) = mv.set t ((mv.getD t 0 + k * prodV mv iv fs) % m)
      rw [ez, mod_cong rd]
    | scale t u =>
      have h1 : H a = some (.tup [.str "scale", .int (t : Int), .int u]) := hs
      obtain ⟨o1, o2, o3, o4⟩ := ok
      obtain ⟨z, gz, ez, z0, z1⟩ := mm.get o1
      walk_at "x"
      refine x_caseNo (st_of h1) (Nat.ne_of_beq_eq_false rfl) ?_
      refine x_caseY (st_of h1) rfl ?_
      walk_at "xb"
      refine x_ixL (v := .int z) (sq_of hm) (atI_nat (by rw [List.getElem?_map, gz]; rfl)) ?_
      walk_at "x"
      refine ⟨by show 2 ≤ sizeLine; decide, fun p hp => ?_⟩
      walk_at "x"
      refine ⟨by show 1 ≤ sizeLine; decide, fun l hl => ?_⟩
      obtain ⟨sm, ch⟩ := ch_one hp hl
      refine q l _ _ ((same_upd hp).free hl) sm ch ?_ (Nat.le_of_ble_eq_true rfl) (fun x hx => by rw [List.mem_singleton.mp hx]; exact o1)
      show mv.set t (z * u % m) = mv.set t (mv.getD t 0 * u % m)
      rw [ez]
    | swap x y =>
      have h1 : H a = some (.tup [.str "swap", .int (x : Int), .int (y : Int)]) := hs
      obtain ⟨o1, o2, o3⟩ := ok
      obtain ⟨zx, gzx, ezx, _⟩ := mm.get o1
      obtain ⟨zy, gzy, ezy, _⟩ := mm.get o2
      walk_at "x"
      refine x_caseNo (st_of h1) (Nat.ne_of_beq_eq_false rfl) ?_
      refine x_caseW (st_of h1) rfl (by decide) ?_
      refine x_caseY (st_of h1) rfl ?_
      walk_at "xb"
      refine x_ixL (v := .int zy) (sq_of hm) (atI_nat (by rw [List.getElem?_map, gzy]; rfl)) ?_
      walk_at "x"
      refine ⟨by show 2 ≤ sizeLine; decide, fun p hp => ?_⟩
      walk_at "x"
      have hm1 := (same_upd (o := .tup [.int (x : Int), .int zy]) hp) _ _ hm
      refine x_ixL (v := .int zx) (sq_of hm1) (atI_nat (by rw [List.getElem?_map, gzx]; rfl)) ?_
      walk_at "x"
      refine ⟨by show 2 ≤ sizeLine; decide, fun p2 hp2 => ?_⟩
      walk_at "x"
      refine ⟨by show 2 ≤ sizeLine; decide, fun l hl => ?_⟩
      have s2 := (same_upd (o := .tup [.int (x : Int), .int zy]) hp).trans (same_upd (o := .tup [.int (y : Int), .int zx]) hp2)
      refine q l [(x, zy), (y, zx)] _ (s2.free hl) (s2.trans (same_upd hl)) ⟨[p, p2], upd_same, rfl, fun i w b e1 e2 => ?_⟩ ?_ (Nat.le_of_ble_eq_true rfl) (fun w hw => by
        have e : w = (x, zy) ∨ w = (y, zx) := by simpa using hw
        rcases e with rfl | rfl
        · exact o1
        · exact o2)
      · have hpl : (upd (upd H p (.tup [.int (x : Int), .int zy])) p2 (.tup [.int (y : Int), .int zx])) p = some (.tup [.int (x : Int), .int zy]) := same_upd hp2 _ _ upd_same
        match i, e1, e2 with
        | 0, e1, e2 =>
          cases e1
          cases e2
          exact same_upd hl _ _ hpl
        | 1, e1, e2 =>
          cases e1
          cases e2
          exact same_upd hl _ _ upd_same
        | i + 2, e1, _ => simp at e1
      · show (mv.set x zy).set y zx = (mv.set x (mv.getD y 0)).set y (mv.getD x 0)
        rw [ezx, ezy]
    | tab t g tb x y =>
      obtain ⟨o, h1, as, ht1, ht2, ht3⟩ := hs
      obtain ⟨o1, o2, o3, o4, o5, o6, o7, o8, o9, o10⟩ := ok
      obtain ⟨z, gz, ez, z0, z1⟩ := mm.get o1
      obtain ⟨zx, gzx, ezx, zx0, zx1⟩ := mm.get o2
      obtain ⟨zy, gzy, ezy, zy0, zy1⟩ := mm.get o3
      walk_at "x"
      refine x_caseNo (st_of h1) (Nat.ne_of_beq_eq_false rfl) ?_
      refine x_caseNo (st_of h1) (Nat.ne_of_beq_eq_false rfl) ?_
      refine x_caseNo (st_of h1) (Nat.ne_of_beq_eq_false rfl) ?_
      refine x_caseY (st_of h1) rfl ?_
      walk_at "xb"
      refine x_ixL (v := .int zx) (sq_of hm) (atI_nat (by rw [List.getElem?_map, gzx]; rfl)) ?_
      walk_at "x"
      refine x_ixL (v := .int zy) (sq_of hm) (atI_nat (by rw [List.getElem?_map, gzy]; rfl)) ?_
      walk_at "x"
      refine ⟨o, m, zx, zy, tb, rfl, ⟨as, st_of ht1, ht2, fun i r b e1 e2 => st_of (ht3 i r b e1 e2)⟩, o8, o9, o10, m9, zx0, zx1, zy0, zy1, fun v H1 hv v0 v1 s1 => ?_⟩
      have ev := hv.uniq o10 o8.le (ItpV.ok o10 o8.le)
      walk_at "x"
      refine x_ixL (v := .int z) (sq_of (s1 _ _ hm)) (atI_nat (by rw [List.getElem?_map, gz]; rfl)) ?_
      walk_at "x"
      refine ⟨by show 2 ≤ sizeLine; decide, fun p hp => ?_⟩
      walk_at "x"
      refine ⟨by show 1 ≤ sizeLine; decide, fun l hl => ?_⟩
      obtain ⟨sm, ch⟩ := ch_one hp hl
      refine q l _ _ (s1.free ((same_upd hp).free hl)) (s1.trans sm) ch ?_ (Nat.le_of_ble_eq_true rfl) (fun w hw => by rw [List.mem_singleton.mp hw]; exact o1)
      show mv.set t ((z + g * v) % m) = mv.set t ((mv.getD t 0 + g * ItpV m tb (mv.getD x 0) (mv.getD y 0)) % m)
      rw [ez, ezx, ezy, ev]


end
end Br
namespace Br
open PySem PySem.Spec PyProof.Rows L2
local macro_rules | `(tactic| walk_at "x1") => `(tactic| (with_reducible first
  | refine Br.x_seq ?_ | refine Br.x_set ?_ | refine Br.x_asg ?_ | refine Br.x_next ?_ | refine Br.x_ret ?_ | refine Br.x_retN ?_ | refine Br.x_drop ?_ | refine Br.x_if ?_ | refine Br.x_brk ?_ | refine Br.x_cont ?_
  | refine Br.x_c ?_ | refine Br.x_op ?_ | refine Br.x_un ?_ | refine Br.x_I0 ?_ | refine Br.x_U ?_ | refine Br.x_EqI ?_ | refine Br.x_NeI ?_ | refine Br.x_EqB ?_ | refine Br.x_iN ?_ | refine Br.x_int1 ?_ | refine Br.x_min2 ?_ | refine Br.x_max2 ?_ | refine Br.x_nN ?_ | refine Br.x_ifE ?_
  | refine Br.x_test (b := ()) ?_ | refine Br.x_tB ?_ | refine Br.x_bl ?_ | refine Br.x_and ?_ | refine Br.x_or ?_ | refine Br.x_not ?_ | refine Br.x_andV ?_ | refine Br.x_orV ?_ | refine Br.x_notV ?_ | refine Br.x_blP ?_
  | refine Br.x_nil ?_ | refine Br.x_cons ?_ | refine Br.x_call ?_ | refine Br.x_CB ?_ | refine Br.x_BM ?_ | refine Br.x_tup ?_ | refine Br.x_lst ?_ | refine Br.x_chain ?_ | refine Br.x_par ?_ | refine Br.x_gSub ?_ | refine Br.x_gName ?_ | refine Br.x_fld ?_ | refine Br.x_fldS ?_ | refine Br.x_match ?_ | refine Br.x_else ?_ | refine Br.x_noCase ?_))
local macro_rules | `(tactic| walk_at "xv") => `(tactic| ((with_reducible refine' Br.x_var ?hvar ?_); (case hvar => rfl)))
local macro_rules | `(tactic| walk_at "xd") => `(tactic| (dsimp only [List.set_cons_zero, List.set_cons_succ, List.cons_append, List.nil_append, List.append_nil]))
local macro_rules | `(tactic| walk_at "xi") => `(tactic| ((with_reducible refine Br.x_I ?hside ?_); (case hside => first | exact Br.mul_r (by decide) (by decide) | exact Br.mul_l (by decide) (by decide) | exact Br.mul_l (by omega) (by omega) | exact Br.mul_r (by omega) (by omega) | (show (0 : Int) < _; first | decide | omega) | exact ⟨by decide, by decide⟩ | exact ⟨by omega, by omega⟩ | exact ⟨by decide, by decide, by decide⟩)))
local macro_rules | `(tactic| walk_at "x") => `(tactic| (repeat (first | walk_at "x1" | walk_at "xv" | walk_at "xi" | walk_at "xd")))
local macro_rules | `(tactic| walk_at "start") => `(tactic| (simp only [L2.start, List.map_cons, List.map_nil, List.length_cons, List.length_nil, Nat.reduceAdd, Nat.reduceSub, List.replicate, List.cons_append, List.nil_append, List.append_nil]))
local macro_rules | `(tactic| walk_at "isi") => `(tactic| first
  | refine Br.x_isi (b := true) (.base (.int _)) (by decide +kernel) ?_ | refine Br.x_isi (b := false) (.base (.int _)) (by decide +kernel) ?_
  | refine Br.x_isi (b := true) (.base (.bl _)) (by decide +kernel) ?_ | refine Br.x_isi (b := false) (.base (.bl _)) (by decide +kernel) ?_
  | refine Br.x_isi (b := false) (.base .non) (by decide +kernel) ?_
  | refine Br.x_isi (b := true) (.base (.str _)) (by decide +kernel) ?_ | refine Br.x_isi (b := false) (.base (.str _)) (by decide +kernel) ?_
  | refine Br.x_isi (b := true) (.base (.tup (by assumption))) (by decide +kernel) ?_ | refine Br.x_isi (b := false) (.base (.tup (by assumption))) (by decide +kernel) ?_
  | refine Br.x_isi (b := true) (.base (.lst (by assumption))) (by decide +kernel) ?_ | refine Br.x_isi (b := false) (.base (.lst (by assumption))) (by decide +kernel) ?_)
local macro_rules | `(tactic| walk_at "f") => `(tactic| (refine L2.iteF ?_; walk_at "x"))
local macro_rules | `(tactic| walk_at "t") => `(tactic| (refine L2.iteT ?_; walk_at "x"))
local macro_rules | `(tactic| walk_at "is") => `(tactic| (walk_at "isi"; walk_at "x"))
local macro_rules | `(tactic| walk_at "xb") => `(tactic| (simp only [Br.bindS, List.set_cons_zero, List.set_cons_succ]; walk_at "x"))

section
variable {P : Program} {w : World} {K : PySem.W.Frag} {mg : Str → Option Value} {base : Heap}

open Br.F
theorem prime_I {m : Nat} (h : IsPrime m) : PrimeI (m : Int) := by
  refine ⟨by have := h.1; omega, fun d h2 hd he => ?_⟩
  obtain ⟨n, rfl⟩ : ∃ n : Nat, d = (n : Int) := ⟨d.toNat, by omega⟩
  have hdv : n ∣ m := Int.ofNat_dvd.mp (Int.dvd_of_emod_eq_zero he)
  rcases h.2 n hdv with e | e
  · omega
  · subst e
    have : (2 : Int) * n ≤ n * n := Int.mul_le_mul_of_nonneg_right h2 (by omega)
    omega

def sp_check_sizes (K : PySem.W.Frag) : Sp := fun vs H Q _ => ∃ (m c i : Nat), vs = [.int (m : Int), .int (c : Int), .int (i : Int)] ∧ 2 ≤ m ∧ m ≤ 1000000000 ∧ 1 ≤ c ∧ c ≤ 60 ∧ i ≤ 60 ∧ Q .non H
theorem ok_check_sizes (T : Txt K mg) : FnOk P w K mg base CX0 3 T.a_check_sizes T.fd_check_sizes ["modulus", "cells", "inputs"] (sp_check_sizes K) := by
  refine T.F_check_sizes.ok sc_check_sizes (fun vs H Q E h => ?_) (fun cdv A outer s H vs Q E hr h => ?_)
  · obtain ⟨m, c, i, rfl, _⟩ := h
    rfl
  · obtain ⟨m, c, i, rfl, m2, m9, c1, c60, i60, q⟩ := h
    refine ⟨_, (pss_cons (ps_if (pt_not (pt_val (pe_call (ok_is_modulus T) hr (by rfl) T.g_is_modulus T.F_is_modulus.kp T.b_is_modulus .nil pass0 (pa_cons (pv 0) pa_nil))))
      (pss_one ps_never)
      pss_nil)
      (pss_cons (ps_if (PW.pt (pw_or (pt_not (pt_val (pe_call (ok_is_below T) (hr.mono (by decide)) (by rfl) T.g_is_below T.F_is_below.kp T.b_is_below .nil pass0 (pa_cons (pv 1) (pa_cons (pe_op op_add (pe_glob (v := .int 60) (by rfl) T.c_MOST_CELLS ⟨_, rfl⟩) pe_int) pa_nil))))) (pw_or1 (pt_cmpR op_eq (pv 1) pe_int (nomark _)))))
      (pss_one ps_never)
      pss_nil)
      (pss_one (ps_if (pt_not (pt_val (pe_call (ok_is_below T) (hr.mono (by decide)) (by rfl) T.g_is_below T.F_is_below.kp T.b_is_below .nil pass0 (pa_cons (pv 2) (pa_cons (pe_op op_add (pe_glob (v := .int 60) (by rfl) T.c_MOST_INPUTS ⟨_, rfl⟩) pe_int) pa_nil)))))
      (pss_one ps_never)
      pss_nil)))), ?_⟩
    walk_at "start"
    walk_at "x"
    refine ⟨_, rfl, .int _, ?_⟩
    have e : (isB (.int (m : Int)) 1000000001 && !isB (.int (m : Int)) 2) = true := by
      rw [isB_int (by omega) (by omega)]
      show (true && !(decide (0 ≤ (m : Int)) && decide ((m : Int) < 2))) = true
      rw [decide_eq_false (show ¬ (m : Int) < 2 by omega), Bool.and_false]; rfl
    rw [e]
    walk_at "x"
    walk_at "f"
    refine ⟨_, _, rfl, .int _, ?_⟩
    rw [isB_int (by omega) (by omega)]
    walk_at "x"
    walk_at "f"
    rw [decide_eq_false (show ¬ (c : Int) = 0 by omega)]
    walk_at "f"
    refine ⟨_, _, rfl, .int _, ?_⟩
    rw [isB_int (by omega) (by omega)]
    walk_at "x"
    walk_at "f"
    exact q


def stW : Stp → Str
  | .add .. => "add"
  | .scale .. => "scale"
  | .swap .. => "swap"
  | .tab .. => "table"
def isT : Stp → Bool
  | .tab .. => true
  | _ => false
theorem StpAt.head {H : Hp} {a : Addr} : ∀ {s : Stp}, StpAt H a s → ∃ ys, H a = some (.tup (.str (stW s) :: ys))
  | .add .., h => by obtain ⟨f, as, h1, _⟩ := h; exact ⟨_, h1⟩
  | .scale .., h => ⟨_, h⟩
  | .swap .., h => ⟨_, h⟩
  | .tab .., h => by obtain ⟨c, h1, _⟩ := h; exact ⟨_, h1⟩
theorem stW_tab (s : Stp) : decide (V.str (stW s) = V.str "table") = isT s := by
  cases s with
  | add => exact decide_eq_false (fun e => absurd (show ("add" : Str) = "table" from V.str.inj e) (by decide))
  | scale => exact decide_eq_false (fun e => absurd (show ("scale" : Str) = "table" from V.str.inj e) (by decide))
  | swap => exact decide_eq_false (fun e => absurd (show ("swap" : Str) = "table" from V.str.inj e) (by decide))
  | tab => exact decide_eq_true rfl
def sp_check_steps (CS : Addr) (K : PySem.W.Frag) : Sp := fun vs H Q E => ∃ (L : Addr) (as : List Addr) (ss : List Stp) (m c i : Nat), vs = [.ref L, .int (m : Int), .int (c : Int), .int (i : Int)] ∧ H L = some (.lst (as.map V.ref)) ∧ StpsAt H as ss ∧ ss.length ≤ 100000 ∧ (∀ s, s ∈ ss → StpOk m c i s) ∧ 2 ≤ m ∧ m ≤ 1000000000 ∧
  (20000 < ss.length → E (.ref CS) none H) ∧ (ss.length ≤ 20000 → ∀ H', Same H H' → Q .non H')
theorem ok_check_steps (T : Txt K mg) : FnOk P w K mg base (L2.CX P w) 5 T.a_check_steps T.fd_check_steps ["steps", "modulus", "cells", "inputs"] (sp_check_steps T.E_BadStep K) := by
  refine T.F_check_steps.okX sc_check_steps (fun vs H Q E h => ?_) (fun cdv A outer s H vs Q E hr h => ?_)
  · obtain ⟨L, as, ss, m, c, i, rfl, _⟩ := h
    rfl
  · obtain ⟨L, as, ss, m, c, i, rfl, hL, hA, hn, ok, m2, m9, qE, q⟩ := h
    have hal := hA.1
    refine ⟨_, (pss_cons (ps_if (PW.pt (pw_or (pt_not (pt_val (pe_callB (id := "isinstance") (r := rIsi K) call_isi (by rfl) T.m_isinstance (by decide +kernel) (pa_cons (pv 0) (pa_cons (pe_bltn (v := .ty "list") (by rfl) T.m_list (by decide +kernel) rfl) pa_nil))))) (pw_or1 (pt_cmpR op_gt (pe_callB (id := "len") (r := rLen K) cr_len (by rfl) T.m_len PySem.boot_len (pa_cons (pv 0) pa_nil)) (pe_glob (v := .int 20000) (by rfl) T.c_MOST_STEPS ⟨_, rfl⟩) (nomark _)))))
      (pss_one (ps_raise rfl (takes_of rfl rfl rfl rfl) (SkE.pmk_own1 PySem.F.excBase_ValueError T.xE_BadStep T.gE_BadStep T.kE_BadStep (raises_own T.bE_BadStep T.tE_BadStep) (by exact rfl) (pe_joined (PJ.cons pe_str (PJ.cons (pe_fmt (pe_glob (v := .int 20000) (by rfl) T.c_MOST_STEPS ⟨_, rfl⟩)) (PJ.cons pe_str PJ.nil)))))))
      pss_nil)
      (pss_cons (ps_for (passes_of rfl) rfl (pi_enum (by rfl) T.m_enumerate (pa_cons (pv 0) pa_nil)) (pg_tup rfl (pgs_cons (pg_name (i := 4) sc_check_steps.nd rfl (Or.inl rfl)) (pgs_cons (pg_name (i := 5) sc_check_steps.nd rfl (Or.inl rfl)) pgs_nil)))
      (pss_one (ps_if (pt_not (pt_val (pe_call (ok_is_step T) hr (by rfl) T.g_is_step T.F_is_step.kp T.b_is_step .nil pass0 (pa_cons (pv 5) (pa_cons (pv 1) (pa_cons (pv 2) (pa_cons (pv 3) pa_nil)))))))
      (pss_one (ps_raise rfl (takes_of rfl rfl rfl rfl) (SkE.pmk_own1 PySem.F.excBase_ValueError T.xE_BadStep T.gE_BadStep T.kE_BadStep (raises_own T.bE_BadStep T.tE_BadStep) (by exact rfl) (pe_joined (PJ.cons pe_str (PJ.cons (pe_fmt (pv 4)) (PJ.cons pe_str PJ.nil)))))))
      pss_nil)))
      (pss_one (ps_if (PW.pt (pw_and (pt_val (pe_callB (id := "any") (r := rAny K) (cr_any rfl) (by rfl) T.m_any (by decide +kernel) (pa_cons (pe_lc (own := [("step", 5)]) (g := gName 5) (tt := tYes) rfl sc_check_steps.nd (pi_list (pv 0)) (blkOk_by (N := N_check_steps) (sc := defScope s_check_steps) (by decide +kernel)) (fun _ _ _ _ _ => (pg_name (i := 5) sc_check_steps.nd rfl (Or.inl rfl))) (fun _ _ _ _ _ => pts_nil) (fun _ _ _ _ _ => (pe_cmpR op_eq (pe_ix (r := rIxT K) ix_tup (pv 5) pe_int (fun _ _ => rfl)) pe_str (nomark _)))) pa_nil))) (pw_and1 (pt_not (pt_val (pe_call (ok_is_prime T) (hr.mono (by decide)) (by rfl) T.g_is_prime T.F_is_prime.kp T.b_is_prime .nil pass0 (pa_cons (pv 1) pa_nil)))))))
      (pss_one (ps_raise rfl (takes_of rfl rfl rfl rfl) (pmk_own PySem.F.excBase_ValueError T.xE_BadStep T.gE_BadStep T.kE_BadStep (raises_own T.bE_BadStep T.tE_BadStep) (by exact rfl))))
      pss_nil)))), ?_⟩
    walk_at "start"
    walk_at "x"
    walk_at "is"
    walk_at "f"
    refine x_len (sq_of hL) ?_
    walk_at "x"
    rw [List.length_map, hal]
    refine x_ite (fun hlong => ?_) (fun hlong => ?_)
    · refine ⟨_, rfl, by show (Str.empty ++ _).length ≤ _; rw [Str.length_append]; exact Nat.le_of_ble_eq_true rfl, ?_⟩
      refine x_fmt ?_
      walk_at "x"
      refine .inr ⟨_, rfl, log_nat (n := 20000) (by decide), ⟨_, rfl, Nat.le_of_ble_eq_true rfl, _, rfl, Nat.le_of_ble_eq_true rfl, qE (by omega)⟩⟩
    have hn : ss.length ≤ 20000 := by omega
    have q := q hn
    walk_at "x"
    refine x_forI (J := Ite K L) (n := (as.map V.ref).length) (G := fun H => SqL K H L (as.map V.ref)) (fun R r => by unfold iEnum; walk_at "x"; exact ⟨L, _, rfl, sq_of hL, r⟩) walk_enum (fun k σ' H' => Same H H' ∧ ∃ v4 v5, σ' = [some (.ref L), some (.int (m : Int)), some (.int (c : Int)), some (.int (i : Int)), v4, v5])
      ⟨Same.refl _, _, _, rfl⟩ (fun k σ' H' _ z => sq_of (z.1 _ _ hL)) ?_ ?_
    · rintro k _ σ' H' H2 hk ⟨hs, v4, v5, rfl⟩ ⟨o, x, y, rfl, ho, rfl, gx, gy⟩
      cases gx
      obtain ⟨b, hb, rfl⟩ := map_getR gy
      obtain ⟨s, hs1, hs2⟩ := hA.get hb
      have s3 : Same H (upd H' o (.tup [.int (k : Int), .ref b])) := sput hs (sfree hs ho)
      refine x_gTup2 (st_of upd_same) ?_
      walk_at "x"
      refine ⟨b, s, m, c, i, rfl, hs2.tups (Tups.same s3), ok s (List.mem_of_getElem? hs1), m2, fun H4 s4 => ?_⟩
      walk_at "x"
      walk_at "f"
      exact ⟨s3.trans s4, _, _, rfl⟩
    · rintro σ' H' ⟨hs, v4, v5, rfl⟩
      have hL' := hs _ _ hL
      walk_at "x"
      refine x_lcB (xs := as.map V.ref) (fun k => match ss[k]? with | some s => isT s | none => false) (J := Itl K L) (G := fun H => SqL K H L (as.map V.ref)) (fun R r => ⟨_, rfl, L, rfl, ⟨_, sq_of hL'⟩, r⟩) walk_list (by rw [List.length_map]; omega) (fun H2 s => sq_of (s _ _ hL')) (fun x => rfl) ?_ ?_
      · intro k x H2 s2 hx R hR
        obtain ⟨b, hb, rfl⟩ := map_getR hx
        obtain ⟨s, hs1, hs2⟩ := hA.get hb
        obtain ⟨ys, hy⟩ := (hs2.tups (Tups.same (hs.trans s2))).head
        walk_at "x"
        refine x_ixT (v := .str (stW s)) (st_of hy) (atI_nat (j := 0) rfl) ?_
        walk_at "x"
        refine x_Eq rfl ?_
        rw [stW_tab]
        have e : (match ss[k]? with | some s => isT s | none => false) = isT s := by rw [hs1]
        rw [← e]
        exact hR H2 (Same.refl _)
      · intro p H2 hp s2 hP
        walk_at "x"
        refine x_any hP ?_
        walk_at "x"
        refine x_iteB (fun hb => ?_) (fun hb => ?_)
        · have hm : IsPrime m := by
            obtain ⟨b, hb1, hb2⟩ := List.any_eq_true.mp hb
            obtain ⟨k, hk, rfl⟩ := List.mem_map.mp hb1
            have hk := List.mem_range.mp hk
            rw [List.length_map, hal] at hk
            have e : (match ss[k]? with | some s => isT s | none => false) = true := hb2
            rw [List.getElem?_eq_getElem hk] at e
            have okk := ok ss[k] (List.getElem_mem hk)
            generalize ss[k] = s at e okk
            cases s with
            | tab t g tb x y => exact okk.2.2.2.2.2.2.2.2.2
            | add => cases e
            | scale => cases e
            | swap => cases e
          walk_at "x"
          refine ⟨_, rfl, by omega, by omega, fun b hbp => ?_⟩
          walk_at "x"
          have e : b = true := hbp.mpr (prime_I hm)
          subst e
          walk_at "f"
          exact q H2 (hs.trans s2)
        · walk_at "f"
          exact q H2 (hs.trans s2)

/-! ### programs -/
structure PC (K : PySem.W.Frag) (C : Addr) : Prop where
  cl : Cls K C
  m : NoAttr K C "modulus"
  c : NoAttr K C "cells"
  i : NoAttr K C "inputs"
  s : NoAttr K C "steps"
def progF (m c i : Int) (L : Addr) : List (Str × V) := [("modulus", V.int m), ("cells", V.int c), ("inputs", V.int i), ("steps", V.ref L)]
theorem progF_m {m c i : Int} {L : Addr} : (progF m c i L).lookup ("modulus" : Str) = some (V.int m) := rfl
theorem progF_c {m c i : Int} {L : Addr} : (progF m c i L).lookup ("cells" : Str) = some (V.int c) := rfl
theorem progF_i {m c i : Int} {L : Addr} : (progF m c i L).lookup ("inputs" : Str) = some (V.int i) := rfl
theorem progF_s {m c i : Int} {L : Addr} : (progF m c i L).lookup ("steps" : Str) = some (V.ref L) := rfl
theorem progF_mk {m c i : Int} {L : Addr} : putF "steps" (V.ref L) (putF "inputs" (V.int i) (putF "cells" (V.int c) (putF "modulus" (V.int m) []))) = progF m c i L := rfl
/-- a program at p: its steps' list at L -/
structure PrAt (K : PySem.W.Frag) (C : Addr) (H : Hp) (p L : Addr) (as : List Addr) (ss : List Stp) (m c i : Nat) : Prop where
  ob : ∃ dx, H p = some (.ins C dx (progF m c i L)) ∧ PC K C
  lst : H L = some (.lst (as.map V.ref))
  st : StpsAt H as ss
theorem PrAt.same {K : PySem.W.Frag} {C : Addr} {H H' : Hp} {p L : Addr} {as : List Addr} {ss : List Stp} {m c i : Nat} (h : PrAt K C H p L as ss m c i) (s : Same H H') : PrAt K C H' p L as ss m c i := by
  obtain ⟨dx, h1, h2⟩ := h.ob
  exact ⟨⟨dx, s _ _ h1, h2⟩, s _ _ h.lst, h.st.tups (Tups.same s)⟩
structure PrOk (ss : List Stp) (m c i : Nat) : Prop where
  m2 : 2 ≤ m
  m9 : m ≤ 1000000000
  c1 : 1 ≤ c
  c60 : c ≤ 60
  i60 : i ≤ 60
  len : ss.length ≤ 20000
  ok : ∀ s, s ∈ ss → StpOk m c i s

def sp_Program___init (CS : Addr) (K : PySem.W.Frag) : Sp := fun vs H Q E => ∃ (p C dx L : Addr) (as : List Addr) (ss : List Stp) (m c i : Nat), vs = [.ref p, .int (m : Int), .int (c : Int), .int (i : Int), .ref L] ∧ H p = some (.ins C dx []) ∧ PC K C ∧ H L = some (.lst (as.map V.ref)) ∧ StpsAt H as ss ∧ 2 ≤ m ∧ m ≤ 1000000000 ∧ 1 ≤ c ∧ c ≤ 60 ∧ i ≤ 60 ∧ ss.length ≤ 100000 ∧ (∀ s, s ∈ ss → StpOk m c i s) ∧
  (20000 < ss.length → E (.ref CS) none H) ∧ (ss.length ≤ 20000 → ∀ (L' : Addr) (H' : Hp), H L' = none → (∀ b o, H b = some o → b ≠ p → H' b = some o) → PrAt K C H' p L' as ss m c i → Q .non H')
theorem ok_Program___init (T : Txt K mg) : FnOk P w K mg base (L2.CX P w) 6 T.a_Program___init T.fd_Program___init ["self", "modulus", "cells", "inputs", "steps"] (sp_Program___init T.E_BadStep K) := by
  refine T.F_Program___init.okX sc_Program___init (fun vs H Q E h => ?_) (fun cdv A outer s H vs Q E hr h => ?_)
  · obtain ⟨p, C, dx, L, as, ss, m, c, i, rfl, _⟩ := h
    rfl
  · obtain ⟨p, C, dx, L, as, ss, m, c, i, rfl, hp, hC, hL, hA, m2, m9, c1, c60, i60, hlen, okk, qE, q⟩ := h
    refine ⟨_, (pss_cons (ps_expr (pe_call (ok_check_sizes T) (hr.mono (by decide)) (by rfl) T.g_check_sizes T.F_check_sizes.kp T.b_check_sizes .nil pass0 (pa_cons (pv 1) (pa_cons (pv 2) (pa_cons (pv 3) pa_nil)))))
      (pss_cons (ps_expr (pe_call (ok_check_steps T) hr (by rfl) T.g_check_steps T.F_check_steps.kp T.b_check_steps .nil (passes_call (takes_of rfl rfl rfl rfl) (fun _ _ _ _ h => h)) (pa_cons (pv 4) (pa_cons (pv 1) (pa_cons (pv 2) (pa_cons (pv 3) pa_nil))))))
      (PSs.nox (pss_cons (ps_fld (pv 0) (pv 1) rfl)
      (pss_cons (ps_fld (pv 0) (pv 2) rfl)
      (pss_cons (ps_fld (pv 0) (pv 3) rfl)
      (pss_one (ps_fld (pv 0) (pe_callTy (T := "list") (r := rListOf K) cr_list_of (by rfl) T.m_list (by decide +kernel) (pa_cons (pv 4) pa_nil)) rfl)))))))), ?_⟩
    walk_at "start"
    walk_at "x"
    refine ⟨m, c, i, rfl, m2, m9, c1, c60, i60, ?_⟩
    walk_at "x"
    refine ⟨L, as, ss, m, c, i, rfl, hL, hA, hlen, okk, m2, m9, qE, fun hl2 H1 s1 => ?_⟩
    have q := q hl2
    have hp1 := s1 _ _ hp
    have hL1 := s1 _ _ hL
    walk_at "x"
    refine ⟨p, C, dx, _, rfl, hp1, hC.cl, hC.m, by decide, ?_⟩
    walk_at "x"
    refine ⟨p, C, dx, _, rfl, upd_same, hC.cl, hC.c, by show 1 < 1000; decide, ?_⟩
    walk_at "x"
    refine ⟨p, C, dx, _, rfl, upd_same, hC.cl, hC.i, by show 2 < 1000; decide, ?_⟩
    walk_at "x"
    have hpL : L ≠ p := ne_of hL1 hp1 (by intro z; cases z)
    refine x_listL (sq_of (by rw [upd_ne hpL, upd_ne hpL, upd_ne hpL]; exact hL1)) fun L' hL' => ?_
    have hpL' : p ≠ L' := ne_of_none upd_same hL'
    have hL'1 : H1 L' = none := by
      rw [upd_ne hpL'.symm, upd_ne hpL'.symm, upd_ne hpL'.symm] at hL'
      exact hL'
    walk_at "x"
    refine ⟨p, C, dx, _, rfl, by rw [upd_ne hpL', upd_same], hC.cl, hC.s, by show 3 < 1000; decide, ?_⟩
    rw [progF_mk]
    generalize hU : upd (upd _ _ _) _ _ = U
    have keep : ∀ b o, H b = some o → b ≠ p → U b = some o := fun b o e hb => by
      rw [← hU, upd_ne hb, upd_ne (ne_of_none (s1 _ _ e) hL'1), upd_ne hb, upd_ne hb, upd_ne hb]
      exact s1 _ _ e
    refine q L' U (s1.free hL'1) keep ⟨⟨dx, by rw [← hU]; exact upd_same, hC⟩, by rw [← hU, upd_ne hpL'.symm, upd_same], hA.tups fun b xs e => keep b _ e (ne_of e hp (by intro z; cases z))⟩


end
end Br
namespace Br
open PySem PySem.Spec PyProof.Rows L2
local macro_rules | `(tactic| walk_at "x1") => `(tactic| (with_reducible first
  | refine Br.x_seq ?_ | refine Br.x_set ?_ | refine Br.x_asg ?_ | refine Br.x_next ?_ | refine Br.x_ret ?_ | refine Br.x_retN ?_ | refine Br.x_drop ?_ | refine Br.x_if ?_ | refine Br.x_brk ?_ | refine Br.x_cont ?_
  | refine Br.x_c ?_ | refine Br.x_op ?_ | refine Br.x_un ?_ | refine Br.x_I0 ?_ | refine Br.x_U ?_ | refine Br.x_EqI ?_ | refine Br.x_NeI ?_ | refine Br.x_EqB ?_ | refine Br.x_iN ?_ | refine Br.x_int1 ?_ | refine Br.x_min2 ?_ | refine Br.x_max2 ?_ | refine Br.x_nN ?_ | refine Br.x_ifE ?_
  | refine Br.x_test (b := ()) ?_ | refine Br.x_tB ?_ | refine Br.x_bl ?_ | refine Br.x_and ?_ | refine Br.x_or ?_ | refine Br.x_not ?_ | refine Br.x_andV ?_ | refine Br.x_orV ?_ | refine Br.x_notV ?_ | refine Br.x_blP ?_
  | refine Br.x_nil ?_ | refine Br.x_cons ?_ | refine Br.x_call ?_ | refine Br.x_CB ?_ | refine Br.x_BM ?_ | refine Br.x_tup ?_ | refine Br.x_lst ?_ | refine Br.x_chain ?_ | refine Br.x_par ?_ | refine Br.x_gSub ?_ | refine Br.x_gName ?_ | refine Br.x_fld ?_ | refine Br.x_fldS ?_ | refine Br.x_match ?_ | refine Br.x_else ?_ | refine Br.x_noCase ?_))
local macro_rules | `(tactic| walk_at "xv") => `(tactic| ((with_reducible refine' Br.x_var ?hvar ?_); (case hvar => rfl)))
local macro_rules | `(tactic| walk_at "xd") => `(tactic| (dsimp only [List.set_cons_zero, List.set_cons_succ, List.cons_append, List.nil_append, List.append_nil]))
local macro_rules | `(tactic| walk_at "xi") => `(tactic| ((with_reducible refine Br.x_I ?hside ?_); (case hside => first | exact Br.mul_r (by decide) (by decide) | exact Br.mul_l (by decide) (by decide) | exact Br.mul_l (by omega) (by omega) | exact Br.mul_r (by omega) (by omega) | (show (0 : Int) < _; first | decide | omega) | exact ⟨by decide, by decide⟩ | exact ⟨by omega, by omega⟩ | exact ⟨by decide, by decide, by decide⟩)))
local macro_rules | `(tactic| walk_at "x") => `(tactic| (repeat (first | walk_at "x1" | walk_at "xv" | walk_at "xi" | walk_at "xd")))
local macro_rules | `(tactic| walk_at "start") => `(tactic| (simp only [L2.start, List.map_cons, List.map_nil, List.length_cons, List.length_nil, Nat.reduceAdd, Nat.reduceSub, List.replicate, List.cons_append, List.nil_append, List.append_nil]))
local macro_rules | `(tactic| walk_at "isi") => `(tactic| first
  | refine Br.x_isi (b := true) (.base (.int _)) (by decide +kernel) ?_ | refine Br.x_isi (b := false) (.base (.int _)) (by decide +kernel) ?_
  | refine Br.x_isi (b := true) (.base (.bl _)) (by decide +kernel) ?_ | refine Br.x_isi (b := false) (.base (.bl _)) (by decide +kernel) ?_
  | refine Br.x_isi (b := false) (.base .non) (by decide +kernel) ?_
  | refine Br.x_isi (b := true) (.base (.str _)) (by decide +kernel) ?_ | refine Br.x_isi (b := false) (.base (.str _)) (by decide +kernel) ?_
  | refine Br.x_isi (b := true) (.base (.tup (by assumption))) (by decide +kernel) ?_ | refine Br.x_isi (b := false) (.base (.tup (by assumption))) (by decide +kernel) ?_
  | refine Br.x_isi (b := true) (.base (.lst (by assumption))) (by decide +kernel) ?_ | refine Br.x_isi (b := false) (.base (.lst (by assumption))) (by decide +kernel) ?_)
local macro_rules | `(tactic| walk_at "f") => `(tactic| (refine L2.iteF ?_; walk_at "x"))
local macro_rules | `(tactic| walk_at "t") => `(tactic| (refine L2.iteT ?_; walk_at "x"))
local macro_rules | `(tactic| walk_at "is") => `(tactic| (walk_at "isi"; walk_at "x"))
local macro_rules | `(tactic| walk_at "xb") => `(tactic| (simp only [Br.bindS, List.set_cons_zero, List.set_cons_succ]; walk_at "x"))

section
variable {P : Program} {w : World} {K : PySem.W.Frag} {mg : Str → Option Value} {base : Heap}

open Br.F
theorem Mem.odd {m n : Nat} {xs : List Int} (h : Mem m n xs) : (decide (((xs.map V.int).length : Int) = (n : Int)) && (xs.map V.int).all fun x => isB x (m : Int)) = true := by
  rw [List.length_map, h.len, decide_eq_true rfl, Bool.true_and, List.all_eq_true]
  intro x hx
  obtain ⟨z, hz, rfl⟩ := List.mem_map.mp hx
  exact isB_int (h.rg z hz).1 (h.rg z hz).2
theorem applyC_snoc {cs : List (Nat × Int)} {x : Nat × Int} {mv : List Int} : applyC (cs ++ [x]) mv = (applyC cs mv).set x.1 x.2 := by
  unfold applyC
  rw [List.foldl_append]
  rfl
theorem applyC_len {cs : List (Nat × Int)} : ∀ {mv : List Int}, (applyC cs mv).length = mv.length := by
  induction cs with
  | nil => intro mv; rfl
  | cons x cs ih => intro mv; exact ih.trans (List.length_set ..)
theorem map_set {xs : List Int} {i : Nat} {z : Int} : (xs.map V.int).set i (.int z) = (xs.set i z).map V.int := by rw [List.map_set]


def sp_performed (K : PySem.W.Frag) : Sp := fun vs H Q _ => ∃ (L mo io : Addr) (as : List Addr) (ss : List Stp) (m c i : Nat) (mv iv : List Int), vs = [.ref L, .ref mo, .ref io, .int (m : Int)] ∧ SqL K H L (as.map V.ref) ∧ StpsAt H as ss ∧ PrOk ss m c i ∧ SqL K H mo (mv.map V.int) ∧ H io = some (.lst (iv.map V.int)) ∧ Mem m c mv ∧ Mem m i iv ∧
  ∀ l H', H l = none → Same H H' → H' l = some (.lst ((runF m iv ss mv).map V.int)) → Q (.ref l) H'
theorem ok_performed (T : Txt K mg) : FnOk P w K mg base CX0 5 T.a_performed T.fd_performed ["steps", "memory", "given", "modulus"] (sp_performed K) := by
  refine T.F_performed.ok sc_performed (fun vs H Q E h => ?_) (fun cdv A outer s H vs Q E hr h => ?_)
  · obtain ⟨L, mo, io, as, ss, m, c, i, mv, iv, rfl, _⟩ := h
    rfl
  · obtain ⟨L, mo, io, as, ss, m, c, i, mv, iv, rfl, hL, hst, ok, hm, hi, mm, mi, q⟩ := h
    have hm1 : 1 ≤ m := Nat.le_trans (by decide) ok.m2
    have m2 := ok.m2
    have m9 := ok.m9
    have c60 := ok.c60
    have i60 := ok.i60
    refine ⟨_, (pss_cons (ps_set (i := 4) sc_performed.nd rfl (.inl rfl) (pe_callTy (T := "list") (r := rListOf K) cr_list_of (by rfl) T.m_list (by decide +kernel) (pa_cons (pv 1) pa_nil)))
      (pss_cons (ps_for PassesOwn.never rfl (pi_list (pv 0)) (pg_name (i := 5) sc_performed.nd rfl (Or.inl rfl))
      (pss_cons (ps_set (i := 6) sc_performed.nd rfl (.inl rfl) (pe_call (ok_changes T) hr (by rfl) T.g_changes T.F_changes.kp T.b_changes .nil pass0 (pa_cons (pv 5) (pa_cons (pv 4) (pa_cons (pv 2) (pa_cons (pv 3) pa_nil))))))
      (pss_one (ps_for PassesOwn.never rfl (pi_list (pv 6)) (pg_tup rfl (pgs_cons (pg_name (i := 7) sc_performed.nd rfl (Or.inl rfl)) (pgs_cons (pg_name (i := 8) sc_performed.nd rfl (Or.inl rfl)) pgs_nil)))
      (pss_one (ps_asg (pv 8) (pg_sub (pv 4) (pv 7) set_list)))))))
      (pss_one (ps_ret (pv 4))))), ?_⟩
    walk_at "start"
    walk_at "x"
    refine x_listL hm fun l hl => ?_
    have hl0 := hl
    have s3 := same_upd (o := .lst (mv.map V.int)) hl
    have hl3 : (upd H l (.lst (mv.map V.int))) l = some (.lst (mv.map V.int)) := upd_same
    generalize upd H l (.lst (mv.map V.int)) = H3 at s3 hl3
    walk_at "x"
    refine x_forL (p := L) (as.map V.ref) (fun k σ' H' => ∃ v4 v5 v6 v7, σ' = [some (.ref L), some (.ref mo), some (.ref io), some (.int (m : Int)), some (.ref l), v4, v5, v6, v7] ∧ Same H H' ∧ H' l = some (.lst ((runF m iv (ss.take k) mv).map V.int)))
      (fun R r => by walk_at "x"; exact r) (s3.seq hL) ⟨_, _, _, _, rfl, s3, hl3⟩ (fun k σ' H' _ z => by obtain ⟨_, _, _, _, _, z, _⟩ := z; exact z.seq hL) ?_ ?_
    · rintro k x σ' H4 hx ⟨v4, v5, v6, v7, rfl, s4, hl4⟩
      obtain ⟨b, hb, rfl⟩ := map_getR hx
      obtain ⟨s, hs1, hs2⟩ := hst.get hb
      have oks := ok.ok s (List.mem_of_getElem? hs1)
      have mr : Mem m c (runF m iv (ss.take k) mv) := runF_mem hm1 mm fun s hs => ok.ok s (List.mem_of_mem_take hs)
      walk_at "x"
      refine ⟨b, l, io, s, c, i, m, _, iv, rfl, hs2.tups (Tups.same s4), oks, hl4, s4 _ _ hi, mr, mi, m2, m9, fun lc cs H5 hlc s5 hch hap hcl hcc => ?_⟩
      have hlc' : lc ≠ l := fun e => by rw [e, hl4] at hlc; cases hlc
      have hl5 := s5 _ _ hl4
      obtain ⟨bs, hb1, hb2, hb3⟩ := hch
      walk_at "x"
      refine x_forL (p := lc) (bs.map V.ref) (fun j σ' H' => ∃ v6 v7, σ' = [some (.ref L), some (.ref mo), some (.ref io), some (.int (m : Int)), some (.ref l), some (.ref b), some (.ref lc), v6, v7] ∧ Keep l H5 H' ∧ H' l = some (.lst ((applyC (cs.take j) (runF m iv (ss.take k) mv)).map V.int)))
        (fun R r => by walk_at "x"; exact r) (sq_of hb1) ⟨_, _, rfl, Keep.refl _ _, hl5⟩ (fun j σ' H' _ z => by obtain ⟨_, _, _, z, _⟩ := z; exact sq_of (z _ _ hb1 hlc')) ?_ ?_
      · rintro j x σ' H6 hx ⟨v6, v7, rfl, k6, hl6⟩
        obtain ⟨o, ho, rfl⟩ := map_getR hx
        have hj : j < cs.length := by
          have := (List.getElem?_eq_some_iff.mp ho).1
          omega
        have gj := List.getElem?_eq_getElem hj
        have hcj := hcc _ (List.getElem_mem hj)
        generalize cs[j] = w at gj hcj
        have h5 := hb3 j w o gj ho
        have h6 := k6 _ _ h5 (ne_of h5 hl5 (by intro z; cases z))
        refine x_gTup2 (st_of h6) ?_
        walk_at "x"
        have hlen : ((applyC (cs.take j) (runF m iv (ss.take k) mv)).map V.int).length = c := by rw [List.length_map, applyC_len, mr.len]
        refine x_subL (k := w.1) hl6 (by rw [hlen]; exact ixN_nat hcj) ?_
        walk_at "x"
        refine ⟨_, _, rfl, k6.trans keep_upd, ?_⟩
        rw [upd_same, map_set, take_snoc gj, applyC_snoc]
      · rintro σ' H6 ⟨v6, v7, rfl, k6, hl6⟩
        refine ⟨_, _, _, _, rfl, same_keep hl0 (s4.trans s5) k6, ?_⟩
        rw [take_snoc hs1, runF_snoc, ← hap, hl6, List.length_map, hb2, List.take_length]
    · rintro σ' H4 ⟨v4, v5, v6, v7, rfl, s4, hl4⟩
      walk_at "x"
      refine q l _ hl0 s4 ?_
      rw [hl4, List.length_map, hst.1, List.take_length]



def sp_Program_run (K : PySem.W.Frag) : Sp := fun vs H Q _ => ∃ (C p mo io L : Addr) (as : List Addr) (ss : List Stp) (m c i : Nat) (mv iv : List Int), vs = [.ref p, .ref mo, .ref io] ∧ PrAt K C H p L as ss m c i ∧ PrOk ss m c i ∧ H mo = some (.lst (mv.map V.int)) ∧ H io = some (.lst (iv.map V.int)) ∧ Mem m c mv ∧ Mem m i iv ∧
  ∀ l H', H l = none → Same H H' → H' l = some (.lst ((runF m iv ss mv).map V.int)) → Q (.ref l) H'
theorem ok_Program_run (T : Txt K mg) : FnOk P w K mg base CX0 6 T.a_Program_run T.fd_Program_run ["self", "memory", "given"] (sp_Program_run K) := by
  refine T.F_Program_run.ok sc_Program_run (fun vs H Q E h => ?_) (fun cdv A outer s H vs Q E hr h => ?_)
  · obtain ⟨C, p, mo, io, L, as, ss, m, c, i, mv, iv, rfl, _⟩ := h
    rfl
  · obtain ⟨C, p, mo, io, L, as, ss, m, c, i, mv, iv, rfl, hP, ok, hm, hi, mm, mi, q⟩ := h
    have hm1 : 1 ≤ m := Nat.le_trans (by decide) ok.m2
    have m2 := ok.m2
    have m9 := ok.m9
    have c60 := ok.c60
    have i60 := ok.i60
    obtain ⟨dx, hp, hC⟩ := hP.ob
    refine ⟨_, (pss_cons (ps_if (pt_not (pt_val (pe_call (ok_are_numbers T) (hr.mono (by decide)) (by rfl) T.g_are_numbers T.F_are_numbers.kp T.b_are_numbers .nil pass0 (pa_cons (pv 1) (pa_cons (pe_fld (pv 0) rfl) (pa_cons (pe_fld (pv 0) rfl) pa_nil))))))
      (pss_one ps_never)
      pss_nil)
      (pss_cons (ps_if (pt_not (pt_val (pe_call (ok_are_numbers T) (hr.mono (by decide)) (by rfl) T.g_are_numbers T.F_are_numbers.kp T.b_are_numbers .nil pass0 (pa_cons (pv 2) (pa_cons (pe_fld (pv 0) rfl) (pa_cons (pe_fld (pv 0) rfl) pa_nil))))))
      (pss_one ps_never)
      pss_nil)
      (pss_one (ps_ret (pe_call (ok_performed T) hr (by rfl) T.g_performed T.F_performed.kp T.b_performed .nil pass0 (pa_cons (pe_fld (pv 0) rfl) (pa_cons (pv 1) (pa_cons (pv 2) (pa_cons (pe_fld (pv 0) rfl) pa_nil))))))))), ?_⟩
    walk_at "start"
    walk_at "x"
    refine x_fldR hp hC.cl hC.c progF_c ?_
    walk_at "x"
    refine x_fldR hp hC.cl hC.m progF_m ?_
    walk_at "x"
    refine ⟨_, _, _, rfl, .inl ⟨mo, _, rfl, hm, by rw [List.length_map, mm.len]; omega, fun x hx => by obtain ⟨z, _, rfl⟩ := List.mem_map.mp hx; exact .int _, fun H1 s1 => ?_⟩⟩
    rw [mm.odd]
    walk_at "x"
    walk_at "f"
    have hP1 := hP.same s1
    have hp1 := s1 _ _ hp
    refine x_fldR hp1 hC.cl hC.i progF_i ?_
    walk_at "x"
    refine x_fldR hp1 hC.cl hC.m progF_m ?_
    walk_at "x"
    refine ⟨_, _, _, rfl, .inl ⟨io, _, rfl, s1 _ _ hi, by rw [List.length_map, mi.len]; omega, fun x hx => by obtain ⟨z, _, rfl⟩ := List.mem_map.mp hx; exact .int _, fun H2 s2 => ?_⟩⟩
    rw [mi.odd]
    walk_at "x"
    walk_at "f"
    have s2 := s1.trans s2
    refine x_fldR (s2 _ _ hp) hC.cl hC.s progF_s ?_
    walk_at "x"
    refine x_fldR (s2 _ _ hp) hC.cl hC.m progF_m ?_
    walk_at "x"
    exact ⟨L, mo, io, as, ss, m, c, i, mv, iv, rfl, sq_of (s2 _ _ hP.lst), hP.st.tups (Tups.same s2), ok, sq_of (s2 _ _ hm), s2 _ _ hi, mm, mi, fun l H' hl hs hr => q l H' (s2.free hl) (s2.trans hs) hr⟩



end
end Br
namespace Br
open PySem PySem.Spec PyProof.Rows L2
local macro_rules | `(tactic| walk_at "x1") => `(tactic| (with_reducible first
  | refine Br.x_seq ?_ | refine Br.x_set ?_ | refine Br.x_asg ?_ | refine Br.x_next ?_ | refine Br.x_ret ?_ | refine Br.x_retN ?_ | refine Br.x_drop ?_ | refine Br.x_if ?_ | refine Br.x_brk ?_ | refine Br.x_cont ?_
  | refine Br.x_c ?_ | refine Br.x_op ?_ | refine Br.x_un ?_ | refine Br.x_I0 ?_ | refine Br.x_U ?_ | refine Br.x_EqI ?_ | refine Br.x_NeI ?_ | refine Br.x_EqB ?_ | refine Br.x_iN ?_ | refine Br.x_int1 ?_ | refine Br.x_min2 ?_ | refine Br.x_max2 ?_ | refine Br.x_nN ?_ | refine Br.x_ifE ?_
  | refine Br.x_test (b := ()) ?_ | refine Br.x_tB ?_ | refine Br.x_bl ?_ | refine Br.x_and ?_ | refine Br.x_or ?_ | refine Br.x_not ?_ | refine Br.x_andV ?_ | refine Br.x_orV ?_ | refine Br.x_notV ?_ | refine Br.x_blP ?_
  | refine Br.x_nil ?_ | refine Br.x_cons ?_ | refine Br.x_call ?_ | refine Br.x_CB ?_ | refine Br.x_BM ?_ | refine Br.x_tup ?_ | refine Br.x_lst ?_ | refine Br.x_chain ?_ | refine Br.x_par ?_ | refine Br.x_gSub ?_ | refine Br.x_gName ?_ | refine Br.x_fld ?_ | refine Br.x_fldS ?_ | refine Br.x_match ?_ | refine Br.x_else ?_ | refine Br.x_noCase ?_))
local macro_rules | `(tactic| walk_at "xv") => `(tactic| ((with_reducible refine' Br.x_var ?hvar ?_); (case hvar => rfl)))
local macro_rules | `(tactic| walk_at "xd") => `(tactic| (dsimp only [List.set_cons_zero, List.set_cons_succ, List.cons_append, List.nil_append, List.append_nil]))
local macro_rules | `(tactic| walk_at "xi") => `(tactic| ((with_reducible refine Br.x_I ?hside ?_); (case hside => first | exact Br.mul_r (by decide) (by decide) | exact Br.mul_l (by decide) (by decide) | exact Br.mul_l (by omega) (by omega) | exact Br.mul_r (by omega) (by omega) | (show (0 : Int) < _; first | decide | omega) | exact ⟨by decide, by decide⟩ | exact ⟨by omega, by omega⟩ | exact ⟨by decide, by decide, by decide⟩)))
local macro_rules | `(tactic| walk_at "x") => `(tactic| (repeat (first | walk_at "x1" | walk_at "xv" | walk_at "xi" | walk_at "xd")))
local macro_rules | `(tactic| walk_at "start") => `(tactic| (simp only [L2.start, List.map_cons, List.map_nil, List.length_cons, List.length_nil, Nat.reduceAdd, Nat.reduceSub, List.replicate, List.cons_append, List.nil_append, List.append_nil]))
local macro_rules | `(tactic| walk_at "isi") => `(tactic| first
  | refine Br.x_isi (b := true) (.base (.int _)) (by decide +kernel) ?_ | refine Br.x_isi (b := false) (.base (.int _)) (by decide +kernel) ?_
  | refine Br.x_isi (b := true) (.base (.bl _)) (by decide +kernel) ?_ | refine Br.x_isi (b := false) (.base (.bl _)) (by decide +kernel) ?_
  | refine Br.x_isi (b := false) (.base .non) (by decide +kernel) ?_
  | refine Br.x_isi (b := true) (.base (.str _)) (by decide +kernel) ?_ | refine Br.x_isi (b := false) (.base (.str _)) (by decide +kernel) ?_
  | refine Br.x_isi (b := true) (.base (.tup (by assumption))) (by decide +kernel) ?_ | refine Br.x_isi (b := false) (.base (.tup (by assumption))) (by decide +kernel) ?_
  | refine Br.x_isi (b := true) (.base (.lst (by assumption))) (by decide +kernel) ?_ | refine Br.x_isi (b := false) (.base (.lst (by assumption))) (by decide +kernel) ?_)
local macro_rules | `(tactic| walk_at "f") => `(tactic| (refine L2.iteF ?_; walk_at "x"))
local macro_rules | `(tactic| walk_at "t") => `(tactic| (refine L2.iteT ?_; walk_at "x"))
local macro_rules | `(tactic| walk_at "is") => `(tactic| (walk_at "isi"; walk_at "x"))
local macro_rules | `(tactic| walk_at "xb") => `(tactic| (simp only [Br.bindS, List.set_cons_zero, List.set_cons_succ]; walk_at "x"))

section
variable {P : Program} {w : World} {K : PySem.W.Frag} {mg : Str → Option Value} {base : Heap}

open Br.F

def sp_inverse_step (K : PySem.W.Frag) : Sp := fun vs H Q _ => ∃ (a : Addr) (s : Stp) (m c i : Nat), vs = [.ref a, .int (m : Int)] ∧ StpAt H a s ∧ StpOk m c i s ∧ 2 ≤ m ∧ m ≤ 1000000000 ∧
  ∀ (b : Addr) (s' : Stp) (H' : Hp), IsBack m s s' → Same H H' → StpAt H' b s' → Q (.ref b) H'
theorem ok_inverse_step (T : Txt K mg) : FnOk P w K mg base CX0 2 T.a_inverse_step T.fd_inverse_step ["step", "modulus"] (sp_inverse_step K) := by
  refine T.F_inverse_step.ok sc_inverse_step (fun vs H Q E h => ?_) (fun cdv A outer s H vs Q E hr h => ?_)
  · obtain ⟨a, s, m, c, i, rfl, _⟩ := h
    rfl
  · obtain ⟨a, s, m, c, i, rfl, hs, ok, m2, m9, q⟩ := h
    refine ⟨_, (pss_one (ps_match (pv 0) (pcs_seq rfl op_eq (pcap_name 2 sc_inverse_step.nd rfl (.inl rfl) (pcap_name 3 sc_inverse_step.nd rfl (.inl rfl) (pcap_name 4 sc_inverse_step.nd rfl (.inl rfl) pcap_nil)))
      (pss_one (ps_ret (pe_tup (pa_cons pe_str (pa_cons (pv 2) (pa_cons (pe_op op_mod (pe_op op_sub (pv 1) (pv 3)) (pv 1)) (pa_cons (pv 4) pa_nil)))))))
      (pcs_seq rfl op_eq (pcap_name 2 sc_inverse_step.nd rfl (.inl rfl) (pcap_name 5 sc_inverse_step.nd rfl (.inl rfl) pcap_nil))
      (pss_one (ps_ret (pe_tup (pa_cons pe_str (pa_cons (pv 2) (pa_cons (pe_call (ok_inverse_of T) hr (by rfl) T.g_inverse_of T.F_inverse_of.kp T.b_inverse_of .nil pass0 (pa_cons (pv 5) (pa_cons (pv 1) pa_nil))) pa_nil))))))
      (pcs_seq rfl op_eq (pcap_wild (pcap_wild pcap_nil))
      (pss_one (ps_ret (pv 0)))
      (pcs_seq rfl op_eq (pcap_name 2 sc_inverse_step.nd rfl (.inl rfl) (pcap_name 6 sc_inverse_step.nd rfl (.inl rfl) (pcap_name 7 sc_inverse_step.nd rfl (.inl rfl) (pcap_name 8 sc_inverse_step.nd rfl (.inl rfl) (pcap_name 9 sc_inverse_step.nd rfl (.inl rfl) pcap_nil)))))
      (pss_one (ps_ret (pe_tup (pa_cons pe_str (pa_cons (pv 2) (pa_cons (pe_op op_sub (pv 1) (pv 6)) (pa_cons (pv 7) (pa_cons (pv 8) (pa_cons (pv 9) pa_nil)))))))))
      pcs_nil)))))), ?_⟩
    walk_at "start"
    cases s with
    | add t k fs =>
      obtain ⟨f, as, h1, h2, h3, h4⟩ := hs
      walk_at "x"
      refine x_caseY (st_of h1) rfl ?_
      walk_at "xb"
      refine ⟨by show 4 ≤ sizeLine; decide, fun p hp => ?_⟩
      exact q p (.add t (((m : Int) - k) % m) fs) _ rfl (same_upd hp) ⟨f, as, upd_same, same_upd hp _ _ h2, h3, fun i x b e1 e2 => (h4 i x b e1 e2).tups (Tups.same (same_upd hp))⟩
    | scale t u =>
      have h1 : H a = some (.tup [.str "scale", .int (t : Int), .int u]) := hs
      obtain ⟨o1, o2, o3, o4⟩ := ok
      walk_at "x"
      refine x_caseNo (st_of h1) (Nat.ne_of_beq_eq_false rfl) ?_
      refine x_caseY (st_of h1) rfl ?_
      walk_at "xb"
      refine ⟨u, (m : Int), rfl, by omega, by omega, fun v H1 hv s1 => ?_⟩
      obtain ⟨w, rfl, w0, w1, hw⟩ := hv.2 o4
      walk_at "x"
      refine ⟨by show 3 ≤ sizeLine; decide, fun p hp => ?_⟩
      exact q p (.scale t w) _ ⟨w, rfl, w0, w1, hw⟩ (s1.trans (same_upd hp)) upd_same
    | swap x y =>
      have h1 : H a = some (.tup [.str "swap", .int (x : Int), .int (y : Int)]) := hs
      walk_at "x"
      refine x_caseNo (st_of h1) (Nat.ne_of_beq_eq_false rfl) ?_
      refine x_caseW (st_of h1) rfl (by decide) ?_
      refine x_caseY (st_of h1) rfl ?_
      walk_at "xb"
      exact q a (.swap x y) _ rfl (Same.refl _) h1
    | tab t g tb x y =>
      obtain ⟨o, h1, hT⟩ := hs
      walk_at "x"
      refine x_caseNo (st_of h1) (Nat.ne_of_beq_eq_false rfl) ?_
      refine x_caseNo (st_of h1) (Nat.ne_of_beq_eq_false rfl) ?_
      refine x_caseNo (st_of h1) (Nat.ne_of_beq_eq_false rfl) ?_
      refine x_caseY (st_of h1) rfl ?_
      walk_at "xb"
      refine ⟨by show 6 ≤ sizeLine; decide, fun p hp => ?_⟩
      exact q p (.tab t ((m : Int) - g) tb x y) _ rfl (same_upd hp) ⟨o, upd_same, hT.tups (Tups.same (same_upd hp))⟩

section
variable {σ : L2.St} {H : Hp} {Q : VK} {R : Option Int → Hp → Prop}
theorem x_make1 {C : Addr} {sp : Sp} {dvs : List V} {E : XK} {t : TA} (h : t σ H fun vs H1 => ∀ x dx, H1 x = none → H1 dx = none → dx ≠ x → sp (.ref x :: (vs ++ dvs)) (upd (upd H1 dx (.own x)) x (.ins C dx [])) (fun v H2 => v = .non ∧ Q (.ref x) H2) E) : tMake C sp dvs E t σ H Q := h
theorem x_meth1 {C : Addr} {m : Str} {sp : Sp} {dvs : List V} {E : XK} {ta : TE} {t : TA} (h : ta σ H fun x H1 => ∃ a dx fs, x = .ref a ∧ H1 a = some (.ins C dx fs) ∧ fs.lookup m = none ∧ t σ H1 fun vs H2 => sp (x :: (vs ++ dvs)) H2 Q E) : tMeth C m sp dvs E ta t σ H Q := h
theorem x_lcPreL {te : TE} {ta : TE} {j : Nat} {vs : List Nat} (h : ta σ H fun v H1 => tLc (iList K (tC v)) (gName j) tYes te vs σ H1 Q) : tLc (iList K ta) (gName j) tYes te vs σ H Q := h
theorem x_revL {te : TE} (h : te σ H fun x H1 => ∃ a xs, x = .ref a ∧ SqL K H1 a xs ∧ ∀ p, H1 p = none → Q (.ref p) (upd H1 p (.lst xs.reverse))) : tRevL K te σ H Q := h
theorem x_sl {r : V → Option Int → Option Int → Hp → VK → Prop} {te : TE} {tl th : TO} (h : te σ H fun x H1 => tl σ H1 fun l H2 => th σ H2 fun u H3 => r x l u H3 Q) : tSl r te tl th σ H Q := h
theorem x_noPart (h : R none H) : tNoPart σ H R := h
theorem cut_take {xs : List V} {n : Nat} : cutV xs none (some (n : Int)) = xs.take n := by
  unfold cutV
  rw [HT.sIx_nat]
  show (xs.drop 0).take (min n xs.length - 0) = xs.take n
  rw [List.drop_zero, Nat.sub_zero]
  by_cases h : n ≤ xs.length
  · rw [Nat.min_eq_left h]
  · rw [Nat.min_eq_right (by omega), List.take_length, List.take_of_length_le (by omega)]
end
theorem new_progL {C CS : Addr} {H1 : Hp} {L0 : Addr} {as : List Addr} {ss : List Stp} {m c i : Nat} {R : Addr → Hp → Prop} {E : XK} (hC : PC K C) (hl : H1 L0 = some (.lst (as.map V.ref))) (hst : StpsAt H1 as ss) (m2 : 2 ≤ m) (m9 : m ≤ 1000000000) (c1 : 1 ≤ c) (c60 : c ≤ 60) (i60 : i ≤ 60) (hlen : ss.length ≤ 100000) (okk : ∀ s, s ∈ ss → StpOk m c i s)
    (qE : 20000 < ss.length → ∀ H', Same H1 H' → E (.ref CS) none H')
    (q : ss.length ≤ 20000 → ∀ p L' H', H1 L' = none → Same H1 H' → PrAt K C H' p L' as ss m c i → R p H') : ∀ x dx, H1 x = none → H1 dx = none → dx ≠ x → sp_Program___init CS K [.ref x, .int (m : Int), .int (c : Int), .int (i : Int), .ref L0] (upd (upd H1 dx (.own x)) x (.ins C dx [])) (fun v H2 => v = .non ∧ R x H2) E := by
  intro x dx hx hdx hne
  have s1 : ∀ b o, H1 b = some o → (upd (upd H1 dx (.own x)) x (.ins C dx [])) b = some o := fun b o e => by
    rw [upd_ne (ne_of_none e hx), upd_ne (ne_of_none e hdx)]
    exact e
  refine ⟨x, C, dx, L0, as, ss, m, c, i, rfl, upd_same, hC, s1 _ _ hl, hst.tups (fun b xs e => s1 _ _ e), m2, m9, c1, c60, i60, hlen, okk, fun h => qE h _ s1, fun h L' H' hL' keep hP => ⟨rfl, ?_⟩⟩
  have s2 : Same H1 H' := fun b o e => keep b o (s1 _ _ e) (ne_of_none e hx)
  refine q h x L' H' ?_ s2 hP
  cases e : H1 L' with
  | none => rfl
  | some o =>
    rw [s1 _ _ e] at hL'
    cases hL'
/-- one of valid steps is made -/
theorem new_prog {C CS : Addr} {H1 : Hp} {L0 : Addr} {as : List Addr} {ss : List Stp} {m c i : Nat} {R : Addr → Hp → Prop} {E : XK} (hC : PC K C) (hl : H1 L0 = some (.lst (as.map V.ref))) (hst : StpsAt H1 as ss) (ok : PrOk ss m c i)
    (q : ∀ p L' H', H1 L' = none → Same H1 H' → PrAt K C H' p L' as ss m c i → R p H') : ∀ x dx, H1 x = none → H1 dx = none → dx ≠ x → sp_Program___init CS K [.ref x, .int (m : Int), .int (c : Int), .int (i : Int), .ref L0] (upd (upd H1 dx (.own x)) x (.ins C dx [])) (fun v H2 => v = .non ∧ R x H2) E :=
  new_progL hC hl hst ok.m2 ok.m9 ok.c1 ok.c60 ok.i60 (by have := ok.len; omega) ok.ok (fun h => absurd ok.len (by omega)) (fun _ => q)

def sp_Program___len (K : PySem.W.Frag) : Sp := fun vs H Q _ => ∃ (C p L : Addr) (as : List Addr) (ss : List Stp) (m c i : Nat), vs = [.ref p] ∧ PrAt K C H p L as ss m c i ∧ Q (.int (ss.length : Int)) H
theorem ok_Program___len (T : Txt K mg) : FnOk P w K mg base CX0 1 T.a_Program___len T.fd_Program___len ["self"] (sp_Program___len K) := by
  refine T.F_Program___len.ok sc_Program___len (fun vs H Q E h => ?_) (fun cdv A outer s H vs Q E hr h => ?_)
  · obtain ⟨C, p, L, as, ss, m, c, i, rfl, _⟩ := h
    rfl
  · obtain ⟨C, p, L, as, ss, m, c, i, rfl, hP, q⟩ := h
    obtain ⟨dx, hp, hC⟩ := id hP.ob
    refine ⟨_, (pss_one (ps_ret (pe_callB (id := "len") (r := rLen K) cr_len (by rfl) T.m_len PySem.boot_len (pa_cons (pe_fld (pv 0) rfl) pa_nil)))), ?_⟩
    walk_at "start"
    walk_at "x"
    refine x_fldR hp hC.cl hC.s progF_s ?_
    walk_at "x"
    refine x_len (sq_of hP.lst) ?_
    rw [List.length_map, hP.st.1]
    exact q


def sp_Program___neg (C : Addr) (K : PySem.W.Frag) : Sp := fun vs H Q _ => ∃ (p L : Addr) (as : List Addr) (ss : List Stp) (m c i : Nat), vs = [.ref p] ∧ PrAt K C H p L as ss m c i ∧ PrOk ss m c i ∧
  ∀ (p' L' : Addr) (bs : List Addr) (ss' : List Stp) (H' : Hp), Same H H' → PrAt K C H' p' L' bs ss' m c i → BackOf m ss ss' → PrOk ss' m c i → Q (.ref p') H'
theorem ok_Program___neg (T : Txt K mg) : FnOk P w K mg base CX0 8 T.a_Program___neg T.fd_Program___neg ["self"] (sp_Program___neg T.C_Program K) := by
  refine T.F_Program___neg.ok sc_Program___neg (fun vs H Q E h => ?_) (fun cdv A outer s H vs Q E hr h => ?_)
  · obtain ⟨p, L, as, ss, m, c, i, rfl, _⟩ := h
    rfl
  · obtain ⟨p, L, as, ss, m, c, i, rfl, hP, ok, q⟩ := h
    obtain ⟨dx, hp, hC⟩ := id hP.ob
    have hal := hP.st.1
    have n9 := ok.len
    refine ⟨_, (pss_cons (ps_setLc (i := 1) (own := [("step", 2)]) (g := gName 2) (tt := tYes) rfl sc_Program___neg.nd rfl rfl (sw_true rfl rfl rfl (by decide +kernel)) (pi_list (pe_revL (pe_fld (pv 0) rfl))) (blkOk_by (N := N_Program___neg) (sc := defScope s_Program___neg) (by decide +kernel)) (fun _ _ _ _ _ => (pg_name (i := 2) sc_Program___neg.nd rfl (Or.inl rfl))) (fun _ _ _ _ _ => pts_nil) (fun _ _ _ _ _ => (pe_call (ok_inverse_step T) (hr.mono (by decide)) (by rfl) T.g_inverse_step T.F_inverse_step.kp T.b_inverse_step .nil pass0 (pa_cons (pv 2) (pa_cons (pe_fldK (K2 := K) rfl (pv 0) (by rfl)) pa_nil)))))
      (pss_one (ps_ret (pe_make T.mk_Program (ok_Program___init T) (hr.mono (by decide)) (by rfl) T.gc_Program T.b_Program___init .nil passL (pa_cons (pe_fld (pv 0) rfl) (pa_cons (pe_fld (pv 0) rfl) (pa_cons (pe_fld (pv 0) rfl) (pa_cons (pv 1) pa_nil)))))))), ?_⟩
    walk_at "start"
    walk_at "x"
    refine x_lcPreL ?_
    refine x_revL ?_
    walk_at "x"
    refine x_fldR hp hC.cl hC.s progF_s ?_
    refine ⟨L, _, rfl, sq_of hP.lst, fun r hr0 => ?_⟩
    have s1 := same_upd (o := .lst (as.map V.ref).reverse) hr0
    have hr1 : (upd H r (.lst (as.map V.ref).reverse)) r = some (.lst (as.map V.ref).reverse) := upd_same
    generalize upd H r (.lst (as.map V.ref).reverse) = H1 at s1 hr1
    have hrl : (as.map V.ref).reverse.length = ss.length := by rw [List.length_reverse, List.length_map, hal]
    refine x_lcL (a := r) (as.map V.ref).reverse (fun o k H' => Same H1 H' ∧ ∃ (bs : List Addr) (ss' : List Stp), H' o = some (.lst (bs.map V.ref)) ∧ StpsAt H' bs ss' ∧ BackOf m (ss.drop (ss.length - k)) ss') (fun R q => q) (sq_of hr1)
      (fun o ho => ⟨same_upd ho, [], [], upd_same, ⟨rfl, fun i x b h _ => by simp at h⟩, by rw [Nat.sub_zero, List.drop_length]; exact .nil⟩) (fun o k H' _ _ z => sq_of (z.1 _ _ hr1)) (fun x => rfl) ?_ ?_
    · rintro o k x H2 ho hx ⟨s2, bs, ss', hO, hst, hB⟩
      have hk : k < ss.length := by
        have := (List.getElem?_eq_some_iff.mp hx).1
        omega
      rw [List.getElem?_reverse (by rw [List.length_map]; omega), List.length_map] at hx
      obtain ⟨b, hb, rfl⟩ := map_getR hx
      obtain ⟨s, hs1, hs2⟩ := hP.st.get hb
      have s12 := s1.trans s2
      walk_at "x"
      refine x_fldR (s12 _ _ hp) hC.cl hC.m progF_m ?_
      walk_at "x"
      refine ⟨b, s, m, c, i, rfl, hs2.tups (Tups.same s12), ok.ok s (List.mem_of_getElem? hs1), ok.m2, ok.m9, fun b' s' H3 hb' s3 hs' => ?_⟩
      have hO3 := s3 _ _ hO
      have hl : bs.length = k := by
        rw [hst.1, hB.len, List.length_drop]
        omega
      have hT : Tups H2 (upd H3 o (.lst (bs.map V.ref ++ [V.ref b']))) := (Tups.same s3).put (no_tupL hO3)
      have hT2 : Tups H3 (upd H3 o (.lst (bs.map V.ref ++ [V.ref b']))) := (Tups.refl H3).put (no_tupL hO3)
      refine ⟨_, hO3, lt_line (by rw [List.length_map]; omega), Same.put (s2.trans s3) ho, bs ++ [b'], ss' ++ [s'], by rw [upd_same, List.map_append]; rfl, (hst.tups hT).snoc (hs'.tups hT2), ?_⟩
      have ed : ss.drop (ss.length - (k + 1)) = s :: ss.drop (ss.length - k) := by
        have hlt : ss.length - (k + 1) < ss.length := by omega
        rw [List.drop_eq_getElem_cons hlt]
        have e1 : ss.length - (k + 1) + 1 = ss.length - k := by omega
        have e2 : as.length - 1 - k = ss.length - (k + 1) := by omega
        rw [e2, List.getElem?_eq_getElem hlt] at hs1
        rw [e1, Option.some.inj hs1]
      rw [ed]
      exact .cons hb' hB
    · rintro o H2 ho ⟨s2, bs, ss', hO, hst, hB⟩
      rw [hrl, Nat.sub_self, List.drop_zero] at hB
      have s12 := s1.trans s2
      have hp2 := s12 _ _ hp
      walk_at "x"
      refine x_make1 ?_
      walk_at "x"
      refine x_fldR hp2 hC.cl hC.m progF_m ?_
      walk_at "x"
      refine x_fldR hp2 hC.cl hC.c progF_c ?_
      walk_at "x"
      refine x_fldR hp2 hC.cl hC.i progF_i ?_
      walk_at "x"
      have ok' : PrOk ss' m c i := ⟨ok.m2, ok.m9, ok.c1, ok.c60, ok.i60, by rw [hB.len]; exact n9, hB.oks ok.m2 ok.ok⟩
      exact new_prog hC hO hst ok' fun p' L' H' _ s3 hP' => q p' L' bs ss' H' (s12.trans s3) hP' hB ok'


theorem isB_some {t : V} {b : Int} (h : isB t b = true) : ∃ i : Int, t = .int i ∧ 0 ≤ i ∧ i < b := by
  cases t with
  | int i =>
    have h : (decide (0 ≤ i) && decide (i < b)) = true := h
    rw [Bool.and_eq_true, decide_eq_true_iff, decide_eq_true_iff] at h
    exact ⟨i, rfl, h.1, h.2⟩
  | _ => cases h
theorem StpsAt.take {H : Hp} {as : List Addr} {ss : List Stp} (h : StpsAt H as ss) (n : Nat) : StpsAt H (as.take n) (ss.take n) := by
  refine ⟨by rw [List.length_take, List.length_take, h.1], fun i x b e1 e2 => ?_⟩
  rw [List.getElem?_take] at e1 e2
  split at e1
  · rename_i hi
    rw [if_pos hi] at e2
    exact h.2 i x b e1 e2
  · cases e1
theorem PrOk.take {ss : List Stp} {m c i : Nat} (h : PrOk ss m c i) (n : Nat) : PrOk (ss.take n) m c i := ⟨h.m2, h.m9, h.c1, h.c60, h.i60, by have := h.len; rw [List.length_take]; omega, fun s hs => h.ok s (List.mem_of_mem_take hs)⟩
def sp_Program_part (C CS : Addr) (K : PySem.W.Frag) : Sp := fun vs H Q E => ∃ (p L : Addr) (as : List Addr) (ss : List Stp) (m c i : Nat) (y : V), vs = [.ref p, y] ∧ PrAt K C H p L as ss m c i ∧ PrOk ss m c i ∧ Odd H y ∧
  (isB y ((ss.length + 1 : Nat) : Int) = false → E (.ref CS) none H) ∧
  (∀ n : Nat, y = .int (n : Int) → n ≤ ss.length → ∀ (p' L' : Addr) (H' : Hp), H L' = none → Same H H' → PrAt K C H' p' L' (as.take n) (ss.take n) m c i → Q (.ref p') H')
theorem ok_Program_part (T : Txt K mg) : FnOk P w K mg base (L2.CX P w) 8 T.a_Program_part T.fd_Program_part ["self", "n"] (sp_Program_part T.C_Program T.E_BadStep K) := by
  refine T.F_Program_part.okX sc_Program_part (fun vs H Q E h => ?_) (fun cdv A outer s H vs Q E hr h => ?_)
  · obtain ⟨p, L, as, ss, m, c, i, y, rfl, _⟩ := h
    rfl
  · obtain ⟨p, L, as, ss, m, c, i, y, rfl, hP, ok, hy, qE, q⟩ := h
    obtain ⟨dx, hp, hC⟩ := id hP.ob
    refine ⟨_, (pss_cons (ps_if (pt_not (pt_val (pe_call (ok_is_below T) (hr.mono (by decide)) (by rfl) T.g_is_below T.F_is_below.kp T.b_is_below .nil pass0 (pa_cons (pv 1) (pa_cons (pe_op op_add (pe_callB (id := "len") (r := rLen K) cr_len (by rfl) T.m_len PySem.boot_len (pa_cons (pe_fld (pv 0) rfl) pa_nil)) pe_int) pa_nil)))))
      (pss_one (ps_raise rfl (takes_of rfl rfl rfl rfl) (pmk_own PySem.F.excBase_ValueError T.xE_BadStep T.gE_BadStep T.kE_BadStep (raises_own T.bE_BadStep T.tE_BadStep) (by exact rfl))))
      pss_nil)
      (pss_one (ps_ret (pe_make T.mk_Program (ok_Program___init T) (hr.mono (by decide)) (by rfl) T.gc_Program T.b_Program___init .nil (passes_call (takes_of rfl rfl rfl rfl) (fun _ _ _ _ h => h)) (pa_cons (pe_fld (pv 0) rfl) (pa_cons (pe_fld (pv 0) rfl) (pa_cons (pe_fld (pv 0) rfl) (pa_cons (pe_slice (r := rSlL K) sl_list (pe_fld (pv 0) rfl) po_none (po_some (pv 1))) pa_nil)))))))), ?_⟩
    walk_at "start"
    walk_at "x"
    refine x_fldR hp hC.cl hC.s progF_s ?_
    walk_at "x"
    refine x_len (sq_of hP.lst) ?_
    walk_at "x"
    refine ⟨_, _, rfl, hy, ?_⟩
    rw [List.length_map, hP.st.1, show (ss.length : Int) + 1 = ((ss.length + 1 : Nat) : Int) by omega]
    cases hb : isB y ((ss.length + 1 : Nat) : Int) with
    | false =>
      walk_at "x"
      walk_at "t"
      exact qE hb
    | true =>
    obtain ⟨n, rfl, hn⟩ : ∃ n : Nat, y = .int (n : Int) ∧ n ≤ ss.length := by
      obtain ⟨z, rfl, z0, z1⟩ := isB_some hb
      exact ⟨z.toNat, by rw [Int.toNat_of_nonneg z0], by omega⟩
    have q := q n rfl hn
    walk_at "x"
    walk_at "f"
    refine x_make1 ?_
    walk_at "x"
    refine x_fldR hp hC.cl hC.m progF_m ?_
    walk_at "x"
    refine x_fldR hp hC.cl hC.c progF_c ?_
    walk_at "x"
    refine x_fldR hp hC.cl hC.i progF_i ?_
    walk_at "x"
    refine x_sl ?_
    walk_at "x"
    refine x_fldR hp hC.cl hC.s progF_s ?_
    refine x_noPart ?_
    refine ⟨_, rfl, (n : Int), rfl, L, _, rfl, sq_of hP.lst, fun r hr0 => ?_⟩
    walk_at "x"
    rw [cut_take, ← List.map_take]
    have s1 := same_upd (o := .lst ((as.take n).map V.ref)) hr0
    exact new_prog hC upd_same ((hP.st.take n).tups (Tups.same s1)) (ok.take n) fun p' L' H' hL' s2 hP' => q p' L' H' (s1.free hL') (s1.trans s2) hP'


def sp_Program_called_back (C CS : Addr) (K : PySem.W.Frag) : Sp := fun vs H Q E => ∃ (p L : Addr) (as : List Addr) (ss : List Stp) (m c i : Nat) (y : V), vs = [.ref p, y] ∧ PrAt K C H p L as ss m c i ∧ PrOk ss m c i ∧ Odd H y ∧
  (isB y ((ss.length + 1 : Nat) : Int) = false → E (.ref CS) none H) ∧
  (∀ n : Nat, y = .int (n : Int) → n ≤ ss.length → ∀ (p' L' : Addr) (bs : List Addr) (ss' : List Stp) (H' : Hp), Same H H' → PrAt K C H' p' L' bs ss' m c i → BackOf m (ss.take n) ss' → PrOk ss' m c i → Q (.ref p') H')
theorem ok_Program_called_back (T : Txt K mg) : FnOk P w K mg base (L2.CX P w) 9 T.a_Program_called_back T.fd_Program_called_back ["self", "n"] (sp_Program_called_back T.C_Program T.E_BadStep K) := by
  refine T.F_Program_called_back.okX sc_Program_called_back (fun vs H Q E h => ?_) (fun cdv A outer s H vs Q E hr h => ?_)
  · obtain ⟨p, L, as, ss, m, c, i, y, rfl, _⟩ := h
    rfl
  · obtain ⟨p, L, as, ss, m, c, i, y, rfl, hP, ok, hy, qE, q⟩ := h
    obtain ⟨dx, hp, hC⟩ := id hP.ob
    refine ⟨_, (pss_one (ps_ret (pe_un (r := rNegM T.C_Program (sp_Program___neg T.C_Program K) [] E) (un_negM T.me_Program___neg (ok_Program___neg T) (hr.mono (by decide)) T.b_Program___neg .nil pass0) (pe_meth (pv 0) T.cl_Program T.me_Program_part (ok_Program_part T) (hr.mono (by decide)) T.b_Program_part .nil (passes_call (takes_of rfl rfl rfl rfl) (fun _ _ _ _ h => h)) (pa_cons (pv 1) pa_nil))))), ?_⟩
    walk_at "start"
    walk_at "x"
    refine x_meth1 ?_
    walk_at "x"
    refine ⟨p, dx, _, rfl, hp, rfl, ?_⟩
    walk_at "x"
    refine ⟨p, L, as, ss, m, c, i, y, rfl, hP, ok, hy, qE, fun n hn hle p1 L1 H1 _ s1 hP1 => ?_⟩
    obtain ⟨dx1, hp1, _⟩ := id hP1.ob
    refine ⟨p1, dx1, _, rfl, hp1, ?_⟩
    exact ⟨p1, L1, _, _, m, c, i, rfl, hP1, ok.take n, fun p2 L2 bs ss' H2 s2 hP2 hB ok2 => q n hn hle p2 L2 bs ss' H2 (s1.trans s2) hP2 hB ok2⟩


open Br.F
section
open PySem.Calls
theorem op_addMS {X : Cx} {CX : CXT} {k : Nat} {f C : Addr} {fd : FuncData} {ps : List Str} {sp : Sp} {E : XK} {pins : List (Addr × Obj)} {s : Shared} {σ : L2.St} {H : Hp} {x y : V} {v u : Value} {Q : VK} (hm : Meth X.K C "__add__" f) (hc : PySem.W.selfFirst X.K C = true) (F : FnOk X.prog X.w X.K X.mg X.base CX k f fd ps sp) (hr : Room k X.A) (hb : Binds X.K fd ps []) (hx : PassesAt CX X σ E)
    (I : Inv X pins σ H s) (rx : RelV x v) (ry : RelV y u) (q : rAddM C sp [] E x y H Q) : wpAny (model X.prog X.w) X.A (binaryOp .Add v u) (EP X pins σ Q) X.xe s := by
  obtain ⟨a, dx, fs, b, dy, gs, rfl, e, rfl, e2, q⟩ := q
  obtain rfl : v = Value.ref a := rx
  obtain rfl : u = Value.ref b := ry
  obtain ⟨mA, O, _⟩ := ins_get I.hok e
  obtain ⟨od, J, hl⟩ := O.look
  obtain ⟨mB, O2, _⟩ := ins_get I.hok e2
  obtain ⟨od2, J2, _⟩ := O2.look
  have X' := I.kIn
  obtain ⟨cd, hcd, hm2⟩ := PySem.W.any_some hc
  obtain ⟨rest, hm2⟩ : ∃ rest, cd.mro = .ref C :: rest := by
    cases q : cd.mro with
    | nil => rw [q] at hm2; cases hm2
    | cons a r => rw [q] at hm2; exact ⟨r, by rw [List.head?_cons] at hm2; cases (beq_iff_eq.mp hm2); rfl⟩
  unfold binaryOp
  refine wpAny_holding (wpAny_bind ?_)
  unfold binaryOp1
  refine wpAny_bind (J.type.here (wpAny_bind (J2.type.here (wpAny_bind ((PySem.W.fills_K (nm := "add") X' hcd hm2 hm.at_).here ?_)))))
  simp only [beq_self_eq_true, if_true]
  refine wpAny_bind (wpAny_pure ?_)
  simp only [Bool.and_false, Bool.false_eq_true, if_false, Bool.false_and]
  refine wpAny_bind (wpAny_pure ?_)
  simp only [Bool.false_eq_true, if_false]
  refine wpAny_bind (m := tryMethod (.ref a) _ (.ref b)) ?_
  unfold tryMethod
  refine wpAny_bind (PySem.W.special_fn X' J hm.at_ (beq_iff_eq.mp hm.fn) (wpAny_mono (run_fnS (E := fun _ => E) (us := [.ref a, .ref b]) (vs := [.ref a, .ref b]) F hr hb hx I (.cons rfl (.cons rfl .nil)) q) (fun v s' z => ?_) fun _ _ z => z))
  obtain ⟨x, H', I', rx, r, rfl, q⟩ := z
  obtain rfl : v = Value.ref r := rx
  exact wpAny_pure (wpAny_pure (wpAny_pure ⟨.ref r, H', I', rfl, q⟩))
def tAddX (C : Addr) (sp : Sp) (E : L2.St → XK) (ta tb : TE) : TE := fun σ H Q => ta σ H fun x H1 => tb σ H1 fun y H2 => rAddM C sp [] (E σ) x y H2 Q
theorem x_addX {C : Addr} {sp : Sp} {E : L2.St → XK} {ta tb : TE} {σ : L2.St} {H : Hp} {Q : VK} (h : ta σ H fun x H1 => tb σ H1 fun y H2 => rAddM C sp [] (E σ) x y H2 Q) : tAddX C sp E ta tb σ H Q := h
theorem pe_addX {X : Cx} {CX : CXT} {k : Nat} {f C : Addr} {fd : FuncData} {ps : List Str} {sp : Sp} {E : L2.St → XK} {a b : Expr} {ta tb : TE} {pos : Pos} (ha : PE X a ta) (hb : PE X b tb) (hm : Meth X.K C "__add__" f) (hc : PySem.W.selfFirst X.K C = true) (F : FnOk X.prog X.w X.K X.mg X.base CX k f fd ps sp) (hr : Room k X.A) (hbd : Binds X.K fd ps []) (hx : ∀ σ, PassesAt CX X σ (E σ)) :
    PE X (.BinOp a .Add b pos) (tAddX C sp E ta tb) := by
  refine ⟨fun pins s σ H Q I h => ?_⟩
  exact wpAny_BinOp (binT ha hb I h fun v u s2 x y H2 I2 rx ry q => op_addMS hm hc F hr hbd (hx σ) I2 rx ry q)
end

theorem StpsAt.app {H : Hp} : ∀ {as bs : List Addr} {ts us : List Stp}, StpsAt H as ts → StpsAt H bs us → StpsAt H (as ++ bs) (ts ++ us)
  | [], _, [], _, _, h => h
  | [], _, t :: ts, _, h, _ => by have := h.1; simp at this
  | a :: as, _, [], _, h, _ => by have := h.1; simp at this
  | a :: as, bs, t :: ts, us, h, h2 => by
    have hr : StpsAt H as ts := ⟨by have := h.1; simpa using this, fun i x b e1 e2 => h.2 (i + 1) x b (by simpa using e1) (by simpa using e2)⟩
    have ih := StpsAt.app hr h2
    refine ⟨congrArg (· + 1) ih.1, fun i y c e1 e2 => ?_⟩
    cases i with
    | zero => cases e1; cases e2; exact h.2 0 t a rfl rfl
    | succ i => exact ih.2 i y c (by simpa using e1) (by simpa using e2)
def sp_Program___add (C CS : Addr) (K : PySem.W.Frag) : Sp := fun vs H Q E => ∃ (p L p2 L2 : Addr) (as bs : List Addr) (ss tt : List Stp) (m c i m' c' i' : Nat), vs = [.ref p, .ref p2] ∧ PrAt K C H p L as ss m c i ∧ PrAt K C H p2 L2 bs tt m' c' i' ∧ PrOk ss m c i ∧ PrOk tt m' c' i' ∧
  (¬ (m' = m ∧ c' = c ∧ i' = i) → E (.ref CS) none H) ∧ (m' = m → c' = c → i' = i → 20000 < ss.length + tt.length → ∀ H', Same H H' → E (.ref CS) none H') ∧
  (m' = m → c' = c → i' = i → ss.length + tt.length ≤ 20000 → ∀ (p' L' : Addr) (H' : Hp), Same H H' → H L' = none → PrAt K C H' p' L' (as ++ bs) (ss ++ tt) m c i → PrOk (ss ++ tt) m c i → Q (.ref p') H')
theorem ok_Program___add (T : Txt K mg) : FnOk P w K mg base (L2.CX P w) 8 T.a_Program___add T.fd_Program___add ["self", "other"] (sp_Program___add T.C_Program T.E_BadStep K) := by
  refine T.F_Program___add.okX sc_Program___add (fun vs H Q E h => ?_) (fun cdv A outer s H vs Q E hr h => ?_)
  · obtain ⟨p, L, p2, L2, as, bs, ss, tt, m, c, i, m', c', i', rfl, _⟩ := h
    rfl
  · obtain ⟨p, L, p2, L2, as, bs, ss, tt, m, c, i, m', c', i', rfl, hP, hP2, ok, ok2, qE, qL, q⟩ := h
    obtain ⟨dx, hp, hC⟩ := id hP.ob
    obtain ⟨dx2, hp2, _⟩ := id hP2.ob
    have hal := hP.st.1
    have hbl := hP2.st.1
    refine ⟨_, (pss_cons (ps_if (pt_not (pt_val (pe_callB (id := "isinstance") (C8.call_isC T.ic_Program) (by rfl) T.m_isinstance (by decide +kernel) (pa_cons (pv 1) (pa_cons (pe_glob (v := .ref T.C_Program) (by rfl) T.gc_Program rfl) pa_nil)))))
      (pss_one (ps_raise rfl (takes_of rfl rfl rfl rfl) (pmk_own PySem.F.excBase_ValueError T.xE_BadStep T.gE_BadStep T.kE_BadStep (raises_own T.bE_BadStep T.tE_BadStep) (by exact rfl))))
      pss_nil)
      (pss_cons (ps_if (pt_cmpR op_ne (pe_fld (pv 1) rfl) (pe_fld (pv 0) rfl) (nomark _))
      (pss_one (ps_raise rfl (takes_of rfl rfl rfl rfl) (pmk_own PySem.F.excBase_ValueError T.xE_BadStep T.gE_BadStep T.kE_BadStep (raises_own T.bE_BadStep T.tE_BadStep) (by exact rfl))))
      pss_nil)
      (pss_cons (ps_if (PW.pt (pw_or (pt_cmpR op_ne (pe_fld (pv 1) rfl) (pe_fld (pv 0) rfl) (nomark _)) (pw_or1 (pt_cmpR op_ne (pe_fld (pv 1) rfl) (pe_fld (pv 0) rfl) (nomark _)))))
      (pss_one (ps_raise rfl (takes_of rfl rfl rfl rfl) (pmk_own PySem.F.excBase_ValueError T.xE_BadStep T.gE_BadStep T.kE_BadStep (raises_own T.bE_BadStep T.tE_BadStep) (by exact rfl))))
      pss_nil)
      (pss_one (ps_ret (pe_make T.mk_Program (ok_Program___init T) (hr.mono (by decide)) (by rfl) T.gc_Program T.b_Program___init .nil (passes_call (takes_of rfl rfl rfl rfl) (fun _ _ _ _ h => h)) (pa_cons (pe_fld (pv 0) rfl) (pa_cons (pe_fld (pv 0) rfl) (pa_cons (pe_fld (pv 0) rfl) (pa_cons (pe_op op_cat (pe_fld (pv 0) rfl) (pe_fld (pv 1) rfl)) pa_nil)))))))))), ?_⟩
    walk_at "start"
    walk_at "x"
    refine ⟨p2, dx2, _, rfl, hp2, _, rfl, ?_⟩
    walk_at "f"
    refine x_fldR hp2 hC.cl hC.m progF_m ?_
    walk_at "x"
    refine x_fldR hp hC.cl hC.m progF_m ?_
    walk_at "x"
    refine x_iteN (fun hh => qE fun z => hh (by omega)) (fun hh => ?_)
    walk_at "x"
    refine x_fldR hp2 hC.cl hC.c progF_c ?_
    walk_at "x"
    refine x_fldR hp hC.cl hC.c progF_c ?_
    walk_at "x"
    refine x_iteN (fun hh => ?_) (fun hh2 => ?_)
    · exact qE fun z => hh (by omega)
    walk_at "x"
    refine x_fldR hp2 hC.cl hC.i progF_i ?_
    walk_at "x"
    refine x_fldR hp hC.cl hC.i progF_i ?_
    walk_at "x"
    refine x_iteN (fun hh => ?_) (fun hh3 => ?_)
    · exact qE fun z => hh (by omega)
    have em : m = m' := by omega
    have ec : c = c' := by omega
    have ei : i = i' := by omega
    clear qE
    subst em ec ei
    have qL := qL rfl rfl rfl
    have q := q rfl rfl rfl
    walk_at "x"
    refine x_make1 ?_
    walk_at "x"
    refine x_fldR hp hC.cl hC.m progF_m ?_
    walk_at "x"
    refine x_fldR hp hC.cl hC.c progF_c ?_
    walk_at "x"
    refine x_fldR hp hC.cl hC.i progF_i ?_
    walk_at "x"
    refine x_fldR hp hC.cl hC.s progF_s ?_
    walk_at "x"
    refine x_fldR hp2 hC.cl hC.s progF_s ?_
    walk_at "x"
    refine x_cat hP.lst hP2.lst (by have := ok.len; have := ok2.len; rw [List.length_map, List.length_map]; omega) fun r hr0 => ?_
    have s1 := same_upd (o := .lst (as.map V.ref ++ bs.map V.ref)) hr0
    have e1 : (upd H r (.lst (as.map V.ref ++ bs.map V.ref))) r = some (.lst ((as ++ bs).map V.ref)) := by rw [upd_same, List.map_append]
    generalize upd H r (.lst (as.map V.ref ++ bs.map V.ref)) = H1 at s1 e1
    have hst := (hP.st.tups (Tups.same s1)).app (hP2.st.tups (Tups.same s1))
    have hn1 := ok.len
    have hn2 := ok2.len
    have okk : ∀ s, s ∈ ss ++ tt → StpOk m c i s := fun s hs => (List.mem_append.mp hs).elim (ok.ok s) (ok2.ok s)
    walk_at "x"
    exact new_progL hC e1 hst ok.m2 ok.m9 ok.c1 ok.c60 ok.i60 (by rw [List.length_append]; omega) okk (fun h H' s' => qL (by rw [List.length_append] at h; exact h) H' (s1.trans s')) (fun h p' L' H' hL' s3 hP' => q (by rw [List.length_append] at h; exact h) p' L' H' (s1.trans s3) (s1.free hL') hP' ⟨ok.m2, ok.m9, ok.c1, ok.c60, ok.i60, h, okk⟩)


end
end Br
namespace Br
open PySem PySem.Spec PyProof.Rows L2
local macro_rules | `(tactic| walk_at "x1") => `(tactic| (with_reducible first
  | refine Br.x_seq ?_ | refine Br.x_set ?_ | refine Br.x_asg ?_ | refine Br.x_next ?_ | refine Br.x_ret ?_ | refine Br.x_retN ?_ | refine Br.x_drop ?_ | refine Br.x_if ?_ | refine Br.x_brk ?_ | refine Br.x_cont ?_
  | refine Br.x_c ?_ | refine Br.x_op ?_ | refine Br.x_un ?_ | refine Br.x_I0 ?_ | refine Br.x_U ?_ | refine Br.x_EqI ?_ | refine Br.x_NeI ?_ | refine Br.x_EqB ?_ | refine Br.x_iN ?_ | refine Br.x_int1 ?_ | refine Br.x_min2 ?_ | refine Br.x_max2 ?_ | refine Br.x_nN ?_ | refine Br.x_ifE ?_
  | refine Br.x_test (b := ()) ?_ | refine Br.x_tB ?_ | refine Br.x_bl ?_ | refine Br.x_and ?_ | refine Br.x_or ?_ | refine Br.x_not ?_ | refine Br.x_andV ?_ | refine Br.x_orV ?_ | refine Br.x_notV ?_ | refine Br.x_blP ?_
  | refine Br.x_nil ?_ | refine Br.x_cons ?_ | refine Br.x_call ?_ | refine Br.x_CB ?_ | refine Br.x_BM ?_ | refine Br.x_tup ?_ | refine Br.x_lst ?_ | refine Br.x_chain ?_ | refine Br.x_par ?_ | refine Br.x_gSub ?_ | refine Br.x_gName ?_ | refine Br.x_fld ?_ | refine Br.x_fldS ?_ | refine Br.x_match ?_ | refine Br.x_else ?_ | refine Br.x_noCase ?_))
local macro_rules | `(tactic| walk_at "xv") => `(tactic| ((with_reducible refine' Br.x_var ?hvar ?_); (case hvar => rfl)))
local macro_rules | `(tactic| walk_at "xd") => `(tactic| (dsimp only [List.set_cons_zero, List.set_cons_succ, List.cons_append, List.nil_append, List.append_nil]))
local macro_rules | `(tactic| walk_at "xi") => `(tactic| ((with_reducible refine Br.x_I ?hside ?_); (case hside => first | exact Br.mul_r (by decide) (by decide) | exact Br.mul_l (by decide) (by decide) | exact Br.mul_l (by omega) (by omega) | exact Br.mul_r (by omega) (by omega) | (show (0 : Int) < _; first | decide | omega) | exact ⟨by decide, by decide⟩ | exact ⟨by omega, by omega⟩ | exact ⟨by decide, by decide, by decide⟩)))
local macro_rules | `(tactic| walk_at "x") => `(tactic| (repeat (first | walk_at "x1" | walk_at "xv" | walk_at "xi" | walk_at "xd")))
local macro_rules | `(tactic| walk_at "start") => `(tactic| (simp only [L2.start, List.map_cons, List.map_nil, List.length_cons, List.length_nil, Nat.reduceAdd, Nat.reduceSub, List.replicate, List.cons_append, List.nil_append, List.append_nil]))
local macro_rules | `(tactic| walk_at "isi") => `(tactic| first
  | refine Br.x_isi (b := true) (.base (.int _)) (by decide +kernel) ?_ | refine Br.x_isi (b := false) (.base (.int _)) (by decide +kernel) ?_
  | refine Br.x_isi (b := true) (.base (.bl _)) (by decide +kernel) ?_ | refine Br.x_isi (b := false) (.base (.bl _)) (by decide +kernel) ?_
  | refine Br.x_isi (b := false) (.base .non) (by decide +kernel) ?_
  | refine Br.x_isi (b := true) (.base (.str _)) (by decide +kernel) ?_ | refine Br.x_isi (b := false) (.base (.str _)) (by decide +kernel) ?_
  | refine Br.x_isi (b := true) (.base (.tup (by assumption))) (by decide +kernel) ?_ | refine Br.x_isi (b := false) (.base (.tup (by assumption))) (by decide +kernel) ?_
  | refine Br.x_isi (b := true) (.base (.lst (by assumption))) (by decide +kernel) ?_ | refine Br.x_isi (b := false) (.base (.lst (by assumption))) (by decide +kernel) ?_)
local macro_rules | `(tactic| walk_at "f") => `(tactic| (refine L2.iteF ?_; walk_at "x"))
local macro_rules | `(tactic| walk_at "t") => `(tactic| (refine L2.iteT ?_; walk_at "x"))
local macro_rules | `(tactic| walk_at "is") => `(tactic| (walk_at "isi"; walk_at "x"))
local macro_rules | `(tactic| walk_at "xb") => `(tactic| (simp only [Br.bindS, List.set_cons_zero, List.set_cons_succ]; walk_at "x"))

section
variable {P : Program} {w : World} {K : PySem.W.Frag} {mg : Str → Option Value} {base : Heap}


def sp_law_equal (n : Nat) (K : PySem.W.Frag) : Sp := fun vs H Q _ => ∃ v u, vs = [v, u] ∧ Eqv K H n v u ∧ Q (.bl true) H
def sp_law_all_equal (n : Nat) (K : PySem.W.Frag) : Sp := fun vs H Q _ => ∃ (a b : Addr) (xs ys : List V), vs = [.ref a, .ref b] ∧ ((H a = some (.lst xs) ∧ H b = some (.lst ys)) ∨ (H a = some (.tup xs) ∧ H b = some (.tup ys))) ∧ xs.length = ys.length ∧ ys.length ≤ 100000 ∧ (∀ (i : Nat) x y, xs[i]? = some x → ys[i]? = some y → Eqv K H n x y) ∧ Q (.bl true) H
theorem x_ixQ {K : PySem.W.Frag} {H : Hp} {a b : Addr} {xs ys : List V} {i : Int} {v : V} {Q : VK} (h : (H a = some (.lst xs) ∧ H b = some (.lst ys)) ∨ (H a = some (.tup xs) ∧ H b = some (.tup ys))) (hi : atI xs i = some v) (q : Q v H) : rIx K (.ref a) (.int i) H Q := by
  rcases h with h | h
  · exact .inl (x_ixL (sq_of h.1) hi q)
  · exact .inr (.inl (x_ixT (st_of h.1) hi q))
theorem x_ixQ2 {K : PySem.W.Frag} {H : Hp} {a b : Addr} {xs ys : List V} {i : Int} {v : V} {Q : VK} (h : (H a = some (.lst xs) ∧ H b = some (.lst ys)) ∨ (H a = some (.tup xs) ∧ H b = some (.tup ys))) (hi : atI ys i = some v) (q : Q v H) : rIx K (.ref b) (.int i) H Q := by
  rcases h with h | h
  · exact .inl (x_ixL (sq_of h.2) hi q)
  · exact .inr (.inl (x_ixT (st_of h.2) hi q))
theorem all_equal_of (T : Txt K mg) (n : Nat) (G_law_equal : FnOk P w K mg base CX0 (2 * n + 1) T.a_law_equal T.fd_law_equal ["actual", "due"] (sp_law_equal n K)) : FnOk P w K mg base CX0 (2 * n + 2) T.a_law_all_equal T.fd_law_all_equal ["actual", "due"] (sp_law_all_equal n K) := by
  refine T.F_law_all_equal.ok sc_law_all_equal (fun vs H Q E h => ?_) (fun cdv A outer s H vs Q E hr h => ?_)
  · obtain ⟨a, b, xs, ys, rfl, _⟩ := h
    rfl
  · obtain ⟨a, b, xs, ys, rfl, hab, hl, hz, he, q⟩ := h
    refine ⟨_, (pss_cons (ps_for PassesOwn.never rfl (pi_range1 (by rfl) T.m_range (pa_cons (pe_callB (id := "len") (r := rLen K) cr_len (by rfl) T.m_len PySem.boot_len (pa_cons (pv 1) pa_nil)) pa_nil)) (pg_name (i := 2) sc_law_all_equal.nd rfl (Or.inl rfl))
      (pss_one (ps_if (pt_not (pt_val (pe_call G_law_equal (hr.mono (by omega)) (by rfl) T.g_law_equal T.F_law_equal.kp T.b_law_equal .nil pass0 (pa_cons (pe_ix (r := rIx K) ix_seq (pv 0) (pv 2) (fun _ _ => rfl)) (pa_cons (pe_ix (r := rIx K) ix_seq (pv 1) (pv 2) (fun _ _ => rfl)) pa_nil)))))
      (pss_one (ps_ret pe_bl))
      pss_nil)))
      (pss_one (ps_ret pe_bl))), ?_⟩
    walk_at "start"
    refine x_forR1 (ys.length : Int) (fun i σ' H' => H = H' ∧ ∃ v2, σ' = [some (.ref a), some (.ref b), v2]) (fun R r => by
      walk_at "x"
      rcases hab with h | h
      · refine x_len (sq_of h.2) ?_
        exact r
      · refine x_lenT (st_of h.2) ?_
        exact r) (by omega) (by omega) ⟨rfl, _, rfl⟩ ?_ ?_
    · rintro i σ' H' hi ⟨rfl, v2, rfl⟩
      obtain ⟨x, gx⟩ : ∃ x, xs[i]? = some x := ⟨_, List.getElem?_eq_getElem (by omega)⟩
      obtain ⟨y, gy⟩ : ∃ y, ys[i]? = some y := ⟨_, List.getElem?_eq_getElem (by omega)⟩
      walk_at "x"
      refine x_ixQ hab (atI_nat gx) ?_
      walk_at "x"
      refine x_ixQ2 hab (atI_nat gy) ?_
      walk_at "x"
      refine ⟨x, y, rfl, he i x y gx gy, ?_⟩
      walk_at "x"
      walk_at "f"
      exact ⟨rfl, _, rfl⟩
    · rintro σ' H' ⟨rfl, v2, rfl⟩
      walk_at "x"
      exact q
theorem ok_law_equal (T : Txt K mg) : ∀ n : Nat, FnOk P w K mg base CX0 (2 * n + 1) T.a_law_equal T.fd_law_equal ["actual", "due"] (sp_law_equal n K)
  | 0 => by
    refine T.F_law_equal.ok sc_law_equal (fun vs H Q E h => ?_) (fun cdv A outer s H vs Q E hr h => ?_)
    · obtain ⟨v, u, rfl, h, _⟩ := h
      exact h.elim
    · obtain ⟨v, u, rfl, h, _⟩ := h
      exact h.elim
  | n + 1 => by
    have G_law_all_equal := all_equal_of T n (ok_law_equal T n)
    refine T.F_law_equal.ok (k := 2 * n + 2) sc_law_equal (fun vs H Q E h => ?_) (fun cdv A outer s H vs Q E hr h => ?_)
    · obtain ⟨v, u, rfl, _⟩ := h
      rfl
    · obtain ⟨v, u, rfl, h, q⟩ := h
      refine ⟨_, (pss_cons (ps_if (pt_val (pe_callB (id := "isinstance") (r := rIsi K) call_isi (by rfl) T.m_isinstance (by decide +kernel) (pa_cons (pv 1) (pa_cons (pe_bltn (v := .ty "list") (by rfl) T.m_list (by decide +kernel) rfl) pa_nil))))
      (pss_cons (ps_if (PW.pt (pw_or (pt_not (pt_val (pe_callB (id := "isinstance") (r := rIsi K) call_isi (by rfl) T.m_isinstance (by decide +kernel) (pa_cons (pv 0) (pa_cons (pe_bltn (v := .ty "list") (by rfl) T.m_list (by decide +kernel) rfl) pa_nil))))) (pw_or1 (pt_cmpR op_ne (pe_callB (id := "len") (r := rLen K) cr_len (by rfl) T.m_len PySem.boot_len (pa_cons (pv 0) pa_nil)) (pe_callB (id := "len") (r := rLen K) cr_len (by rfl) T.m_len PySem.boot_len (pa_cons (pv 1) pa_nil)) (nomark _)))))
      (pss_one (ps_ret pe_bl))
      pss_nil)
      (pss_one (ps_ret (pe_call G_law_all_equal (hr.mono (by omega)) (by rfl) T.g_law_all_equal T.F_law_all_equal.kp T.b_law_all_equal .nil pass0 (pa_cons (pv 0) (pa_cons (pv 1) pa_nil))))))
      pss_nil)
      (pss_cons (ps_if (pt_val (pe_callB (id := "isinstance") (r := rIsi K) call_isi (by rfl) T.m_isinstance (by decide +kernel) (pa_cons (pv 1) (pa_cons (pe_bltn (v := .ty "tuple") (by rfl) T.m_tuple (by decide +kernel) rfl) pa_nil))))
      (pss_cons (ps_if (PW.pt (pw_or (pt_not (pt_val (pe_callB (id := "isinstance") (r := rIsi K) call_isi (by rfl) T.m_isinstance (by decide +kernel) (pa_cons (pv 0) (pa_cons (pe_bltn (v := .ty "tuple") (by rfl) T.m_tuple (by decide +kernel) rfl) pa_nil))))) (pw_or1 (pt_cmpR op_ne (pe_callB (id := "len") (r := rLen K) cr_len (by rfl) T.m_len PySem.boot_len (pa_cons (pv 0) pa_nil)) (pe_callB (id := "len") (r := rLen K) cr_len (by rfl) T.m_len PySem.boot_len (pa_cons (pv 1) pa_nil)) (nomark _)))))
      (pss_one (ps_ret pe_bl))
      pss_nil)
      (pss_one (ps_ret (pe_call G_law_all_equal (hr.mono (by omega)) (by rfl) T.g_law_all_equal T.F_law_all_equal.kp T.b_law_all_equal .nil pass0 (pa_cons (pv 0) (pa_cons (pv 1) pa_nil))))))
      pss_nil)
      (pss_cons (ps_if (pt_val (pe_callB (id := "isinstance") (r := rIsi K) call_isi (by rfl) T.m_isinstance (by decide +kernel) (pa_cons (pv 1) (pa_cons (pe_bltn (v := .ty "bool") (by rfl) T.m_bool (by decide +kernel) rfl) pa_nil))))
      (pss_one (ps_ret (pe_and (pe_callB (id := "isinstance") (r := rIsi K) call_isi (by rfl) T.m_isinstance (by decide +kernel) (pa_cons (pv 0) (pa_cons (pe_bltn (v := .ty "bool") (by rfl) T.m_bool (by decide +kernel) rfl) pa_nil))) (pe_one (pe_cmpR op_eq (pv 0) (pv 1) (nomark _))))))
      pss_nil)
      (pss_cons (ps_if (pt_val (pe_callB (id := "isinstance") (r := rIsi K) call_isi (by rfl) T.m_isinstance (by decide +kernel) (pa_cons (pv 1) (pa_cons (pe_bltn (v := .ty "int") (by rfl) T.m_int (by decide +kernel) rfl) pa_nil))))
      (pss_one (ps_ret (pe_and (pe_callB (id := "isinstance") (r := rIsi K) call_isi (by rfl) T.m_isinstance (by decide +kernel) (pa_cons (pv 0) (pa_cons (pe_bltn (v := .ty "int") (by rfl) T.m_int (by decide +kernel) rfl) pa_nil))) (pe_and (pe_not (pe_callB (id := "isinstance") (r := rIsi K) call_isi (by rfl) T.m_isinstance (by decide +kernel) (pa_cons (pv 0) (pa_cons (pe_bltn (v := .ty "bool") (by rfl) T.m_bool (by decide +kernel) rfl) pa_nil)))) (pe_one (pe_cmpR op_eq (pv 0) (pv 1) (nomark _)))))))
      pss_nil)
      (pss_cons (ps_if (pt_val (pe_callB (id := "isinstance") (r := rIsi K) call_isi (by rfl) T.m_isinstance (by decide +kernel) (pa_cons (pv 1) (pa_cons (pe_bltn (v := .ty "str") (by rfl) T.m_str (by decide +kernel) rfl) pa_nil))))
      (pss_one (ps_ret (pe_and (pe_callB (id := "isinstance") (r := rIsi K) call_isi (by rfl) T.m_isinstance (by decide +kernel) (pa_cons (pv 0) (pa_cons (pe_bltn (v := .ty "str") (by rfl) T.m_str (by decide +kernel) rfl) pa_nil))) (pe_one (pe_cmpR op_eq (pv 0) (pv 1) (nomark _))))))
      pss_nil)
      (pss_one (ps_ret (pe_cmpR op_isN1 (pv 0) pe_non (nomark _))))))))), ?_⟩
      walk_at "start"
      rcases h with ⟨i, rfl, rfl⟩ | ⟨z, rfl, rfl⟩ | ⟨z, rfl, rfl⟩ | ⟨rfl, rfl⟩ | ⟨a, b, xs, ys, rfl, rfl, hab, hl, hz, he⟩
      · walk_at "x"
        walk_at "is"
        walk_at "f"
        walk_at "is"
        walk_at "f"
        walk_at "is"
        walk_at "f"
        walk_at "is"
        walk_at "t"
        walk_at "is"
        walk_at "t"
        walk_at "is"
        walk_at "t"
        rw [decide_eq_true rfl]
        exact q
      · walk_at "x"
        walk_at "is"
        walk_at "f"
        walk_at "is"
        walk_at "f"
        walk_at "is"
        walk_at "f"
        walk_at "is"
        walk_at "f"
        walk_at "is"
        walk_at "t"
        walk_at "is"
        walk_at "t"
        refine x_Eq rfl ?_
        rw [decide_eq_true rfl]
        exact q
      · walk_at "x"
        walk_at "is"
        walk_at "f"
        walk_at "is"
        walk_at "f"
        walk_at "is"
        walk_at "t"
        walk_at "is"
        walk_at "t"
        rw [decide_eq_true rfl]
        exact q
      · walk_at "x"
        walk_at "is"
        walk_at "f"
        walk_at "is"
        walk_at "f"
        walk_at "is"
        walk_at "f"
        walk_at "is"
        walk_at "f"
        walk_at "is"
        walk_at "f"
        rw [decide_eq_true rfl]
        exact q
      · rcases id hab with ⟨h1, h2⟩ | ⟨h1, h2⟩
        · walk_at "x"
          walk_at "is"
          walk_at "t"
          walk_at "is"
          walk_at "f"
          refine x_len (sq_of h1) ?_
          walk_at "x"
          refine x_len (sq_of h2) ?_
          walk_at "x"
          rw [hl, decide_eq_true rfl]
          walk_at "f"
          exact ⟨a, b, xs, ys, rfl, hab, hl, hz, he, q⟩
        · walk_at "x"
          walk_at "is"
          walk_at "f"
          walk_at "is"
          walk_at "t"
          walk_at "is"
          walk_at "f"
          refine x_lenT (st_of h1) ?_
          walk_at "x"
          refine x_lenT (st_of h2) ?_
          walk_at "x"
          rw [hl, decide_eq_true rfl]
          walk_at "f"
          exact ⟨a, b, xs, ys, rfl, hab, hl, hz, he, q⟩


end
end Br
namespace Br
open PySem PySem.Spec PyProof.Rows L2
local macro_rules | `(tactic| walk_at "x1") => `(tactic| (with_reducible first
  | refine Br.x_seq ?_ | refine Br.x_set ?_ | refine Br.x_asg ?_ | refine Br.x_next ?_ | refine Br.x_ret ?_ | refine Br.x_retN ?_ | refine Br.x_drop ?_ | refine Br.x_if ?_ | refine Br.x_brk ?_ | refine Br.x_cont ?_
  | refine Br.x_c ?_ | refine Br.x_op ?_ | refine Br.x_un ?_ | refine Br.x_I0 ?_ | refine Br.x_U ?_ | refine Br.x_EqI ?_ | refine Br.x_NeI ?_ | refine Br.x_EqB ?_ | refine Br.x_iN ?_ | refine Br.x_int1 ?_ | refine Br.x_min2 ?_ | refine Br.x_max2 ?_ | refine Br.x_nN ?_ | refine Br.x_ifE ?_
  | refine Br.x_test (b := ()) ?_ | refine Br.x_tB ?_ | refine Br.x_bl ?_ | refine Br.x_and ?_ | refine Br.x_or ?_ | refine Br.x_not ?_ | refine Br.x_andV ?_ | refine Br.x_orV ?_ | refine Br.x_notV ?_ | refine Br.x_blP ?_
  | refine Br.x_nil ?_ | refine Br.x_cons ?_ | refine Br.x_call ?_ | refine Br.x_CB ?_ | refine Br.x_BM ?_ | refine Br.x_tup ?_ | refine Br.x_lst ?_ | refine Br.x_chain ?_ | refine Br.x_par ?_ | refine Br.x_gSub ?_ | refine Br.x_gName ?_ | refine Br.x_fld ?_ | refine Br.x_fldS ?_ | refine Br.x_match ?_ | refine Br.x_else ?_ | refine Br.x_noCase ?_))
local macro_rules | `(tactic| walk_at "xv") => `(tactic| ((with_reducible refine' Br.x_var ?hvar ?_); (case hvar => rfl)))
local macro_rules | `(tactic| walk_at "xd") => `(tactic| (dsimp only [List.set_cons_zero, List.set_cons_succ, List.cons_append, List.nil_append, List.append_nil]))
local macro_rules | `(tactic| walk_at "xi") => `(tactic| ((with_reducible refine Br.x_I ?hside ?_); (case hside => first | exact Br.mul_r (by decide) (by decide) | exact Br.mul_l (by decide) (by decide) | exact Br.mul_l (by omega) (by omega) | exact Br.mul_r (by omega) (by omega) | (show (0 : Int) < _; first | decide | omega) | exact ⟨by decide, by decide⟩ | exact ⟨by omega, by omega⟩ | exact ⟨by decide, by decide, by decide⟩)))
local macro_rules | `(tactic| walk_at "x") => `(tactic| (repeat (first | walk_at "x1" | walk_at "xv" | walk_at "xi" | walk_at "xd")))
local macro_rules | `(tactic| walk_at "start") => `(tactic| (simp only [L2.start, List.map_cons, List.map_nil, List.length_cons, List.length_nil, Nat.reduceAdd, Nat.reduceSub, List.replicate, List.cons_append, List.nil_append, List.append_nil]))
local macro_rules | `(tactic| walk_at "isi") => `(tactic| first
  | refine Br.x_isi (b := true) (.base (.int _)) (by decide +kernel) ?_ | refine Br.x_isi (b := false) (.base (.int _)) (by decide +kernel) ?_
  | refine Br.x_isi (b := true) (.base (.bl _)) (by decide +kernel) ?_ | refine Br.x_isi (b := false) (.base (.bl _)) (by decide +kernel) ?_
  | refine Br.x_isi (b := false) (.base .non) (by decide +kernel) ?_
  | refine Br.x_isi (b := true) (.base (.str _)) (by decide +kernel) ?_ | refine Br.x_isi (b := false) (.base (.str _)) (by decide +kernel) ?_
  | refine Br.x_isi (b := true) (.base (.tup (by assumption))) (by decide +kernel) ?_ | refine Br.x_isi (b := false) (.base (.tup (by assumption))) (by decide +kernel) ?_
  | refine Br.x_isi (b := true) (.base (.lst (by assumption))) (by decide +kernel) ?_ | refine Br.x_isi (b := false) (.base (.lst (by assumption))) (by decide +kernel) ?_)
local macro_rules | `(tactic| walk_at "f") => `(tactic| (refine L2.iteF ?_; walk_at "x"))
local macro_rules | `(tactic| walk_at "t") => `(tactic| (refine L2.iteT ?_; walk_at "x"))
local macro_rules | `(tactic| walk_at "is") => `(tactic| (walk_at "isi"; walk_at "x"))
local macro_rules | `(tactic| walk_at "xb") => `(tactic| (simp only [Br.bindS, List.set_cons_zero, List.set_cons_succ]; walk_at "x"))

section
variable {P : Program} {w : World} {K : PySem.W.Frag} {mg : Str → Option Value} {base : Heap}

open Br.F
abbrev RetH (d n : Addr) (P : V → Hp → Prop) (H : Hp) (Q : VK) : Prop := ∀ v H', P v H' → Dr H' d n → Keep d H H' → Q v H'
theorem keep_tups {d n : Addr} {H H' : Hp} (k : Keep d H H') (h : Dr H d n) : Tups H H' := by
  obtain ⟨_, _, h, _⟩ := h
  exact Tups.keep k h
theorem wrap_mod {x : Int} {c : Nat} (h0 : 0 ≤ x) (h1 : x < 2 * (c : Int)) : (x % (c : Int) = x ∧ x < c) ∨ (x % (c : Int) = x - c ∧ (c : Int) ≤ x) := by
  by_cases h : x < c
  · exact .inl ⟨Int.emod_eq_of_lt h0 h, h⟩
  · refine .inr ⟨?_, by omega⟩
    rw [← Int.sub_emod_right, Int.emod_eq_of_lt (by omega) (by omega)]
theorem wrap_ne {t c : Nat} {k : Int} (ht : t < c) (h0 : 0 ≤ k) (h1 : k < (c : Int) - 1) : ∃ j : Nat, ((t : Int) + 1 + k) % (c : Int) = (j : Int) ∧ j < c ∧ j ≠ t := by
  rcases wrap_mod (x := (t : Int) + 1 + k) (c := c) (by omega) (by omega) with ⟨e, h⟩ | ⟨e, h⟩
  · exact ⟨((t : Int) + 1 + k).toNat, by omega, by omega, by omega⟩
  · exact ⟨((t : Int) + 1 + k - c).toNat, by omega, by omega, by omega⟩
theorem wrap_two {t c : Nat} {o l : Int} (ht : t < c) (h0 : 1 ≤ o) (h1 : o < l) (h2 : l < c) : ∃ a b : Nat, ((t : Int) + o) % (c : Int) = (a : Int) ∧ ((t : Int) + l) % (c : Int) = (b : Int) ∧ a < c ∧ b < c ∧ t ≠ a ∧ t ≠ b ∧ a ≠ b := by
  rcases wrap_mod (x := (t : Int) + o) (c := c) (by omega) (by omega) with ⟨e, h⟩ | ⟨e, h⟩ <;> rcases wrap_mod (x := (t : Int) + l) (c := c) (by omega) (by omega) with ⟨e2, h2⟩ | ⟨e2, h2⟩
  · exact ⟨((t : Int) + o).toNat, ((t : Int) + l).toNat, by omega, by omega, by omega, by omega, by omega, by omega, by omega⟩
  · exact ⟨((t : Int) + o).toNat, ((t : Int) + l - c).toNat, by omega, by omega, by omega, by omega, by omega, by omega, by omega⟩
  · omega
  · exact ⟨((t : Int) + o - c).toNat, ((t : Int) + l - c).toNat, by omega, by omega, by omega, by omega, by omega, by omega, by omega⟩
theorem gcd_pred {m : Int} : Int.gcd (m - 1) m = 1 := by
  have h1 := Int.gcd_dvd_left (a := m - 1) (b := m)
  have h2 := Int.gcd_dvd_right (a := m - 1) (b := m)
  have h3 : ((Int.gcd (m - 1) m : Nat) : Int) ∣ ((1 : Nat) : Int) := by
    have := Int.dvd_sub h2 h1
    rw [show m - (m - 1) = ((1 : Nat) : Int) by omega] at this
    exact this
  exact Nat.dvd_one.mp (Int.ofNat_dvd.mp h3)

def sp_law_unit (K : PySem.W.Frag) : Sp := fun vs H Q _ => ∃ (d n : Addr) (m : Nat), vs = [.ref d, .int (m : Int)] ∧ 2 ≤ m ∧ m ≤ 1000000000 ∧ Dr H d n ∧ RetD d n (fun v => ∃ z : Int, v = .int z ∧ 0 ≤ z ∧ z < m ∧ Int.gcd z m = 1) H Q
theorem ok_law_unit (T : Txt K mg) : FnOk P w K mg base CX0 5 T.a_law_unit T.fd_law_unit ["draws", "modulus"] (sp_law_unit K) := by
  refine T.F_law_unit.ok sc_law_unit (fun vs H Q E h => ?_) (fun cdv A outer s H vs Q E hr h => ?_)
  · obtain ⟨d, n, m, rfl, _⟩ := h
    rfl
  · obtain ⟨d, n, m, rfl, m2, m9, hD, q⟩ := h
    refine ⟨_, (pss_cons (ps_for PassesOwn.never rfl (pi_range1 (by rfl) T.m_range (pa_cons pe_int pa_nil)) (pg_name (i := 2) sc_law_unit.nd rfl (Or.inl rfl))
      (pss_cons (ps_set (i := 3) sc_law_unit.nd rfl (.inl rfl) (pe_call (ok_law_number T) hr (by rfl) T.g_law_number T.F_law_number.kp T.b_law_number .nil pass0 (pa_cons (pv 0) (pa_cons (pv 1) pa_nil))))
      (pss_one (ps_if (pt_cmpR op_eq (pe_call (ok_law_gcd T) (hr.mono (by decide)) (by rfl) T.g_law_gcd T.F_law_gcd.kp T.b_law_gcd .nil pass0 (pa_cons (pv 3) (pa_cons (pv 1) pa_nil))) pe_int (nomark _))
      (pss_one (ps_ret (pv 3)))
      pss_nil))))
      (pss_one (ps_ret (pe_op op_sub (pv 1) pe_int)))), ?_⟩
    walk_at "start"
    walk_at "x"
    refine x_forR1 30 (fun i σ' H' => Dr H' d n ∧ Keep d H H' ∧ ∃ v2 v3, σ' = [some (.ref d), some (.int (m : Int)), v2, v3]) (fun R r => r) (by decide) (by decide) ⟨hD, Keep.refl _ _, _, _, rfl⟩ ?_ ?_
    · rintro i σ' H1 hi ⟨hD, hk, v2, v3, rfl⟩
      walk_at "x"
      refine ⟨d, n, _, rfl, by omega, hD, ?_⟩
      rintro _ H2 ⟨z, rfl, z0, z1⟩ hD2 hk2
      walk_at "x"
      refine ⟨z, m, rfl, z0, by omega, by omega, by omega, ?_⟩
      walk_at "x"
      refine x_ite (fun hc => ?_) (fun hc => ?_)
      · walk_at "x"
        exact q _ _ ⟨z, rfl, z0, z1, by omega⟩ hD2 (hk.trans hk2)
      · walk_at "x"
        exact ⟨hD2, hk.trans hk2, _, _, rfl⟩
    · rintro σ' H1 ⟨hD, hk, v2, v3, rfl⟩
      walk_at "x"
      exact q _ _ ⟨_, rfl, by omega, by omega, gcd_pred⟩ hD hk


theorem eightP {v : V} (h : v ∈ ([.int 2, .int 3, .int 5, .int 7, .int 11, .int 13, .int 101, .int 999999937] : List V)) : ∃ p : Nat, v = .int (p : Int) ∧ IsPrime p ∧ p ≤ 1000000000 := by
  have h' : v = .int 2 ∨ v = .int 3 ∨ v = .int 5 ∨ v = .int 7 ∨ v = .int 11 ∨ v = .int 13 ∨ v = .int 101 ∨ v = .int 999999937 := by simpa using h
  rcases h' with rfl | rfl | rfl | rfl | rfl | rfl | rfl | rfl
  · exact ⟨2, rfl, p2, by decide⟩
  · exact ⟨3, rfl, p3, by decide⟩
  · exact ⟨5, rfl, p5, by decide⟩
  · exact ⟨7, rfl, p7, by decide⟩
  · exact ⟨11, rfl, p11, by decide⟩
  · exact ⟨13, rfl, p13, by decide⟩
  · exact ⟨101, rfl, p101, by decide⟩
  · exact ⟨999999937, rfl, pBig, by decide⟩
def sp_law_prime (K : PySem.W.Frag) : Sp := fun vs H Q _ => ∃ (d n : Addr), vs = [.ref d] ∧ Dr H d n ∧ RetD d n (fun v => ∃ p : Nat, v = .int (p : Int) ∧ IsPrime p ∧ p ≤ 1000000000) H Q
theorem ok_law_prime (T : Txt K mg) : FnOk P w K mg base CX0 3 T.a_law_prime T.fd_law_prime ["draws"] (sp_law_prime K) := by
  refine T.F_law_prime.ok sc_law_prime (fun vs H Q E h => ?_) (fun cdv A outer s H vs Q E hr h => ?_)
  · obtain ⟨d, n, rfl, _⟩ := h
    rfl
  · obtain ⟨d, n, rfl, hD, q⟩ := h
    refine ⟨_, (pss_one (ps_ret (pe_ix (r := rIxL K) ix_list (pe_lst (pa_cons pe_int (pa_cons pe_int (pa_cons pe_int (pa_cons pe_int (pa_cons pe_int (pa_cons pe_int (pa_cons pe_int (pa_cons pe_int pa_nil))))))))) (pe_op op_mod (pe_call (ok_law_draw T) hr (by rfl) T.g_law_draw T.F_law_draw.kp T.b_law_draw .nil pass0 (pa_cons (pv 0) pa_nil)) pe_int) (fun _ _ => rfl)))), ?_⟩
    walk_at "start"
    walk_at "x"
    refine ⟨by show 8 ≤ sizeLine; decide, fun u hu => ?_⟩
    have hne := hD.new hu
    have hk := Same.keep (d := d) (same_upd (o := .lst [.int 2, .int 3, .int 5, .int 7, .int 11, .int 13, .int 101, .int 999999937]) hu)
    have hD := hD.upd0 (o := .lst [.int 2, .int 3, .int 5, .int 7, .int 11, .int 13, .int 101, .int 999999937]) hu
    walk_at "x"
    refine ⟨d, n, rfl, hD, ?_⟩
    rintro _ H3 ⟨z, rfl, hz0, hz1⟩ hD3 hk3
    walk_at "x"
    obtain ⟨v, hv, hm⟩ := at_lt (xs := [.int 2, .int 3, .int 5, .int 7, .int 11, .int 13, .int 101, .int 999999937]) (i := z % 8) (Int.emod_nonneg _ (by decide)) (Int.emod_lt_of_pos z (show (0 : Int) < 8 by decide))
    refine x_ixL (sq_of (hk3 _ _ upd_same hne)) hv ?_
    exact q _ _ (eightP hm) hD3 (hk.trans hk3)


def RowsJ (H0 : Hp) (p n : Nat) (d nn o : Addr) (i : Nat) (H : Hp) : Prop := Dr H d nn ∧ Keep d H0 H ∧ o ≠ d ∧ o ≠ nn ∧ ∃ (as : List Addr) (t : List (List Int)), H o = some (.lst (as.map V.ref)) ∧ as.length = i ∧ t.length = i ∧
  (∀ (k : Nat) r b, t[k]? = some r → as[k]? = some b → H b = some (.tup (r.map V.int))) ∧ ∀ (k : Nat) r, t[k]? = some r → r.length = n ∧ Rg 0 p r
def sp_law_table (K : PySem.W.Frag) : Sp := fun vs H Q _ => ∃ (d n : Addr) (p : Nat), vs = [.ref d, .int (p : Int)] ∧ 2 ≤ p ∧ Dr H d n ∧ RetH d n (fun v H' => ∃ (l : Addr) (t : List (List Int)), v = .ref l ∧ TbAt H' l t ∧ IsTab p t ∧ t.length ≤ 4) H Q
theorem ok_law_table (T : Txt K mg) : FnOk P w K mg base CX0 5 T.a_law_table T.fd_law_table ["draws", "prime"] (sp_law_table K) := by
  refine T.F_law_table.ok sc_law_table (fun vs H Q E h => ?_) (fun cdv A outer s H vs Q E hr h => ?_)
  · obtain ⟨d, n, p, rfl, _⟩ := h
    rfl
  · obtain ⟨d, nn, p, rfl, hp2, hD, q⟩ := h
    refine ⟨_, (pss_cons (ps_set (i := 2) sc_law_table.nd rfl (.inr rfl) (pe_op op_add pe_int (pe_op op_mod (pe_call (ok_law_draw T) (hr.mono (by decide)) (by rfl) T.g_law_draw T.F_law_draw.kp T.b_law_draw .nil pass0 (pa_cons (pv 0) pa_nil)) (pe_callB (id := "min") (r := rMin2) (cr_min2 rfl) (by rfl) T.m_min (by decide +kernel) (pa_cons (pv 1) (pa_cons pe_int pa_nil))))))
      (pss_one (ps_ret (pe_callTy (T := "tuple") (r := rTupOf K) cr_tup_of (by rfl) T.m_tuple (by decide +kernel) (pa_cons (pe_lc (own := [("i", 3)]) (g := gName 3) (tt := tYes) rfl sc_law_table.nd (pi_range1 (by rfl) T.m_range (pa_cons (pv 2) pa_nil)) (blkOk_by (N := N_law_table) (sc := defScope s_law_table) (by decide +kernel)) (fun _ _ _ _ _ => (pg_name (i := 3) sc_law_table.nd rfl (Or.inl rfl))) (fun _ _ _ _ _ => pts_nil) (fun _ _ _ _ _ => (pe_callTy (T := "tuple") (r := rTupOf K) cr_tup_of (by rfl) T.m_tuple (by decide +kernel) (pa_cons (pe_lc (own := [("j", 4)]) (g := gName 4) (tt := tYes) rfl sc_law_table.nd (pi_range1 (by rfl) T.m_range (pa_cons (pv 2) pa_nil)) (blkOk_by (by kernel_rfl)) (fun _ _ _ _ _ => (pg_name (i := 4) sc_law_table.nd rfl (Or.inl rfl))) (fun _ _ _ _ _ => pts_nil) (fun _ _ _ _ _ => (pe_call (ok_law_number T) hr (by rfl) T.g_law_number T.F_law_number.kp T.b_law_number .nil pass0 (pa_cons (pv 0) (pa_cons (pv 1) pa_nil))))) pa_nil)))) pa_nil))))), ?_⟩
    walk_at "start"
    walk_at "x"
    refine ⟨d, nn, rfl, hD, ?_⟩
    rintro _ H5 ⟨y, rfl, hy0, hy1⟩ hD5 hk5
    have hmin : ∃ m : Nat, (if 4 < (p : Int) then (4 : Int) else p) = (m : Int) ∧ 2 ≤ m ∧ m ≤ p ∧ m ≤ 4 := by
      split
      · exact ⟨4, rfl, by decide, by omega, by decide⟩
      · exact ⟨p, rfl, hp2, by omega, by omega⟩
    obtain ⟨m, em, m2, mp, m8⟩ := hmin
    walk_at "x"
    rw [em]
    have ym0 : 0 ≤ y % (m : Int) := Int.emod_nonneg _ (by omega)
    have ym1 : y % (m : Int) < m := Int.emod_lt_of_pos _ (by omega)
    walk_at "x"
    obtain ⟨n, hn⟩ : ∃ n : Nat, 1 + y % (m : Int) = (n : Int) := ⟨(1 + y % (m : Int)).toNat, by omega⟩
    rw [hn]
    have hn1 : 1 ≤ n := by omega
    have hn4 : n ≤ 4 := by omega
    have hnp : n ≤ p := by omega
    refine x_lcR1 (n : Int) (fun o k H' => RowsJ H5 p n d nn o k H') (fun R r => ⟨_, rfl, r⟩) (by omega) (by omega) (fun o ho => ⟨hD5.upd0 ho, Same.keep (same_upd ho), hD5.new ho, hD5.newN ho, [], [], upd_same, rfl, rfl, fun k r b h _ => by simp at h, fun k r h => by simp at h⟩) (fun x => rfl) ?_ ?_
    · rintro o k H6 ho hk ⟨hD6, hk6, hod, hon, as, t, hO, hal, htl, hrow, hrz⟩
      walk_at "x"
      refine x_lcR1 (n : Int) (fun c j H' => Dr H' d nn ∧ c ≠ d ∧ c ≠ nn ∧ Keep d H6 H' ∧ ∃ row : List Int, H' c = some (.lst (row.map V.int)) ∧ row.length = j ∧ Rg 0 p row) (fun R r => ⟨_, rfl, r⟩) (by omega) (by omega) (fun c hc => ⟨hD6.upd0 hc, hD6.new hc, hD6.newN hc, Same.keep (same_upd hc), [], upd_same, rfl, .nil⟩) (fun x => rfl) ?_ ?_
      · rintro c j H7 hc hj ⟨hD7, hcd, hcn, hk7, row, hR, hrl, hrg⟩
        walk_at "x"
        refine ⟨d, nn, (p : Int), rfl, by omega, hD7, ?_⟩
        rintro _ H8 ⟨z, rfl, hz0, hz1⟩ hD8 hk8
        refine ⟨_, hk8 _ _ hR hcd, lt_line (by rw [List.length_map]; omega), hD8.upd hcd hcn, hcd, hcn, kput (hk7.trans hk8) hc, row ++ [z], map_app, by rw [List.length_append, hrl]; rfl, hrg.snoc hz0 hz1⟩
      · rintro c H7 hc ⟨hD7, hcd, hcn, hk7, row, hR, hrl, hrg⟩
        walk_at "x"
        refine x_tupL (sq_of hR) fun l hll => ?_
        have hO7 := hk7 _ _ hO hod
        have hlo : o ≠ l := ne_of_none hO7 hll
        have hld := hD7.new hll
        have hln := hD7.newN hll
        have hl6 : H6 l = none := hk7.free hD7 hll
        have hl5 : H5 l = none := hk6.free hD6 hl6
        refine ⟨as.map V.ref, by rw [upd_ne hlo]; exact hO7, lt_line (by rw [List.length_map]; omega), (hD7.upd0 hll).upd hod hon, kput (kput (hk6.trans hk7) hl5) ho, hod, hon, as ++ [l], t ++ [row], by rw [upd_same, List.map_append]; rfl, by rw [List.length_append, hal]; rfl, by rw [List.length_append, htl]; rfl, fun k2 r b e1 e2 => ?_, fun k2 r e1 => ?_⟩
        · rcases snoc_at htl e1 with ⟨h1, e1⟩ | ⟨rfl, rfl⟩
          · rcases snoc_at hal e2 with ⟨h2, e2⟩ | ⟨rfl, rfl⟩
            · have hb7 := keep_tups hk7 hD6 _ _ (hrow k2 r b e1 e2)
              rw [upd_ne (ne_of hb7 hO7 (by intro z; cases z)), upd_ne (ne_of_none hb7 hll)]
              exact hb7
            · omega
          · rcases snoc_at hal e2 with ⟨h2, e2⟩ | ⟨_, rfl⟩
            · omega
            · rw [upd_ne hlo.symm, upd_same]
        · rcases snoc_at htl e1 with ⟨h1, e1⟩ | ⟨rfl, rfl⟩
          · exact hrz k2 r e1
          · exact ⟨by omega, hrg⟩
    · rintro o H6 ho ⟨hD6, hk6, hod, hon, as, t, hO, hal, htl, hrow, hrz⟩
      walk_at "x"
      refine x_tupL (sq_of hO) fun l hll => ?_
      have htl : t.length = n := by omega
      have hI : IsTab p t := ⟨by omega, by omega, fun k r e => ⟨by rw [htl]; exact (hrz k r e).1, (hrz k r e).2⟩⟩
      refine q _ _ ⟨l, t, rfl, ⟨as, upd_same, by omega, fun k r b e1 e2 => by rw [upd_ne (ne_of_none (hrow k r b e1 e2) hll)]; exact hrow k r b e1 e2⟩, hI, by omega⟩ (hD6.upd0 hll) (kput (hk5.trans hk6) (hk5.free hD5 (hk6.free hD6 hll)))


def sp_law_factor (K : PySem.W.Frag) : Sp := fun vs H Q _ => ∃ (d n : Addr) (t c i : Nat), vs = [.ref d, .int (t : Int), .int (c : Int), .int (i : Int)] ∧ t < c ∧ c ≤ 60 ∧ i ≤ 60 ∧ (1 < c ∨ 0 < i) ∧ Dr H d n ∧ RetH d n (fun v H' => ∃ (b : Addr) (f : Fac), v = .ref b ∧ FacAt H' b f ∧ FacOk c i t f) H Q
theorem max_one {i : Nat} (h : 0 < i) : (if (i : Int) > 1 then (i : Int) else 1) = (i : Int) := by
  split <;> omega
theorem ok_law_factor (T : Txt K mg) : FnOk P w K mg base CX0 3 T.a_law_factor T.fd_law_factor ["draws", "target", "cells", "inputs"] (sp_law_factor K) := by
  refine T.F_law_factor.ok sc_law_factor (fun vs H Q E h => ?_) (fun cdv A outer s H vs Q E hr h => ?_)
  · obtain ⟨d, n, t, c, i, rfl, _⟩ := h
    rfl
  · obtain ⟨d, n, t, c, i, rfl, htc, c60, i60, hor, hD, q⟩ := h
    refine ⟨_, (pss_cons (ps_if (PW.pt (pw_and (pt_cmpR op_gt (pv 2) pe_int (nomark _)) (pw_and1 (PW.pt (pw_or (pt_cmpR op_eq (pv 3) pe_int (nomark _)) (pw_or1 (pt_cmpR op_eq (pe_op op_mod (pe_call (ok_law_draw T) hr (by rfl) T.g_law_draw T.F_law_draw.kp T.b_law_draw .nil pass0 (pa_cons (pv 0) pa_nil)) pe_int) pe_int (nomark _))))))))
      (pss_one (ps_ret (pe_tup (pa_cons pe_str (pa_cons (pe_op op_mod (pe_op op_add (pe_op op_add (pv 1) pe_int) (pe_op op_mod (pe_call (ok_law_draw T) hr (by rfl) T.g_law_draw T.F_law_draw.kp T.b_law_draw .nil pass0 (pa_cons (pv 0) pa_nil)) (pe_op op_sub (pv 2) pe_int))) (pv 2)) pa_nil)))))
      pss_nil)
      (pss_one (ps_ret (pe_tup (pa_cons pe_str (pa_cons (pe_op op_mod (pe_call (ok_law_draw T) hr (by rfl) T.g_law_draw T.F_law_draw.kp T.b_law_draw .nil pass0 (pa_cons (pv 0) pa_nil)) (pe_callB (id := "max") (r := rMax2) (cr_max2 rfl) (by rfl) T.m_max (by decide +kernel) (pa_cons pe_int (pa_cons (pv 3) pa_nil)))) pa_nil)))))), ?_⟩
    have one : ∀ (H1 : Hp), 1 < c → Dr H1 d n → Keep d H H1 → ∀ y : Int, ∀ p, H1 p = none → Q (.ref p) (upd H1 p (.tup [.str "cell", .int (((t : Int) + 1 + y % ((c : Int) - 1)) % (c : Int))])) := fun H1 hc hD1 hk1 y p hp => by
      obtain ⟨j, ej, jc, jt⟩ := wrap_ne htc (Int.emod_nonneg y (show (c : Int) - 1 ≠ 0 by omega)) (Int.emod_lt_of_pos y (show (0 : Int) < (c : Int) - 1 by omega))
      rw [ej]
      exact q _ _ ⟨p, .cell j, rfl, upd_same, ⟨jc, jt⟩⟩ (hD1.upd0 hp) (kput hk1 (hk1.free hD1 hp))
    have two : ∀ (H1 : Hp), 0 < i → Dr H1 d n → Keep d H H1 → ∀ y : Int, ∀ p, H1 p = none → Q (.ref p) (upd H1 p (.tup [.str "input", .int (y % (i : Int))])) := fun H1 hi hD1 hk1 y p hp => by
      obtain ⟨j, ej, jc⟩ : ∃ j : Nat, y % (i : Int) = (j : Int) ∧ j < i := ⟨(y % (i : Int)).toNat, by have := Int.emod_nonneg y (show (i : Int) ≠ 0 by omega); omega, by have := Int.emod_lt_of_pos y (show (0 : Int) < i by omega); omega⟩
      rw [ej]
      exact q _ _ ⟨p, .inp j, rfl, upd_same, jc⟩ (hD1.upd0 hp) (kput hk1 (hk1.free hD1 hp))
    walk_at "start"
    walk_at "x"
    refine x_ite (fun hc => ?_) (fun hc => ?_)
    · walk_at "x"
      refine x_ite (fun hi => ?_) (fun hi => ?_)
      · walk_at "t"
        refine ⟨d, n, rfl, hD, ?_⟩
        rintro _ H1 ⟨y, rfl, y0, y1⟩ hD1 hk1
        walk_at "x"
        exact ⟨by show 2 ≤ sizeLine; decide, one H1 (by omega) hD1 hk1 y⟩
      · walk_at "x"
        refine ⟨d, n, rfl, hD, ?_⟩
        rintro _ H1 ⟨z, rfl, z0, z1⟩ hD1 hk1
        walk_at "x"
        refine x_ite (fun hz => ?_) (fun hz => ?_)
        · walk_at "x"
          refine ⟨d, n, rfl, hD1, ?_⟩
          rintro _ H2 ⟨y, rfl, y0, y1⟩ hD2 hk2
          walk_at "x"
          exact ⟨by show 2 ≤ sizeLine; decide, one H2 (by omega) hD2 (hk1.trans hk2) y⟩
        · walk_at "x"
          refine ⟨d, n, rfl, hD1, ?_⟩
          rintro _ H2 ⟨y, rfl, y0, y1⟩ hD2 hk2
          walk_at "x"
          rw [max_one (by omega)]
          walk_at "x"
          exact ⟨by show 2 ≤ sizeLine; decide, two H2 (by omega) hD2 (hk1.trans hk2) y⟩
    · walk_at "f"
      refine ⟨d, n, rfl, hD, ?_⟩
      rintro _ H2 ⟨y, rfl, y0, y1⟩ hD2 hk2
      walk_at "x"
      rw [max_one (by omega)]
      walk_at "x"
      exact ⟨by show 2 ≤ sizeLine; decide, two H2 (by omega) hD2 hk2 y⟩


end
end Br
namespace Br
open PySem PySem.Spec PyProof.Rows L2
local macro_rules | `(tactic| walk_at "x1") => `(tactic| (with_reducible first
  | refine Br.x_seq ?_ | refine Br.x_set ?_ | refine Br.x_asg ?_ | refine Br.x_next ?_ | refine Br.x_ret ?_ | refine Br.x_retN ?_ | refine Br.x_drop ?_ | refine Br.x_if ?_ | refine Br.x_brk ?_ | refine Br.x_cont ?_
  | refine Br.x_c ?_ | refine Br.x_op ?_ | refine Br.x_un ?_ | refine Br.x_I0 ?_ | refine Br.x_U ?_ | refine Br.x_EqI ?_ | refine Br.x_NeI ?_ | refine Br.x_EqB ?_ | refine Br.x_iN ?_ | refine Br.x_int1 ?_ | refine Br.x_min2 ?_ | refine Br.x_max2 ?_ | refine Br.x_nN ?_ | refine Br.x_ifE ?_
  | refine Br.x_test (b := ()) ?_ | refine Br.x_tB ?_ | refine Br.x_bl ?_ | refine Br.x_and ?_ | refine Br.x_or ?_ | refine Br.x_not ?_ | refine Br.x_andV ?_ | refine Br.x_orV ?_ | refine Br.x_notV ?_ | refine Br.x_blP ?_
  | refine Br.x_nil ?_ | refine Br.x_cons ?_ | refine Br.x_call ?_ | refine Br.x_CB ?_ | refine Br.x_BM ?_ | refine Br.x_tup ?_ | refine Br.x_lst ?_ | refine Br.x_chain ?_ | refine Br.x_par ?_ | refine Br.x_gSub ?_ | refine Br.x_gName ?_ | refine Br.x_fld ?_ | refine Br.x_fldS ?_ | refine Br.x_match ?_ | refine Br.x_else ?_ | refine Br.x_noCase ?_))
local macro_rules | `(tactic| walk_at "xv") => `(tactic| ((with_reducible refine' Br.x_var ?hvar ?_); (case hvar => rfl)))
local macro_rules | `(tactic| walk_at "xd") => `(tactic| (dsimp only [List.set_cons_zero, List.set_cons_succ, List.cons_append, List.nil_append, List.append_nil]))
local macro_rules | `(tactic| walk_at "xi") => `(tactic| ((with_reducible refine Br.x_I ?hside ?_); (case hside => first | exact Br.mul_r (by decide) (by decide) | exact Br.mul_l (by decide) (by decide) | exact Br.mul_l (by omega) (by omega) | exact Br.mul_r (by omega) (by omega) | (show (0 : Int) < _; first | decide | omega) | exact ⟨by decide, by decide⟩ | exact ⟨by omega, by omega⟩ | exact ⟨by decide, by decide, by decide⟩)))
local macro_rules | `(tactic| walk_at "x") => `(tactic| (repeat (first | walk_at "x1" | walk_at "xv" | walk_at "xi" | walk_at "xd")))
local macro_rules | `(tactic| walk_at "start") => `(tactic| (simp only [L2.start, List.map_cons, List.map_nil, List.length_cons, List.length_nil, Nat.reduceAdd, Nat.reduceSub, List.replicate, List.cons_append, List.nil_append, List.append_nil]))
local macro_rules | `(tactic| walk_at "isi") => `(tactic| first
  | refine Br.x_isi (b := true) (.base (.int _)) (by decide +kernel) ?_ | refine Br.x_isi (b := false) (.base (.int _)) (by decide +kernel) ?_
  | refine Br.x_isi (b := true) (.base (.bl _)) (by decide +kernel) ?_ | refine Br.x_isi (b := false) (.base (.bl _)) (by decide +kernel) ?_
  | refine Br.x_isi (b := false) (.base .non) (by decide +kernel) ?_
  | refine Br.x_isi (b := true) (.base (.str _)) (by decide +kernel) ?_ | refine Br.x_isi (b := false) (.base (.str _)) (by decide +kernel) ?_
  | refine Br.x_isi (b := true) (.base (.tup (by assumption))) (by decide +kernel) ?_ | refine Br.x_isi (b := false) (.base (.tup (by assumption))) (by decide +kernel) ?_
  | refine Br.x_isi (b := true) (.base (.lst (by assumption))) (by decide +kernel) ?_ | refine Br.x_isi (b := false) (.base (.lst (by assumption))) (by decide +kernel) ?_)
local macro_rules | `(tactic| walk_at "f") => `(tactic| (refine L2.iteF ?_; walk_at "x"))
local macro_rules | `(tactic| walk_at "t") => `(tactic| (refine L2.iteT ?_; walk_at "x"))
local macro_rules | `(tactic| walk_at "is") => `(tactic| (walk_at "isi"; walk_at "x"))
local macro_rules | `(tactic| walk_at "xb") => `(tactic| (simp only [Br.bindS, List.set_cons_zero, List.set_cons_succ]; walk_at "x"))

section
variable {P : Program} {w : World} {K : PySem.W.Frag} {mg : Str → Option Value} {base : Heap}

open Br.F
theorem x_lcPre {σ : L2.St} {H : Hp} {Q : VK} {ta : TE} {j : Nat} {te : TE} {vs : List Nat} (h : ta σ H fun v H1 => tLc (iRng1 (tCons (tC v) tNil)) (gName j) tYes te vs σ H1 Q) : tLc (iRng1 (tCons ta tNil)) (gName j) tYes te vs σ H Q := h

def FacsI (H0 : Hp) (t c i : Nat) (d nn o : Addr) (k : Nat) (H : Hp) : Prop := Dr H d nn ∧ Keep d H0 H ∧ o ≠ d ∧ o ≠ nn ∧ ∃ (as : List Addr) (fs : List Fac), H o = some (.lst (as.map V.ref)) ∧ as.length = k ∧ fs.length = k ∧ (∀ (j : Nat) x b, fs[j]? = some x → as[j]? = some b → FacAt H b x) ∧ ∀ f, f ∈ fs → FacOk c i t f
def sp_law_step (K : PySem.W.Frag) : Sp := fun vs H Q _ => ∃ (d n : Addr) (m c i : Nat) (pr : Bool), vs = [.ref d, .int (m : Int), .int (c : Int), .int (i : Int), .bl pr] ∧ 2 ≤ m ∧ m ≤ 1000000000 ∧ 1 ≤ c ∧ c ≤ 60 ∧ i ≤ 60 ∧ (pr = true → IsPrime m) ∧ Dr H d n ∧
  RetH d n (fun v H' => ∃ (b : Addr) (s : Stp), v = .ref b ∧ StpAt H' b s ∧ StpOk m c i s) H Q
theorem ok_law_step (T : Txt K mg) : FnOk P w K mg base CX0 6 T.a_law_step T.fd_law_step ["draws", "modulus", "cells", "inputs", "prime"] (sp_law_step K) := by
  refine T.F_law_step.ok sc_law_step (fun vs H Q E h => ?_) (fun cdv A outer s H vs Q E hr h => ?_)
  · obtain ⟨d, n, m, c, i, pr, rfl, _⟩ := h
    rfl
  · obtain ⟨d, n, m, c, i, pr, rfl, m2, m9, c1, c60, i60, hpr, hD, q⟩ := h
    refine ⟨_, (pss_cons (ps_set (i := 5) sc_law_step.nd rfl (.inl rfl) (pe_op op_mod (pe_call (ok_law_draw T) (hr.mono (by decide)) (by rfl) T.g_law_draw T.F_law_draw.kp T.b_law_draw .nil pass0 (pa_cons (pv 0) pa_nil)) pe_int))
      (pss_cons (ps_set (i := 6) sc_law_step.nd rfl (.inr rfl) (pe_op op_mod (pe_call (ok_law_draw T) (hr.mono (by decide)) (by rfl) T.g_law_draw T.F_law_draw.kp T.b_law_draw .nil pass0 (pa_cons (pv 0) pa_nil)) (pv 2)))
      (Evl.pss_cut (ps_if (PW.pt (pw_and (pt_cmpR op_eq (pv 5) pe_int (nomark _)) (pw_and1 (pt_cmpR op_gt (pv 2) pe_int (nomark _)))))
      (pss_one (ps_ret (pe_tup (pa_cons pe_str (pa_cons (pv 6) (pa_cons (pe_op op_mod (pe_op op_add (pe_op op_add (pv 6) pe_int) (pe_op op_mod (pe_call (ok_law_draw T) (hr.mono (by decide)) (by rfl) T.g_law_draw T.F_law_draw.kp T.b_law_draw .nil pass0 (pa_cons (pv 0) pa_nil)) (pe_op op_sub (pv 2) pe_int))) (pv 2)) pa_nil))))))
      pss_nil)
      (pss_cons (ps_if (pt_cmpR op_eq (pv 5) pe_int (nomark _))
      (pss_one (ps_ret (pe_tup (pa_cons pe_str (pa_cons (pv 6) (pa_cons (pe_call (ok_law_unit T) hr (by rfl) T.g_law_unit T.F_law_unit.kp T.b_law_unit .nil pass0 (pa_cons (pv 0) (pa_cons (pv 1) pa_nil))) pa_nil))))))
      pss_nil)
      (Evl.pss_cut (ps_if (PW.pt (pw_and (pt_cmpR op_eq (pv 5) pe_int (nomark _)) (pw_and (pt_val (pv 4)) (pw_and1 (pt_cmpR op_gt (pv 2) pe_int (nomark _))))))
      (pss_cons (ps_set (i := 7) sc_law_step.nd rfl (.inl rfl) (pe_op op_add pe_int (pe_op op_mod (pe_call (ok_law_draw T) (hr.mono (by decide)) (by rfl) T.g_law_draw T.F_law_draw.kp T.b_law_draw .nil pass0 (pa_cons (pv 0) pa_nil)) (pe_op op_sub (pv 2) pe_int))))
      (pss_cons (ps_set (i := 8) sc_law_step.nd rfl (.inl rfl) (pe_op op_add (pe_op op_add (pv 7) pe_int) (pe_op op_mod (pe_call (ok_law_draw T) (hr.mono (by decide)) (by rfl) T.g_law_draw T.F_law_draw.kp T.b_law_draw .nil pass0 (pa_cons (pv 0) pa_nil)) (pe_op op_sub (pe_op op_sub (pv 2) pe_int) (pv 7)))))
      (pss_cons (ps_set (i := 9) sc_law_step.nd rfl (.inl rfl) (pe_tup (pa_cons (pe_op op_mod (pe_op op_add (pv 6) (pv 7)) (pv 2)) (pa_cons (pe_op op_mod (pe_op op_add (pv 6) (pv 8)) (pv 2)) pa_nil))))
      (Evl.pss_cut (ps_if (pt_cmpR op_eq (pe_op op_mod (pe_call (ok_law_draw T) (hr.mono (by decide)) (by rfl) T.g_law_draw T.F_law_draw.kp T.b_law_draw .nil pass0 (pa_cons (pv 0) pa_nil)) pe_int) pe_int (nomark _))
      (pss_one (ps_set (i := 9) sc_law_step.nd rfl (.inl rfl) (pe_tup (pa_cons (pe_ix (r := rIxT K) ix_tup (pv 9) pe_int (fun _ _ => rfl)) (pa_cons (pe_ix (r := rIxT K) ix_tup (pv 9) pe_int (fun _ _ => rfl)) pa_nil)))))
      pss_nil)
      (pss_cons (ps_set (i := 10) sc_law_step.nd rfl (.inl rfl) (pe_ix (r := rIxL K) ix_list (pe_lst (pa_cons pe_int (pa_cons (pe_op op_sub (pv 1) pe_int) pa_nil))) (pe_op op_mod (pe_call (ok_law_draw T) (hr.mono (by decide)) (by rfl) T.g_law_draw T.F_law_draw.kp T.b_law_draw .nil pass0 (pa_cons (pv 0) pa_nil)) pe_int) (fun _ _ => rfl)))
      (pss_one (ps_ret (pe_tup (pa_cons pe_str (pa_cons (pv 6) (pa_cons (pv 10) (pa_cons (pe_call (ok_law_table T) hr (by rfl) T.g_law_table T.F_law_table.kp T.b_law_table .nil pass0 (pa_cons (pv 0) (pa_cons (pv 1) pa_nil))) (pa_cons (pe_ix (r := rIxT K) ix_tup (pv 9) pe_int (fun _ _ => rfl)) (pa_cons (pe_ix (r := rIxT K) ix_tup (pv 9) pe_int (fun _ _ => rfl)) pa_nil))))))))))))))
      pss_nil)
      (pss_cons (ps_set (i := 11) sc_law_step.nd rfl (.inl rfl) (pe_lst pa_nil))
      (Evl.pss_cut (ps_if (PW.pt (pw_or (pt_cmpR op_gt (pv 2) pe_int (nomark _)) (pw_or1 (pt_cmpR op_gt (pv 3) pe_int (nomark _)))))
      (pss_one (ps_setLc (i := 11) (own := [("k", 12)]) (g := gName 12) (tt := tYes) rfl sc_law_step.nd rfl rfl (sw_true rfl rfl rfl (by decide +kernel)) (pi_range1 (by rfl) T.m_range (pa_cons (pe_op op_mod (pe_call (ok_law_draw T) (hr.mono (by decide)) (by rfl) T.g_law_draw T.F_law_draw.kp T.b_law_draw .nil pass0 (pa_cons (pv 0) pa_nil)) pe_int) pa_nil)) (blkOk_by (N := N_law_step) (sc := defScope s_law_step) (by decide +kernel)) (fun _ _ _ _ _ => (pg_name (i := 12) sc_law_step.nd rfl (Or.inl rfl))) (fun _ _ _ _ _ => pts_nil) (fun _ _ _ _ _ => (pe_call (ok_law_factor T) (hr.mono (by decide)) (by rfl) T.g_law_factor T.F_law_factor.kp T.b_law_factor .nil pass0 (pa_cons (pv 0) (pa_cons (pv 6) (pa_cons (pv 2) (pa_cons (pv 3) pa_nil))))))))
      pss_nil)
      (pss_one (ps_ret (pe_tup (pa_cons pe_str (pa_cons (pv 6) (pa_cons (pe_call (ok_law_number T) (hr.mono (by decide)) (by rfl) T.g_law_number T.F_law_number.kp T.b_law_number .nil pass0 (pa_cons (pv 0) (pa_cons (pv 1) pa_nil))) (pa_cons (pe_callTy (T := "tuple") (r := rTupOf K) cr_tup_of (by rfl) T.m_tuple (by decide +kernel) (pa_cons (pv 11) pa_nil)) pa_nil)))))))))))))), ?_⟩
    walk_at "start"
    walk_at "x"
    refine ⟨d, n, rfl, hD, ?_⟩
    rintro _ H1 ⟨z, rfl, z0, z1⟩ hD1 hk1
    walk_at "x"
    refine ⟨d, n, rfl, hD1, ?_⟩
    rintro _ H2 ⟨y, rfl, y0, y1⟩ hD2 hk2
    have hk2 := hk1.trans hk2
    walk_at "x"
    obtain ⟨t, et, htc⟩ := cast_lt (x := y % (c : Int)) (c := c) (Int.emod_nonneg y (show (c : Int) ≠ 0 by omega)) (Int.emod_lt_of_pos y (show (0 : Int) < (c : Int) by omega))
    rw [et]
    refine x_cut (fun σ' H' => [some (V.ref d), some (.int (m : Int)), some (.int (c : Int)), some (.int (i : Int)), some (.bl pr), some (.int (z % 8)), some (.int (t : Int)), none, none, none, none, none, none] = σ' ∧ H2 = H') ?_ ?_
    · walk_at "x"
      refine x_ite (fun h0 => ?_) (fun h0 => ?_)
      · walk_at "x"
        refine x_ite (fun h1 => ?_) (fun h1 => ?_)
        · walk_at "x"
          refine ⟨d, n, rfl, hD2, ?_⟩
          rintro _ H3 ⟨w, rfl, w0, w1⟩ hD3 hk3
          walk_at "x"
          refine ⟨by show 3 ≤ sizeLine; decide, fun p hp => ?_⟩
          obtain ⟨j, ej, jc, jt⟩ := wrap_ne htc (Int.emod_nonneg w (show (c : Int) - 1 ≠ 0 by omega)) (Int.emod_lt_of_pos w (show (0 : Int) < (c : Int) - 1 by omega))
          rw [ej]
          exact q _ _ ⟨p, .swap t j, rfl, upd_same, ⟨htc, jc, jt.symm⟩⟩ (hD3.upd0 hp) (kput (hk2.trans hk3) (hk2.free hD2 (hk3.free hD3 hp)))
        · walk_at "x"
          exact ⟨rfl, rfl⟩
      · walk_at "f"
        exact ⟨rfl, rfl⟩
    rintro _ _ ⟨rfl, rfl⟩
    walk_at "x"
    refine x_ite (fun h1 => ?_) (fun h1 => ?_)
    · walk_at "x"
      refine ⟨d, n, m, rfl, m2, m9, hD2, ?_⟩
      rintro _ H3 ⟨u, rfl, u0, u1, ug⟩ hD3 hk3
      walk_at "x"
      refine ⟨by show 3 ≤ sizeLine; decide, fun p hp => ?_⟩
      exact q _ _ ⟨p, .scale t u, rfl, upd_same, ⟨htc, u0, u1, ug⟩⟩ (hD3.upd0 hp) (kput (hk2.trans hk3) (hk2.free hD2 (hk3.free hD3 hp)))
    walk_at "x"
    refine x_cut (fun σ' H' => [some (V.ref d), some (.int (m : Int)), some (.int (c : Int)), some (.int (i : Int)), some (.bl pr), some (.int (z % 8)), some (.int (t : Int)), none, none, none, none, none, none] = σ' ∧ H2 = H') ?_ ?_
    · walk_at "x"
      refine x_ite (fun h2 => ?_) (fun h2 => ?_)
      · walk_at "x"
        refine x_iteB (fun hp => ?_) (fun hp => ?_)
        · walk_at "x"
          refine x_ite (fun h3 => ?_) (fun h3 => ?_)
          · walk_at "x"
            refine ⟨d, n, rfl, hD2, ?_⟩
            rintro _ H3 ⟨w, rfl, w0, w1⟩ hD3 hk3
            have hk3 := hk2.trans hk3
            walk_at "x"
            obtain ⟨o, eo, o1, o2⟩ : ∃ o : Int, 1 + w % ((c : Int) - 2) = o ∧ 1 ≤ o ∧ o ≤ (c : Int) - 2 := ⟨_, rfl, by have := Int.emod_nonneg w (show (c : Int) - 2 ≠ 0 by omega); omega, by have := Int.emod_lt_of_pos w (show (0 : Int) < (c : Int) - 2 by omega); omega⟩
            rw [eo]
            refine ⟨d, n, rfl, hD3, ?_⟩
            rintro _ H4 ⟨x, rfl, x0, x1⟩ hD4 hk4
            have hk4 := hk3.trans hk4
            walk_at "x"
            obtain ⟨l, el, l1, l2⟩ : ∃ l : Int, o + 1 + x % ((c : Int) - 1 - o) = l ∧ o < l ∧ l < (c : Int) := ⟨_, rfl, by have := Int.emod_nonneg x (show (c : Int) - 1 - o ≠ 0 by omega); omega, by have := Int.emod_lt_of_pos x (show (0 : Int) < (c : Int) - 1 - o by omega); omega⟩
            rw [el]
            refine ⟨by show 2 ≤ sizeLine; decide, fun p hp0 => ?_⟩
            obtain ⟨a, b, ea, eb, ac, bc, ta, tb, ab⟩ := wrap_two htc o1 l1 l2
            rw [ea, eb]
            have hD5 := hD4.upd0 (o := .tup [.int (a : Int), .int (b : Int)]) hp0
            have hk5 := kput (o := .tup [.int (a : Int), .int (b : Int)]) hk4 (hk4.free hD4 hp0)
            walk_at "x"
            refine x_cut (fun σ' H' => ∃ (p : Addr) (a b : Nat), [some (V.ref d), some (.int (m : Int)), some (.int (c : Int)), some (.int (i : Int)), some (.bl pr), some (.int (z % 8)), some (.int (t : Int)), some (.int o), some (.int l), some (.ref p), none, none, none] = σ' ∧ Dr H' d n ∧ Keep d H H' ∧ H' p = some (.tup [.int (a : Int), .int (b : Int)]) ∧ a < c ∧ b < c ∧ t ≠ a ∧ t ≠ b ∧ a ≠ b) ?_ ?_
            · walk_at "x"
              refine ⟨d, n, rfl, hD5, ?_⟩
              rintro _ H6 ⟨v, rfl, v0, v1⟩ hD6 hk6
              have hp6 := keep_tups hk6 hD5 _ _ upd_same
              have hk6 := hk5.trans hk6
              walk_at "x"
              refine x_ite (fun hv => ?_) (fun hv => ?_)
              · walk_at "x"
                refine x_ixT (v := .int (b : Int)) (st_of hp6) (atI_nat (j := 1) rfl) ?_
                walk_at "x"
                refine x_ixT (v := .int (a : Int)) (st_of hp6) (atI_nat (j := 0) rfl) ?_
                walk_at "x"
                refine ⟨by show 2 ≤ sizeLine; decide, fun p2 hp2 => ?_⟩
                walk_at "x"
                exact ⟨p2, b, a, rfl, hD6.upd0 hp2, kput hk6 (hk6.free hD6 hp2), upd_same, bc, ac, tb, ta, ab.symm⟩
              · walk_at "x"
                exact ⟨p, a, b, rfl, hD6, hk6, hp6, ac, bc, ta, tb, ab⟩
            clear hp0 hD5 hk5 ea eb
            clear ac bc ta tb ab
            rintro _ H6 ⟨p, a, b, rfl, hD6, hk6, hp6, ac, bc, ta, tb, ab⟩
            walk_at "x"
            refine ⟨by show 2 ≤ sizeLine; decide, fun u hu => ?_⟩
            have hne := hD6.new hu
            have hp7 := same_upd (o := .lst [.int 1, .int ((m : Int) - 1)]) hu _ _ hp6
            have hk7 := kput (o := .lst [.int 1, .int ((m : Int) - 1)]) hk6 (hk6.free hD6 hu)
            have hD7 := hD6.upd0 (o := .lst [.int 1, .int ((m : Int) - 1)]) hu
            walk_at "x"
            refine ⟨d, n, rfl, hD7, ?_⟩
            rintro _ H8 ⟨v, rfl, v0, v1⟩ hD8 hk8
            have hp8 := keep_tups hk8 hD7 _ _ hp7
            walk_at "x"
            obtain ⟨g, hv, hm⟩ := at_lt (xs := [.int 1, .int ((m : Int) - 1)]) (i := v % 2) (Int.emod_nonneg _ (by decide)) (Int.emod_lt_of_pos v (show (0 : Int) < 2 by decide))
            refine x_ixL (sq_of (hk8 _ _ upd_same hne)) hv ?_
            have hk8 := hk7.trans hk8
            obtain ⟨g, rfl, hg⟩ : ∃ g' : Int, g = .int g' ∧ (g' = 1 ∨ g' = (m : Int) - 1) := by
              have hm' : g = .int 1 ∨ g = .int ((m : Int) - 1) := by simpa using hm
              rcases hm' with e | e
              · exact ⟨_, e, .inl rfl⟩
              · exact ⟨_, e, .inr rfl⟩
            walk_at "x"
            refine ⟨d, n, m, rfl, m2, hD8, ?_⟩
            rintro _ H9 ⟨f, tbl, rfl, hT, hI, hl4⟩ hD9 hk9
            have hp9 := keep_tups hk9 hD8 _ _ hp8
            have hk9 := hk8.trans hk9
            walk_at "x"
            refine x_ixT (v := .int (a : Int)) (st_of hp9) (atI_nat (j := 0) rfl) ?_
            walk_at "x"
            refine x_ixT (v := .int (b : Int)) (st_of hp9) (atI_nat (j := 1) rfl) ?_
            walk_at "x"
            refine ⟨by show 6 ≤ sizeLine; decide, fun r hr0 => ?_⟩
            exact q _ _ ⟨r, .tab t g tbl a b, rfl, ⟨f, upd_same, hT.tups (Tups.same (same_upd hr0))⟩, ⟨htc, ac, bc, ta, tb, ab, hg, hI, by omega, hpr hp⟩⟩ (hD9.upd0 hr0) (kput hk9 (hk9.free hD9 hr0))
          · walk_at "x"
            exact ⟨rfl, rfl⟩
        · walk_at "f"
          exact ⟨rfl, rfl⟩
      · walk_at "f"
        exact ⟨rfl, rfl⟩
    rintro _ _ ⟨rfl, rfl⟩
    walk_at "x"
    refine ⟨Nat.zero_le _, fun o ho => ?_⟩
    have hD3 := hD2.upd0 (o := .lst []) ho
    have hk3 := kput (o := .lst []) hk2 (hk2.free hD2 ho)
    walk_at "x"
    refine x_cut (fun σ' H' => ∃ o : Addr, [some (V.ref d), some (.int (m : Int)), some (.int (c : Int)), some (.int (i : Int)), some (.bl pr), some (.int (z % 8)), some (.int (t : Int)), none, none, none, none, some (.ref o), none] = σ' ∧ ∃ k, k ≤ 3 ∧ FacsI H t c i d n o k H') ?_ ?_
    · have body : ∀ R : VK, (1 < c ∨ 0 < i) → (∀ (o : Addr) (k : Nat) (H' : Hp), k ≤ 3 → FacsI H t c i d n o k H' → R (.ref o) H') → ∀ (v : Int) (H4 : Hp), 0 ≤ v → Dr H4 d n → Keep d H H4 → ∀ te : TE, (∀ (w : Int) (H5 : Hp) (R : VK), Dr H5 d n → RetH d n (fun v H' => ∃ (b : Addr) (f : Fac), v = .ref b ∧ FacAt H' b f ∧ FacOk c i t f) H5 R → te [some (V.ref d), some (.int (m : Int)), some (.int (c : Int)), some (.int (i : Int)), some (.bl pr), some (.int (z % 8)), some (.int (t : Int)), none, none, none, none, some (.ref o), some (.int w)] H5 R) →
          tLc (iRng1 (tCons (tC (.int (v % 4))) tNil)) (gName 12) tYes te [12] [some (V.ref d), some (.int (m : Int)), some (.int (c : Int)), some (.int (i : Int)), some (.bl pr), some (.int (z % 8)), some (.int (t : Int)), none, none, none, none, some (.ref o), none] H4 R := by
        intro R hor fin v H4 v0 hD4 hk4 te hte
        have w0 := Int.emod_nonneg v (show (4 : Int) ≠ 0 by decide)
        have w1 := Int.emod_lt_of_pos v (show (0 : Int) < 4 by decide)
        refine x_lcR1 (v % 4) (fun o k H' => FacsI H t c i d n o k H') (fun R r => r) (by omega) (by omega) (fun o ho => ⟨hD4.upd0 ho, kput hk4 (hk4.free hD4 ho), hD4.new ho, hD4.newN ho, [], [], upd_same, rfl, rfl, fun j x b h _ => by simp at h, fun f h => by simp at h⟩) (fun x => rfl) ?_ ?_
        · rintro o k H5 ho5 hk ⟨hD5, hk5, hod, hon, as, fs, hO, hal, hfl, hat, hok⟩
          refine hte _ _ _ hD5 ?_
          rintro _ H6 ⟨b, f, rfl, hf, hfo⟩ hD6 hk6
          have hO6 := hk6 _ _ hO hod
          refine ⟨_, hO6, lt_line (by rw [List.length_map]; omega), hD6.upd hod hon, kput (hk5.trans hk6) (hk4.free hD4 ho5), hod, hon, as ++ [b], fs ++ [f], by rw [upd_same, List.map_append]; rfl, by rw [List.length_append, hal]; rfl, by rw [List.length_append, hfl]; rfl, ?_, ?_⟩
          · intro j x b' e1 e2
            have hT : Tups H5 (upd H6 o (.lst (as.map V.ref ++ [V.ref b]))) := (keep_tups hk6 hD5).put (no_tupL hO6)
            have hT2 : Tups H6 (upd H6 o (.lst (as.map V.ref ++ [V.ref b]))) := (Tups.refl H6).put (no_tupL hO6)
            rcases snoc_at hfl e1 with ⟨h1, e1⟩ | ⟨rfl, rfl⟩
            · rcases snoc_at hal e2 with ⟨h2, e2⟩ | ⟨rfl, rfl⟩
              · exact (hat j x b' e1 e2).tups hT
              · omega
            · rcases snoc_at hal e2 with ⟨h2, e2⟩ | ⟨_, rfl⟩
              · omega
              · exact hf.tups hT2
          · intro x hx
            rcases List.mem_append.mp hx with hx | hx
            · exact hok x hx
            · rw [List.mem_singleton.mp hx]; exact hfo
        · rintro o H5 ho5 hI
          exact fin o _ H5 (by omega) hI
      have fin : ∀ (o : Addr) (k : Nat) (H' : Hp), k ≤ 3 → FacsI H t c i d n o k H' → ∃ o' : Addr, [some (V.ref d), some (.int (m : Int)), some (.int (c : Int)), some (.int (i : Int)), some (.bl pr), some (.int (z % 8)), some (.int (t : Int)), none, none, none, none, some (.ref o'), none] = [some (V.ref d), some (.int (m : Int)), some (.int (c : Int)), some (.int (i : Int)), some (.bl pr), some (.int (z % 8)), some (.int (t : Int)), none, none, none, none, some (.ref o), none] ∧ ∃ k, k ≤ 3 ∧ FacsI H t c i d n o' k H' := fun o k H' hk hI => ⟨o, rfl, k, hk, hI⟩
      walk_at "x"
      refine x_ite (fun h1 => ?_) (fun h1 => ?_)
      · walk_at "t"
        refine x_lcPre ?_
        walk_at "x"
        refine ⟨d, n, rfl, hD3, ?_⟩
        rintro _ H4 ⟨v, rfl, v0, v1⟩ hD4 hk4
        walk_at "x"
        refine body _ (.inl (by omega)) (fun o k H' hk hI => ?_) v H4 v0 hD4 (hk3.trans hk4) _ (fun w H5 R hD5 hR => ?_)
        · walk_at "x"
          exact fin o k H' hk hI
        · walk_at "x"
          exact ⟨d, n, t, c, i, rfl, htc, c60, i60, .inl (by omega), hD5, hR⟩
      · walk_at "x"
        refine x_ite (fun h2 => ?_) (fun h2 => ?_)
        · walk_at "x"
          refine x_lcPre ?_
          walk_at "x"
          refine ⟨d, n, rfl, hD3, ?_⟩
          rintro _ H4 ⟨v, rfl, v0, v1⟩ hD4 hk4
          walk_at "x"
          refine body _ (.inr (by omega)) (fun o k H' hk hI => ?_) v H4 v0 hD4 (hk3.trans hk4) _ (fun w H5 R hD5 hR => ?_)
          · walk_at "x"
            exact fin o k H' hk hI
          · walk_at "x"
            exact ⟨d, n, t, c, i, rfl, htc, c60, i60, .inr (by omega), hD5, hR⟩
        · walk_at "x"
          exact ⟨o, rfl, 0, by omega, hD3, hk3, hD2.new ho, hD2.newN ho, [], [], upd_same, rfl, rfl, fun j x b h _ => by simp at h, fun f h => by simp at h⟩
    clear hD3 hk3 ho
    rintro _ H4 ⟨o, rfl, k, hk, hD4, hk4, hod, hon, as, fs, hO, hal, hfl, hat, hok⟩
    walk_at "x"
    refine ⟨d, n, _, rfl, by omega, hD4, ?_⟩
    rintro _ H5 ⟨u, rfl, u0, u1⟩ hD5 hk5
    walk_at "x"
    refine x_tupL (sq_of (hk5 _ _ hO hod)) fun r hr0 => ?_
    walk_at "x"
    refine ⟨by show 4 ≤ sizeLine; decide, fun p hp => ?_⟩
    have hT : Tups H4 (upd (upd H5 r (.tup (as.map V.ref))) p (.tup [.str "add", .int (t : Int), .int u, .ref r])) := (keep_tups hk5 hD4).trans (Tups.same ((same_upd hr0).trans (same_upd hp)))
    exact q _ _ ⟨p, .add t u fs, rfl, ⟨r, as, upd_same, same_upd hp _ _ upd_same, by omega, fun j x b e1 e2 => (hat j x b e1 e2).tups hT⟩, ⟨htc, u0, u1, by omega, hok⟩⟩ ((hD5.upd0 hr0).upd0 hp) (kput (kput (hk4.trans hk5) (hk4.free hD4 (hk5.free hD5 hr0))) (hk4.free hD4 (hk5.free hD5 ((same_upd hr0).free hp))))


end
end Br
namespace Br
open PySem PySem.Spec PyProof.Rows L2
local macro_rules | `(tactic| walk_at "x1") => `(tactic| (with_reducible first
  | refine Br.x_seq ?_ | refine Br.x_set ?_ | refine Br.x_asg ?_ | refine Br.x_next ?_ | refine Br.x_ret ?_ | refine Br.x_retN ?_ | refine Br.x_drop ?_ | refine Br.x_if ?_ | refine Br.x_brk ?_ | refine Br.x_cont ?_
  | refine Br.x_c ?_ | refine Br.x_op ?_ | refine Br.x_un ?_ | refine Br.x_I0 ?_ | refine Br.x_U ?_ | refine Br.x_EqI ?_ | refine Br.x_NeI ?_ | refine Br.x_EqB ?_ | refine Br.x_iN ?_ | refine Br.x_int1 ?_ | refine Br.x_min2 ?_ | refine Br.x_max2 ?_ | refine Br.x_nN ?_ | refine Br.x_ifE ?_
  | refine Br.x_test (b := ()) ?_ | refine Br.x_tB ?_ | refine Br.x_bl ?_ | refine Br.x_and ?_ | refine Br.x_or ?_ | refine Br.x_not ?_ | refine Br.x_andV ?_ | refine Br.x_orV ?_ | refine Br.x_notV ?_ | refine Br.x_blP ?_
  | refine Br.x_nil ?_ | refine Br.x_cons ?_ | refine Br.x_call ?_ | refine Br.x_CB ?_ | refine Br.x_BM ?_ | refine Br.x_tup ?_ | refine Br.x_lst ?_ | refine Br.x_chain ?_ | refine Br.x_par ?_ | refine Br.x_gSub ?_ | refine Br.x_gName ?_ | refine Br.x_fld ?_ | refine Br.x_fldS ?_ | refine Br.x_match ?_ | refine Br.x_else ?_ | refine Br.x_noCase ?_))
local macro_rules | `(tactic| walk_at "xv") => `(tactic| ((with_reducible refine' Br.x_var ?hvar ?_); (case hvar => rfl)))
local macro_rules | `(tactic| walk_at "xd") => `(tactic| (dsimp only [List.set_cons_zero, List.set_cons_succ, List.cons_append, List.nil_append, List.append_nil]))
local macro_rules | `(tactic| walk_at "xi") => `(tactic| ((with_reducible refine Br.x_I ?hside ?_); (case hside => first | exact Br.mul_r (by decide) (by decide) | exact Br.mul_l (by decide) (by decide) | exact Br.mul_l (by omega) (by omega) | exact Br.mul_r (by omega) (by omega) | (show (0 : Int) < _; first | decide | omega) | exact ⟨by decide, by decide⟩ | exact ⟨by omega, by omega⟩ | exact ⟨by decide, by decide, by decide⟩)))
local macro_rules | `(tactic| walk_at "x") => `(tactic| (repeat (first | walk_at "x1" | walk_at "xv" | walk_at "xi" | walk_at "xd")))
local macro_rules | `(tactic| walk_at "start") => `(tactic| (simp only [L2.start, List.map_cons, List.map_nil, List.length_cons, List.length_nil, Nat.reduceAdd, Nat.reduceSub, List.replicate, List.cons_append, List.nil_append, List.append_nil]))
local macro_rules | `(tactic| walk_at "isi") => `(tactic| first
  | refine Br.x_isi (b := true) (.base (.int _)) (by decide +kernel) ?_ | refine Br.x_isi (b := false) (.base (.int _)) (by decide +kernel) ?_
  | refine Br.x_isi (b := true) (.base (.bl _)) (by decide +kernel) ?_ | refine Br.x_isi (b := false) (.base (.bl _)) (by decide +kernel) ?_
  | refine Br.x_isi (b := false) (.base .non) (by decide +kernel) ?_
  | refine Br.x_isi (b := true) (.base (.str _)) (by decide +kernel) ?_ | refine Br.x_isi (b := false) (.base (.str _)) (by decide +kernel) ?_
  | refine Br.x_isi (b := true) (.base (.tup (by assumption))) (by decide +kernel) ?_ | refine Br.x_isi (b := false) (.base (.tup (by assumption))) (by decide +kernel) ?_
  | refine Br.x_isi (b := true) (.base (.lst (by assumption))) (by decide +kernel) ?_ | refine Br.x_isi (b := false) (.base (.lst (by assumption))) (by decide +kernel) ?_)
local macro_rules | `(tactic| walk_at "f") => `(tactic| (refine L2.iteF ?_; walk_at "x"))
local macro_rules | `(tactic| walk_at "t") => `(tactic| (refine L2.iteT ?_; walk_at "x"))
local macro_rules | `(tactic| walk_at "is") => `(tactic| (walk_at "isi"; walk_at "x"))
local macro_rules | `(tactic| walk_at "xb") => `(tactic| (simp only [Br.bindS, List.set_cons_zero, List.set_cons_succ]; walk_at "x"))

section
variable {P : Program} {w : World} {K : PySem.W.Frag} {mg : Str → Option Value} {base : Heap}

open Br.F
def mdl (m c i : Int) (L : Addr) : List (Key × V) := [(.inr "modulus", .int m), (.inr "cells", .int c), (.inr "inputs", .int i), (.inr "steps", .ref L)]
theorem mdl_m {m c i : Int} {L : Addr} {ex : List (Key × V)} : valV (mdl m c i L ++ ex) (.inr "modulus") = some (.int m) := rfl
theorem mdl_c {m c i : Int} {L : Addr} {ex : List (Key × V)} : valV (mdl m c i L ++ ex) (.inr "cells") = some (.int c) := rfl
theorem mdl_i {m c i : Int} {L : Addr} {ex : List (Key × V)} : valV (mdl m c i L ++ ex) (.inr "inputs") = some (.int i) := rfl
theorem mdl_s {m c i : Int} {L : Addr} {ex : List (Key × V)} : valV (mdl m c i L ++ ex) (.inr "steps") = some (.ref L) := rfl
theorem mdl_mk {m c i : Int} {L : Addr} {b : Bool} : mergeK [] (mdl m c i L ++ [(.inr "prime", .bl b)]) = mdl m c i L ++ [(.inr "prime", .bl b)] := rfl
section
variable {σ : L2.St} {H : Hp} {D : Ends} {Q : VK}
theorem x_disp {trs : List (TE × TE)} (h : ∀ p, H p = none → tPairs trs σ (upd H p (.dK [])) fun ps H2 => H2 p = some (.dK []) ∧ ∃ kvs : List (Key × V), ps = kvs.map (fun kv => (kV kv.1, kv.2)) ∧ kvs.length ≤ 15 ∧ Q (.ref p) (upd H2 p (.dK (mergeK [] kvs)))) : tDisp trs σ H Q := h
theorem x_pair0 {R : List (V × V) → Hp → Prop} (h : R [] H) : tPairs [] σ H R := h
theorem x_pair {R : List (V × V) → Hp → Prop} {tk tv : TE} {r : List (TE × TE)} (h : tk σ H fun x H1 => tv σ H1 fun y H2 => tPairs r σ H2 fun ps H3 => R ((x, y) :: ps) H3) : tPairs ((tk, tv) :: r) σ H R := h
theorem x_dgVC {i : Nat} {a : Addr} {z : Str} {v : V} {kvs : List (Key × V)} (hσ : σ[i]? = some (some (.ref a))) (hD : H a = some (.dK kvs)) (e : valV kvs (.inr z) = some v) (q : Q v H) : tDGet (tVar i) (tC (.str z)) σ H Q :=
  ⟨.ref a, hσ, a, v, rfl, .inl ⟨kvs, .inr z, .inl hD, rfl, e.symm⟩, q⟩
theorem x_make {C : Addr} {sp : Sp} {dvs : List V} {E : XK} {t : TA} (h : t σ H fun vs H1 => ∀ x dx, H1 x = none → H1 dx = none → dx ≠ x → sp (.ref x :: (vs ++ dvs)) (upd (upd H1 dx (.own x)) x (.ins C dx [])) (fun v H2 => v = .non ∧ Q (.ref x) H2) E) : tMake C sp dvs E t σ H Q := h
theorem x_meth {C : Addr} {m : Str} {sp : Sp} {dvs : List V} {E : XK} {ta : TE} {t : TA} (h : ta σ H fun x H1 => ∃ a dx fs, x = .ref a ∧ H1 a = some (.ins C dx fs) ∧ fs.lookup m = none ∧ t σ H1 fun vs H2 => sp (x :: (vs ++ dvs)) H2 Q E) : tMeth C m sp dvs E ta t σ H Q := h
end
/-- the law's model of a program -/
structure MdAt (H : Hp) (d D L : Addr) (as : List Addr) (ss : List Stp) (m c i : Nat) (ex : List (Key × V)) : Prop where
  dk : H D = some (.dK (mdl m c i L ++ ex))
  lst : H L = some (.lst (as.map V.ref))
  ne : L ≠ d
  st : StpsAt H as ss
  ok : PrOk ss m c i
theorem MdAt.same {H H' : Hp} {d D L : Addr} {as : List Addr} {ss : List Stp} {m c i : Nat} {ex : List (Key × V)} (h : MdAt H d D L as ss m c i ex) (s : Same H H') : MdAt H' d D L as ss m c i ex := ⟨s _ _ h.dk, s _ _ h.lst, h.ne, h.st.tups (Tups.same s), h.ok⟩
theorem Keep.notL {d n b : Addr} {H H' : Hp} {o : HO} (k : Keep d H H') (h : Dr H d n) (e : H b = some o) (ho : ∀ xs, o ≠ .lst xs) : H' b = some o := by
  obtain ⟨_, _, h, _⟩ := h
  exact k _ _ e (ne_of e h (ho _))
theorem PrAt.keep {K : PySem.W.Frag} {C : Addr} {H H' : Hp} {d n p L : Addr} {as : List Addr} {ss : List Stp} {m c i : Nat} (h : PrAt K C H p L as ss m c i) (hL : L ≠ d) (hD : Dr H d n) (k : Keep d H H') : PrAt K C H' p L as ss m c i := by
  obtain ⟨dx, h1, h2⟩ := h.ob
  exact ⟨⟨dx, k.notL hD h1 (by intro _ z; cases z), h2⟩, k _ _ h.lst hL, h.st.tups (keep_tups k hD)⟩

theorem MdAt.keep {H H' : Hp} {d n D L : Addr} {as : List Addr} {ss : List Stp} {m c i : Nat} {ex : List (Key × V)} (h : MdAt H d D L as ss m c i ex) (hD : Dr H d n) (k : Keep d H H') : MdAt H' d D L as ss m c i ex :=
  ⟨k.notL hD h.dk (by intro _ z; cases z), k _ _ h.lst h.ne, h.ne, h.st.tups (keep_tups k hD), h.ok⟩

def StepsI (H0 : Hp) (m c i : Nat) (d nn o : Addr) (k : Nat) (H : Hp) : Prop := Dr H d nn ∧ Keep d H0 H ∧ o ≠ d ∧ o ≠ nn ∧ ∃ (as : List Addr) (ss : List Stp), H o = some (.lst (as.map V.ref)) ∧ StpsAt H as ss ∧ ss.length = k ∧ ∀ s, s ∈ ss → StpOk m c i s
def sp_law_program (K : PySem.W.Frag) : Sp := fun vs H Q _ => ∃ (d n : Addr) (mo : Nat), vs = [.ref d, .int (mo : Int)] ∧ mo ≤ 20000 ∧ Dr H d n ∧
  RetH d n (fun v H' => ∃ (D L : Addr) (as : List Addr) (ss : List Stp) (m c i : Nat) (pr : Bool), v = .ref D ∧ MdAt H' d D L as ss m c i [(.inr "prime", .bl pr)] ∧ (pr = true → IsPrime m) ∧ ss.length ≤ mo) H Q
theorem ok_law_program (T : Txt K mg) : FnOk P w K mg base CX0 7 T.a_law_program T.fd_law_program ["draws", "most"] (sp_law_program K) := by
  refine T.F_law_program.ok sc_law_program (fun vs H Q E h => ?_) (fun cdv A outer s H vs Q E hr h => ?_)
  · obtain ⟨d, n, mo, rfl, _⟩ := h
    rfl
  · obtain ⟨d, n, mo, rfl, hmo, hD, q⟩ := h
    refine ⟨_, (pss_cons (ps_set (i := 2) sc_law_program.nd rfl (.inr rfl) (pe_cmpR op_eq (pe_op op_mod (pe_call (ok_law_draw T) (hr.mono (by decide)) (by rfl) T.g_law_draw T.F_law_draw.kp T.b_law_draw .nil pass0 (pa_cons (pv 0) pa_nil)) pe_int) pe_int (nomark _)))
      (pss_cons (ps_set (i := 3) sc_law_program.nd rfl (.inr rfl) (pe_call (ok_law_modulus T) (hr.mono (by decide)) (by rfl) T.g_law_modulus T.F_law_modulus.kp T.b_law_modulus .nil pass0 (pa_cons (pv 0) pa_nil)))
      (Evl.pss_cut (ps_if (pt_val (pv 2))
      (pss_one (ps_set (i := 3) sc_law_program.nd rfl (.inr rfl) (pe_call (ok_law_prime T) (hr.mono (by decide)) (by rfl) T.g_law_prime T.F_law_prime.kp T.b_law_prime .nil pass0 (pa_cons (pv 0) pa_nil))))
      pss_nil)
      (pss_cons (ps_set (i := 4) sc_law_program.nd rfl (.inr rfl) (pe_ix (r := rIxL K) ix_list (pe_lst (pa_cons pe_int (pa_cons pe_int (pa_cons pe_int (pa_cons pe_int (pa_cons pe_int (pa_cons pe_int pa_nil))))))) (pe_op op_mod (pe_call (ok_law_draw T) (hr.mono (by decide)) (by rfl) T.g_law_draw T.F_law_draw.kp T.b_law_draw .nil pass0 (pa_cons (pv 0) pa_nil)) pe_int) (fun _ _ => rfl)))
      (pss_cons (ps_set (i := 5) sc_law_program.nd rfl (.inr rfl) (pe_ix (r := rIxL K) ix_list (pe_lst (pa_cons pe_int (pa_cons pe_int (pa_cons pe_int (pa_cons pe_int pa_nil))))) (pe_op op_mod (pe_call (ok_law_draw T) (hr.mono (by decide)) (by rfl) T.g_law_draw T.F_law_draw.kp T.b_law_draw .nil pass0 (pa_cons (pv 0) pa_nil)) pe_int) (fun _ _ => rfl)))
      (pss_cons (ps_set (i := 6) sc_law_program.nd rfl (.inl rfl) (pe_op op_mod (pe_call (ok_law_draw T) (hr.mono (by decide)) (by rfl) T.g_law_draw T.F_law_draw.kp T.b_law_draw .nil pass0 (pa_cons (pv 0) pa_nil)) (pe_op op_add (pv 1) pe_int)))
      (pss_cons (ps_setLc (i := 7) (own := [("k", 8)]) (g := gName 8) (tt := tYes) rfl sc_law_program.nd rfl rfl (sw_true rfl rfl rfl (by decide +kernel)) (pi_range1 (by rfl) T.m_range (pa_cons (pv 6) pa_nil)) (blkOk_by (N := N_law_program) (sc := defScope s_law_program) (by decide +kernel)) (fun _ _ _ _ _ => (pg_name (i := 8) sc_law_program.nd rfl (Or.inl rfl))) (fun _ _ _ _ _ => pts_nil) (fun _ _ _ _ _ => (pe_call (ok_law_step T) hr (by rfl) T.g_law_step T.F_law_step.kp T.b_law_step .nil pass0 (pa_cons (pv 0) (pa_cons (pv 3) (pa_cons (pv 4) (pa_cons (pv 5) (pa_cons (pv 2) pa_nil))))))))
      (pss_one (ps_ret (pe_disp (pps_cons pe_str (pv 3) (pps_cons pe_str (pv 4) (pps_cons pe_str (pv 5) (pps_cons pe_str (pv 7) (pps_cons pe_str (pv 2) pps_nil))))) rfl rfl (fun h => nomatch h) (by decide))))))))))), ?_⟩
    walk_at "start"
    walk_at "x"
    refine ⟨d, n, rfl, hD, ?_⟩
    rintro _ H1 ⟨z, rfl, z0, z1⟩ hD1 hk1
    walk_at "x"
    generalize decide (z % 2 = 0) = b
    refine ⟨d, n, rfl, hD1, ?_⟩
    rintro _ H2 ⟨m0, rfl, m0l, m0u⟩ hD2 hk2
    have hk2 := hk1.trans hk2
    walk_at "x"
    refine x_cut (fun σ' H' => ∃ m : Nat, [some (V.ref d), some (.int (mo : Int)), some (.bl b), some (.int (m : Int)), none, none, none, none, none] = σ' ∧ Dr H' d n ∧ Keep d H H' ∧ 2 ≤ m ∧ m ≤ 1000000000 ∧ (b = true → IsPrime m)) ?_ ?_
    · walk_at "x"
      refine x_iteB (fun hb => ?_) (fun hb => ?_)
      · walk_at "x"
        refine ⟨d, n, rfl, hD2, ?_⟩
        rintro _ H3 ⟨m, rfl, hm, hm9⟩ hD3 hk3
        walk_at "x"
        exact ⟨m, rfl, hD3, hk2.trans hk3, hm.1, hm9, fun _ => hm⟩
      · walk_at "x"
        obtain ⟨m, rfl⟩ : ∃ m : Nat, m0 = (m : Int) := ⟨m0.toNat, by omega⟩
        exact ⟨m, rfl, hD2, hk2, by omega, by omega, fun h => by rw [hb] at h; cases h⟩
    rintro _ H3 ⟨m, rfl, hD3, hk3, m2, m9, hpr⟩
    walk_at "x"
    refine ⟨by show 6 ≤ sizeLine; decide, fun u hu => ?_⟩
    have hne := hD3.new hu
    have hk4 := kput (o := .lst [.int 1, .int 2, .int 3, .int 3, .int 4, .int 60]) hk3 (hk3.free hD3 hu)
    have hD4 := hD3.upd0 (o := .lst [.int 1, .int 2, .int 3, .int 3, .int 4, .int 60]) hu
    walk_at "x"
    refine ⟨d, n, rfl, hD4, ?_⟩
    rintro _ H5 ⟨y, rfl, y0, y1⟩ hD5 hk5
    walk_at "x"
    obtain ⟨g, hv, hm⟩ := at_lt (xs := [.int 1, .int 2, .int 3, .int 3, .int 4, .int 60]) (i := y % 6) (Int.emod_nonneg _ (by decide)) (Int.emod_lt_of_pos y (show (0 : Int) < 6 by decide))
    refine x_ixL (sq_of (hk5 _ _ upd_same hne)) hv ?_
    have hk5 := hk4.trans hk5
    obtain ⟨c, rfl, c1, c60⟩ : ∃ c : Nat, g = .int (c : Int) ∧ 1 ≤ c ∧ c ≤ 60 := by
      simp only [List.mem_cons, List.not_mem_nil, or_false] at hm
      rcases hm with rfl | rfl | rfl | rfl | rfl | rfl
      · exact ⟨1, rfl, by decide, by decide⟩
      · exact ⟨2, rfl, by decide, by decide⟩
      · exact ⟨3, rfl, by decide, by decide⟩
      · exact ⟨3, rfl, by decide, by decide⟩
      · exact ⟨4, rfl, by decide, by decide⟩
      · exact ⟨60, rfl, by decide, by decide⟩
    clear hu hne hv hm
    walk_at "x"
    refine ⟨by show 4 ≤ sizeLine; decide, fun u hu => ?_⟩
    have hne := hD5.new hu
    have hk6 := kput (o := .lst [.int 0, .int 1, .int 2, .int 60]) hk5 (hk5.free hD5 hu)
    have hD6 := hD5.upd0 (o := .lst [.int 0, .int 1, .int 2, .int 60]) hu
    walk_at "x"
    refine ⟨d, n, rfl, hD6, ?_⟩
    rintro _ H7 ⟨w, rfl, w0, w1⟩ hD7 hk7
    walk_at "x"
    obtain ⟨g, hv, hm⟩ := at_lt (xs := [.int 0, .int 1, .int 2, .int 60]) (i := w % 4) (Int.emod_nonneg _ (by decide)) (Int.emod_lt_of_pos w (show (0 : Int) < 4 by decide))
    refine x_ixL (sq_of (hk7 _ _ upd_same hne)) hv ?_
    have hk7 := hk6.trans hk7
    obtain ⟨i, rfl, i60⟩ : ∃ i : Nat, g = .int (i : Int) ∧ i ≤ 60 := by
      simp only [List.mem_cons, List.not_mem_nil, or_false] at hm
      rcases hm with rfl | rfl | rfl | rfl
      · exact ⟨0, rfl, by decide⟩
      · exact ⟨1, rfl, by decide⟩
      · exact ⟨2, rfl, by decide⟩
      · exact ⟨60, rfl, by decide⟩
    clear hu hne hv hm
    walk_at "x"
    refine ⟨d, n, rfl, hD7, ?_⟩
    rintro _ H8 ⟨x, rfl, x0, x1⟩ hD8 hk8
    have hk8 := hk7.trans hk8
    walk_at "x"
    obtain ⟨N, eN, hN⟩ := cast_lt (x := x % ((mo : Int) + 1)) (c := mo + 1) (Int.emod_nonneg x (show (mo : Int) + 1 ≠ 0 by omega)) (by have := Int.emod_lt_of_pos x (show (0 : Int) < (mo : Int) + 1 by omega); omega)
    rw [eN]
    refine x_lcR1 (N : Int) (fun o k H' => StepsI H m c i d n o k H') (fun R r => ⟨_, rfl, r⟩) (by omega) (by omega) (fun o ho => ⟨hD8.upd0 ho, kput hk8 (hk8.free hD8 ho), hD8.new ho, hD8.newN ho, [], [], upd_same, ⟨rfl, fun j x b h _ => by simp at h⟩, rfl, fun f h => by simp at h⟩) (fun x => rfl) ?_ ?_
    · rintro o k H9 ho9 hk ⟨hD9, hk9, hod, hon, as, ss, hO, hst, hsl, hok⟩
      walk_at "x"
      refine ⟨d, n, m, c, i, b, rfl, m2, m9, c1, c60, i60, hpr, hD9, ?_⟩
      rintro _ HA ⟨a, s, rfl, hs, hso⟩ hDA hkA
      have hOA := hkA _ _ hO hod
      have hT : Tups H9 (upd HA o (.lst (as.map V.ref ++ [V.ref a]))) := (keep_tups hkA hD9).put (no_tupL hOA)
      have hT2 : Tups HA (upd HA o (.lst (as.map V.ref ++ [V.ref a]))) := (Tups.refl HA).put (no_tupL hOA)
      refine ⟨_, hOA, lt_line (by rw [List.length_map, hst.1]; omega), hDA.upd hod hon, kput (hk9.trans hkA) (hk8.free hD8 ho9), hod, hon, as ++ [a], ss ++ [s], by rw [upd_same, List.map_append]; rfl, (hst.tups hT).snoc (hs.tups hT2), by rw [List.length_append, hsl]; rfl, ?_⟩
      intro x hx
      rcases List.mem_append.mp hx with hx | hx
      · exact hok x hx
      · rw [List.mem_singleton.mp hx]; exact hso
    · rintro o H9 ho9 ⟨hD9, hk9, hod, hon, as, ss, hO, hst, hsl, hok⟩
      walk_at "x"
      refine x_disp fun p hp => ?_
      refine x_pair ?_
      walk_at "x"
      refine x_pair ?_
      walk_at "x"
      refine x_pair ?_
      walk_at "x"
      refine x_pair ?_
      walk_at "x"
      refine x_pair ?_
      walk_at "x"
      refine x_pair0 ?_
      refine ⟨upd_same, mdl m c i o ++ [(.inr "prime", .bl b)], rfl, Nat.le_of_ble_eq_true rfl, ?_⟩
      rw [mdl_mk]
      have hpd := hD9.new hp
      have hpn := hD9.newN hp
      have hpo : o ≠ p := ne_of_none hO hp
      have hT : Tups H9 (upd (upd H9 p (.dK [])) p (.dK (mdl m c i o ++ [(.inr "prime", .bl b)]))) := (Tups.same (same_upd (o := .dK []) hp)).put (fun xs e => by rw [upd_same] at e; cases e)
      exact q _ _ ⟨p, o, as, ss, m, c, i, b, rfl, ⟨upd_same, by rw [upd_ne hpo, upd_ne hpo]; exact hO, hod, hst.tups hT, ⟨m2, m9, c1, c60, i60, by omega, hok⟩⟩, hpr, by omega⟩ ((hD9.upd hpd hpn).upd hpd hpn) (kput (kput hk9 (hk9.free hD9 hp)) (hk9.free hD9 hp))


def sp_law_made (C : Addr) (K : PySem.W.Frag) : Sp := fun vs H Q _ => ∃ (d D L : Addr) (as : List Addr) (ss : List Stp) (m c i : Nat) (ex : List (Key × V)), vs = [.ref D] ∧ MdAt H d D L as ss m c i ex ∧
  ∀ (p L' : Addr) (H' : Hp), H L' = none → Same H H' → PrAt K C H' p L' as ss m c i → Q (.ref p) H'
theorem ok_law_made (T : Txt K mg) : FnOk P w K mg base CX0 8 T.a_law_made T.fd_law_made ["model"] (sp_law_made T.C_Program K) := by
  refine T.F_law_made.ok sc_law_made (fun vs H Q E h => ?_) (fun cdv A outer s H vs Q E hr h => ?_)
  · obtain ⟨d, D, L, as, ss, m, c, i, ex, rfl, _⟩ := h
    rfl
  · obtain ⟨d, D, L, as, ss, m, c, i, ex, rfl, hM, q⟩ := h
    have hC : PC K T.C_Program := ⟨T.cl_Program, T.na_Program_modulus, T.na_Program_cells, T.na_Program_inputs, T.na_Program_steps⟩
    refine ⟨_, (pss_one (ps_ret (pe_make T.mk_Program (ok_Program___init T) (hr.mono (by decide)) (by rfl) T.gc_Program T.b_Program___init .nil passL (pa_cons (pe_dget (hu_of hr) (pv 0) pe_str (fun _ _ => rfl)) (pa_cons (pe_dget (hu_of hr) (pv 0) pe_str (fun _ _ => rfl)) (pa_cons (pe_dget (hu_of hr) (pv 0) pe_str (fun _ _ => rfl)) (pa_cons (pe_callTy (T := "list") (r := rListOf K) cr_list_of (by rfl) T.m_list (by decide +kernel) (pa_cons (pe_dget (hu_of hr) (pv 0) pe_str (fun _ _ => rfl)) pa_nil)) pa_nil))))))), ?_⟩
    walk_at "start"
    walk_at "x"
    refine x_make ?_
    walk_at "x"
    refine x_dgVC rfl hM.dk mdl_m ?_
    walk_at "x"
    refine x_dgVC rfl hM.dk mdl_c ?_
    walk_at "x"
    refine x_dgVC rfl hM.dk mdl_i ?_
    walk_at "x"
    refine x_dgVC rfl hM.dk mdl_s ?_
    walk_at "x"
    refine x_listL (sq_of hM.lst) fun L0 hL0 => ?_
    walk_at "x"
    intro x dx hx hdx hne
    walk_at "x"
    have s0 : Same H (upd H L0 (.lst (as.map V.ref))) := same_upd hL0
    have hl0 : (upd H L0 (.lst (as.map V.ref))) L0 = some (.lst (as.map V.ref)) := upd_same
    generalize upd H L0 (.lst (as.map V.ref)) = H1 at s0 hl0 hx hdx
    have s1 : ∀ b o, H1 b = some o → (upd (upd H1 dx (.own x)) x (.ins T.C_Program dx [])) b = some o := fun b o e => by
      rw [upd_ne (ne_of_none e hx), upd_ne (ne_of_none e hdx)]
      exact e
    refine ⟨x, T.C_Program, dx, L0, as, ss, m, c, i, rfl, upd_same, hC, s1 _ _ hl0, hM.st.tups (fun b xs e => s1 _ _ (s0 _ _ e)), hM.ok.m2, hM.ok.m9, hM.ok.c1, hM.ok.c60, hM.ok.i60, by have := hM.ok.len; omega, hM.ok.ok, (fun h => absurd hM.ok.len (by omega)), fun _ L' H' hL' keep hP => ⟨rfl, ?_⟩⟩
    have s2 : Same H H' := fun b o e => keep b o (s1 _ _ (s0 _ _ e)) (ne_of_none (s0 _ _ e) hx)
    refine q x L' H' ?_ s2 hP
    cases e : H L' with
    | none => rfl
    | some o =>
      rw [s1 _ _ (s0 _ _ e)] at hL'
      cases hL'


def sp_law_memory (K : PySem.W.Frag) : Sp := fun vs H Q _ => ∃ (d n D L : Addr) (as : List Addr) (ss : List Stp) (m c i : Nat) (ex : List (Key × V)), vs = [.ref d, .ref D] ∧ MdAt H d D L as ss m c i ex ∧ Dr H d n ∧
  ∀ (l : Addr) (xs : List Int) (H' : Hp), H l = none → l ≠ d → H' l = some (.lst (xs.map V.int)) → Mem m c xs → Dr H' d n → Keep d H H' → Q (.ref l) H'
theorem ok_law_memory (T : Txt K mg) : FnOk P w K mg base CX0 5 T.a_law_memory T.fd_law_memory ["draws", "model"] (sp_law_memory K) := by
  refine T.F_law_memory.ok sc_law_memory (fun vs H Q E h => ?_) (fun cdv A outer s H vs Q E hr h => ?_)
  · obtain ⟨d, n, D, L, as, ss, m, c, i, ex, rfl, _⟩ := h
    rfl
  · obtain ⟨d, n, D, L, as, ss, m, c, i, ex, rfl, hM, hD, q⟩ := h
    have m2 := hM.ok.m2
    have c60 := hM.ok.c60
    refine ⟨_, (pss_one (ps_ret (pe_lc (own := [("k", 2)]) (g := gName 2) (tt := tYes) rfl sc_law_memory.nd (pi_range1 (by rfl) T.m_range (pa_cons (pe_dget (hu_of hr) (pv 1) pe_str (fun _ _ => rfl)) pa_nil)) (blkOk_by (N := N_law_memory) (sc := defScope s_law_memory) (by decide +kernel)) (fun _ _ _ _ _ => (pg_name (i := 2) sc_law_memory.nd rfl (Or.inl rfl))) (fun _ _ _ _ _ => pts_nil) (fun _ _ _ _ _ => (pe_call (ok_law_number T) hr (by rfl) T.g_law_number T.F_law_number.kp T.b_law_number .nil pass0 (pa_cons (pv 0) (pa_cons (pe_dget (hu_of hr) (pv 1) pe_str (fun _ _ => rfl)) pa_nil))))))), ?_⟩
    walk_at "start"
    walk_at "x"
    refine x_lcR1 (c : Int) (fun o k H' => Dr H' d n ∧ Keep d H H' ∧ o ≠ d ∧ o ≠ n ∧ ∃ xs : List Int, H' o = some (.lst (xs.map V.int)) ∧ xs.length = k ∧ Rg 0 m xs) (fun R r => x_dgVC rfl hM.dk mdl_c r) (by omega) (by omega) (fun o ho => ⟨hD.upd0 ho, Same.keep (same_upd ho), hD.new ho, hD.newN ho, [], upd_same, rfl, .nil⟩) (fun x => rfl) ?_ ?_
    · rintro o k H1 ho hk ⟨hD1, hk1, hod, hon, xs, hO, hl, hr⟩
      walk_at "x"
      have hM1 := hM.keep hD hk1
      refine x_dgVC rfl hM1.dk mdl_m ?_
      walk_at "x"
      refine ⟨d, n, _, rfl, by omega, hD1, ?_⟩
      rintro _ H2 ⟨z, rfl, z0, z1⟩ hD2 hk2
      exact ⟨_, hk2 _ _ hO hod, lt_line (by rw [List.length_map]; omega), hD2.upd hod hon, kput (hk1.trans hk2) ho, hod, hon, xs ++ [z], map_app, by rw [List.length_append, hl]; rfl, hr.snoc z0 z1⟩
    · rintro o H1 ho ⟨hD1, hk1, hod, hon, xs, hO, hl, hr⟩
      exact q o xs H1 ho hod hO ⟨by omega, hr⟩ hD1 hk1


def sp_law_given (K : PySem.W.Frag) : Sp := fun vs H Q _ => ∃ (d n D L : Addr) (as : List Addr) (ss : List Stp) (m c i : Nat) (ex : List (Key × V)), vs = [.ref d, .ref D] ∧ MdAt H d D L as ss m c i ex ∧ Dr H d n ∧
  ∀ (l : Addr) (xs : List Int) (H' : Hp), H l = none → l ≠ d → H' l = some (.lst (xs.map V.int)) → Mem m i xs → Dr H' d n → Keep d H H' → Q (.ref l) H'
theorem ok_law_given (T : Txt K mg) : FnOk P w K mg base CX0 5 T.a_law_given T.fd_law_given ["draws", "model"] (sp_law_given K) := by
  refine T.F_law_given.ok sc_law_given (fun vs H Q E h => ?_) (fun cdv A outer s H vs Q E hr h => ?_)
  · obtain ⟨d, n, D, L, as, ss, m, c, i, ex, rfl, _⟩ := h
    rfl
  · obtain ⟨d, n, D, L, as, ss, m, c, i, ex, rfl, hM, hD, q⟩ := h
    have m2 := hM.ok.m2
    have i60 := hM.ok.i60
    refine ⟨_, (pss_one (ps_ret (pe_lc (own := [("k", 2)]) (g := gName 2) (tt := tYes) rfl sc_law_given.nd (pi_range1 (by rfl) T.m_range (pa_cons (pe_dget (hu_of hr) (pv 1) pe_str (fun _ _ => rfl)) pa_nil)) (blkOk_by (N := N_law_given) (sc := defScope s_law_given) (by decide +kernel)) (fun _ _ _ _ _ => (pg_name (i := 2) sc_law_given.nd rfl (Or.inl rfl))) (fun _ _ _ _ _ => pts_nil) (fun _ _ _ _ _ => (pe_call (ok_law_number T) hr (by rfl) T.g_law_number T.F_law_number.kp T.b_law_number .nil pass0 (pa_cons (pv 0) (pa_cons (pe_dget (hu_of hr) (pv 1) pe_str (fun _ _ => rfl)) pa_nil))))))), ?_⟩
    walk_at "start"
    walk_at "x"
    refine x_lcR1 (i : Int) (fun o k H' => Dr H' d n ∧ Keep d H H' ∧ o ≠ d ∧ o ≠ n ∧ ∃ xs : List Int, H' o = some (.lst (xs.map V.int)) ∧ xs.length = k ∧ Rg 0 m xs) (fun R r => x_dgVC rfl hM.dk mdl_i r) (by omega) (by omega) (fun o ho => ⟨hD.upd0 ho, Same.keep (same_upd ho), hD.new ho, hD.newN ho, [], upd_same, rfl, .nil⟩) (fun x => rfl) ?_ ?_
    · rintro o k H1 ho hk ⟨hD1, hk1, hod, hon, xs, hO, hl, hr⟩
      walk_at "x"
      have hM1 := hM.keep hD hk1
      refine x_dgVC rfl hM1.dk mdl_m ?_
      walk_at "x"
      refine ⟨d, n, _, rfl, by omega, hD1, ?_⟩
      rintro _ H2 ⟨z, rfl, z0, z1⟩ hD2 hk2
      exact ⟨_, hk2 _ _ hO hod, lt_line (by rw [List.length_map]; omega), hD2.upd hod hon, kput (hk1.trans hk2) ho, hod, hon, xs ++ [z], map_app, by rw [List.length_append, hl]; rfl, hr.snoc z0 z1⟩
    · rintro o H1 ho ⟨hD1, hk1, hod, hon, xs, hO, hl, hr⟩
      exact q o xs H1 ho hod hO ⟨by omega, hr⟩ hD1 hk1


end
end Br
namespace Br
open PySem PySem.Spec PyProof.Rows L2
local macro_rules | `(tactic| walk_at "x1") => `(tactic| (with_reducible first
  | refine Br.x_seq ?_ | refine Br.x_set ?_ | refine Br.x_asg ?_ | refine Br.x_next ?_ | refine Br.x_ret ?_ | refine Br.x_retN ?_ | refine Br.x_drop ?_ | refine Br.x_if ?_ | refine Br.x_brk ?_ | refine Br.x_cont ?_
  | refine Br.x_c ?_ | refine Br.x_op ?_ | refine Br.x_un ?_ | refine Br.x_I0 ?_ | refine Br.x_U ?_ | refine Br.x_EqI ?_ | refine Br.x_NeI ?_ | refine Br.x_EqB ?_ | refine Br.x_iN ?_ | refine Br.x_int1 ?_ | refine Br.x_min2 ?_ | refine Br.x_max2 ?_ | refine Br.x_nN ?_ | refine Br.x_ifE ?_
  | refine Br.x_test (b := ()) ?_ | refine Br.x_tB ?_ | refine Br.x_bl ?_ | refine Br.x_and ?_ | refine Br.x_or ?_ | refine Br.x_not ?_ | refine Br.x_andV ?_ | refine Br.x_orV ?_ | refine Br.x_notV ?_ | refine Br.x_blP ?_
  | refine Br.x_nil ?_ | refine Br.x_cons ?_ | refine Br.x_call ?_ | refine Br.x_CB ?_ | refine Br.x_BM ?_ | refine Br.x_tup ?_ | refine Br.x_lst ?_ | refine Br.x_chain ?_ | refine Br.x_par ?_ | refine Br.x_gSub ?_ | refine Br.x_gName ?_ | refine Br.x_fld ?_ | refine Br.x_fldS ?_ | refine Br.x_match ?_ | refine Br.x_else ?_ | refine Br.x_noCase ?_))
local macro_rules | `(tactic| walk_at "xv") => `(tactic| ((with_reducible refine' Br.x_var ?hvar ?_); (case hvar => rfl)))
local macro_rules | `(tactic| walk_at "xd") => `(tactic| (dsimp only [List.set_cons_zero, List.set_cons_succ, List.cons_append, List.nil_append, List.append_nil]))
local macro_rules | `(tactic| walk_at "xi") => `(tactic| ((with_reducible refine Br.x_I ?hside ?_); (case hside => first | exact Br.mul_r (by decide) (by decide) | exact Br.mul_l (by decide) (by decide) | exact Br.mul_l (by omega) (by omega) | exact Br.mul_r (by omega) (by omega) | (show (0 : Int) < _; first | decide | omega) | exact ⟨by decide, by decide⟩ | exact ⟨by omega, by omega⟩ | exact ⟨by decide, by decide, by decide⟩)))
local macro_rules | `(tactic| walk_at "x") => `(tactic| (repeat (first | walk_at "x1" | walk_at "xv" | walk_at "xi" | walk_at "xd")))
local macro_rules | `(tactic| walk_at "start") => `(tactic| (simp only [L2.start, List.map_cons, List.map_nil, List.length_cons, List.length_nil, Nat.reduceAdd, Nat.reduceSub, List.replicate, List.cons_append, List.nil_append, List.append_nil]))
local macro_rules | `(tactic| walk_at "isi") => `(tactic| first
  | refine Br.x_isi (b := true) (.base (.int _)) (by decide +kernel) ?_ | refine Br.x_isi (b := false) (.base (.int _)) (by decide +kernel) ?_
  | refine Br.x_isi (b := true) (.base (.bl _)) (by decide +kernel) ?_ | refine Br.x_isi (b := false) (.base (.bl _)) (by decide +kernel) ?_
  | refine Br.x_isi (b := false) (.base .non) (by decide +kernel) ?_
  | refine Br.x_isi (b := true) (.base (.str _)) (by decide +kernel) ?_ | refine Br.x_isi (b := false) (.base (.str _)) (by decide +kernel) ?_
  | refine Br.x_isi (b := true) (.base (.tup (by assumption))) (by decide +kernel) ?_ | refine Br.x_isi (b := false) (.base (.tup (by assumption))) (by decide +kernel) ?_
  | refine Br.x_isi (b := true) (.base (.lst (by assumption))) (by decide +kernel) ?_ | refine Br.x_isi (b := false) (.base (.lst (by assumption))) (by decide +kernel) ?_)
local macro_rules | `(tactic| walk_at "f") => `(tactic| (refine L2.iteF ?_; walk_at "x"))
local macro_rules | `(tactic| walk_at "t") => `(tactic| (refine L2.iteT ?_; walk_at "x"))
local macro_rules | `(tactic| walk_at "is") => `(tactic| (walk_at "isi"; walk_at "x"))
local macro_rules | `(tactic| walk_at "xb") => `(tactic| (simp only [Br.bindS, List.set_cons_zero, List.set_cons_succ]; walk_at "x"))

section
variable {P : Program} {w : World} {K : PySem.W.Frag} {mg : Str → Option Value} {base : Heap}

open Br Br.F
theorem x_methXV {C : Addr} {m : Str} {sp : Sp} {E : L2.St → XK} {ta : TE} {t : TA} {σ : L2.St} {H : Hp} {Q : VK} (h : ta σ H fun x H1 => ∃ a dx fs, x = .ref a ∧ H1 a = some (.ins C dx fs) ∧ fs.lookup m = none ∧ t σ H1 fun vs H2 => sp (x :: vs) H2 Q (E σ)) : tMethX C m sp E ta t σ H Q := h
theorem x_nt {A B : Prop} (h : B) : if (!true) = true then A else B := h
theorem x_nf {A B : Prop} (h : A) : if (!false) = true then A else B := h

def sp_law_refuses_back (C : Addr) (K : PySem.W.Frag) : Sp := fun vs H Q _ => ∃ (p L : Addr) (as : List Addr) (ss : List Stp) (m c i : Nat) (y : V), vs = [.ref p, y] ∧ PrAt K C H p L as ss m c i ∧ PrOk ss m c i ∧ Odd H y ∧
  ∀ H', Same H H' → Q (.bl (!isB y ((ss.length + 1 : Nat) : Int))) H'
theorem ok_law_refuses_back (T : Txt K mg) : FnOk P w K mg base CX0 10 T.a_law_refuses_back T.fd_law_refuses_back ["program", "many"] (sp_law_refuses_back T.C_Program K) := by
  refine T.F_law_refuses_back.ok sc_law_refuses_back (fun vs H Q E h => ?_) (fun cdv A outer s H vs Q E hr h => ?_)
  · obtain ⟨p, L, as, ss, m, c, i, y, rfl, _⟩ := h
    rfl
  · obtain ⟨p, L, as, ss, m, c, i, y, rfl, hP, ok, hy, q⟩ := h
    obtain ⟨dx, hp, hC⟩ := id hP.ob
    refine ⟨_, (pss_cons (ps_try_as (i := 2) rfl rfl sc_law_refuses_back.nd rfl rfl ⟨rfl, by decide, .inl T.gE_BadStep⟩ takes0 (fun W pn xe tk _ => (pss_one (ps_expr (pe_methX (sp := sp_Program_called_back T.C_Program T.E_BadStep K) (E := WE W) (pv 0) T.cl_Program T.me_Program_called_back (ok_Program_called_back T) (hr.mono (by decide)) T.b_Program_called_back (fun σ => passAt tk σ) (pa_cons (pv 1) pa_nil)))))
      (fun a oe cls d pn hz hf => (pss_one (ps_ret (pe_callB (id := "isinstance") (r := rIsEQ K a cls d) (call_isEQ rfl hz hf) (by rfl) T.m_isinstance (by decide +kernel) (pa_cons (pv 2) (pa_cons (pe_glob (v := .ref T.E_BrimfulError) (by rfl) T.gE_BrimfulError rfl) pa_nil)))))))
      (pss_one (ps_ret pe_bl))), ?_⟩
    walk_at "start"
    walk_at "x"
    refine x_methXV ?_
    walk_at "x"
    refine ⟨p, dx, _, rfl, hp, rfl, ?_⟩
    walk_at "x"
    refine ⟨p, L, as, ss, m, c, i, y, rfl, hP, ok, hy, fun hb => ?_, fun n hn hle p2 L2 bs ss' H2 s2 hP2 hB ok2 => ?_⟩
    · refine ⟨true, PySem.W.exm_ref T.bE_BadStep T.dE_BadStep T.tE_BadStep T.sE_BadStep_BadStep, (fun _ a ha => ?_), (fun z => nomatch z)⟩
      walk_at "x"
      refine ⟨_, _, true, rfl, rfl, T.cE_BadStep, rfl, kit_ref T.dE_BrimfulError T.tE_BrimfulError T.sE_BadStep_BrimfulError T.sE_BrimfulError_BrimfulError, ?_⟩
      rw [hb] at q
      exact q H (Same.refl _)
    · walk_at "x"
      have e : isB y ((ss.length + 1 : Nat) : Int) = true := by rw [hn]; exact isB_int (by omega) (by omega)
      rw [e] at q
      exact q H2 s2

/-- two lists of the same steps' tuples are alike -/
theorem eqv_steps {K : PySem.W.Frag} {H : Hp} {a b : Addr} {as : List Addr} {ss : List Stp} {m c i : Nat} (h1 : H a = some (.lst (as.map V.ref))) (h2 : H b = some (.lst (as.map V.ref))) (hst : StpsAt H as ss) (ok : ∀ s, s ∈ ss → StpOk m c i s) (hl : ss.length ≤ 100000) : Eqv K H 5 (.ref a) (.ref b) :=
  Eqv.lst (n := 4) h1 h2 rfl (by rw [List.length_map, hst.1]; omega) fun j x y e1 e2 => by
    rw [e1] at e2
    cases e2
    obtain ⟨p, hp, rfl⟩ := map_getR e1
    obtain ⟨s, hs1, hs2⟩ := hst.get hp
    exact StpAt.eqv (ok s (List.mem_of_getElem? hs1)) hs2

def sp_law_parted (C : Addr) (K : PySem.W.Frag) : Sp := fun vs H Q _ => ∃ (d D L p L' : Addr) (as : List Addr) (ss : List Stp) (m c i : Nat) (ex : List (Key × V)) (y : V), vs = [.ref p, .ref D, y] ∧ MdAt H d D L as ss m c i ex ∧ PrAt K C H p L' as ss m c i ∧ PrOk ss m c i ∧ Odd H y ∧ (∀ a, y ≠ .ref a) ∧
  ∀ H', Same H H' → Q (.bl true) H'
theorem ok_law_parted (T : Txt K mg) : FnOk P w K mg base CX0 12 T.a_law_parted T.fd_law_parted ["program", "model", "many"] (sp_law_parted T.C_Program K) := by
  refine T.F_law_parted.ok sc_law_parted (fun vs H Q E h => ?_) (fun cdv A outer s H vs Q E hr h => ?_)
  · obtain ⟨d, D, L, p, L', as, ss, m, c, i, ex, y, rfl, _⟩ := h
    rfl
  · obtain ⟨d, D, L, p, L', as, ss, m, c, i, ex, y, rfl, hM, hP, ok, hy, hnr, q⟩ := h
    obtain ⟨dx, hp, hC⟩ := id hP.ob
    have hal := hM.st.1
    have n9 := ok.len
    refine ⟨_, (pss_cons (ps_set (i := 3) sc_law_parted.nd rfl (.inl rfl) pe_bl)
      (pss_cons (ps_set (i := 4) sc_law_parted.nd rfl (.inl rfl) pe_non)
      (pss_cons (ps_try_as (i := 5) rfl rfl sc_law_parted.nd rfl rfl ⟨rfl, by decide, .inl T.gE_BadStep⟩ takes0 (fun W pn xe tk _ => (pss_one (ps_set (i := 4) sc_law_parted.nd rfl (.inl rfl) (pe_methX (sp := sp_Program_part T.C_Program T.E_BadStep K) (E := WE W) (pv 0) T.cl_Program T.me_Program_part (ok_Program_part T) (hr.mono (by decide)) T.b_Program_part (fun σ => passAt tk σ) (pa_cons (pv 2) pa_nil)))))
      (fun a oe cls d pn hz hf => (pss_one (ps_set (i := 3) sc_law_parted.nd rfl (.inl rfl) (pe_and (pe_not (pe_callB (id := "isinstance") (r := rIsEQ K a cls d) (call_isEQ rfl hz hf) (by rfl) T.m_isinstance (by decide +kernel) (pa_cons (pv 5) (pa_cons (pe_glob (v := .ref T.E_BadMemory) (by rfl) T.gE_BadMemory rfl) pa_nil)))) (pe_one (pe_callB (id := "isinstance") (r := rIsEQ K a cls d) (call_isEQ rfl hz hf) (by rfl) T.m_isinstance (by decide +kernel) (pa_cons (pv 5) (pa_cons (pe_glob (v := .ref T.E_BrimfulError) (by rfl) T.gE_BrimfulError rfl) pa_nil)))))))))
      (pss_cons (ps_set (i := 6) sc_law_parted.nd rfl (.inl rfl) (pe_and (pe_callB (id := "isinstance") (r := rIsi K) call_isi (by rfl) T.m_isinstance (by decide +kernel) (pa_cons (pv 2) (pa_cons (pe_bltn (v := .ty "int") (by rfl) T.m_int (by decide +kernel) rfl) pa_nil))) (pe_and (pe_not (pe_callB (id := "isinstance") (r := rIsi K) call_isi (by rfl) T.m_isinstance (by decide +kernel) (pa_cons (pv 2) (pa_cons (pe_bltn (v := .ty "bool") (by rfl) T.m_bool (by decide +kernel) rfl) pa_nil)))) (pe_one (pe_chain op_le op_le pe_int (pv 2) (pe_callB (id := "len") (r := rLen K) cr_len (by rfl) T.m_len PySem.boot_len (pa_cons (pe_dget (hu_of hr) (pv 1) pe_str (fun _ _ => rfl)) pa_nil)))))))
      (pss_cons (ps_if (pt_cmpR op_eq (pe_call (ok_law_refuses_back T) (hr.mono (by decide)) (by rfl) T.g_law_refuses_back T.F_law_refuses_back.kp T.b_law_refuses_back .nil pass0 (pa_cons (pv 0) (pa_cons (pv 2) pa_nil))) (pv 6) (nomark _))
      (pss_one (ps_ret pe_bl))
      pss_nil)
      (pss_cons (ps_if (pt_cmpR op_eq (pv 3) (pv 6) (nomark _))
      (pss_one (ps_ret pe_bl))
      pss_nil)
      (pss_cons (ps_if (pt_not (pt_val (pv 6)))
      (pss_one (ps_ret pe_bl))
      pss_nil)
      (pss_cons (ps_if (PW.pt (pw_or (pt_not (pt_val (pe_call (ok_law_equal T 5) hr (by rfl) T.g_law_equal T.F_law_equal.kp T.b_law_equal .nil pass0 (pa_cons (pe_fld (pv 4) rfl) (pa_cons (pe_slice (r := rSlL K) sl_list (pe_dget (hu_of hr) (pv 1) pe_str (fun _ _ => rfl)) po_none (po_some (pv 2))) pa_nil))))) (pw_or1 (pt_not (pt_val (pe_call (ok_law_equal T 5) hr (by rfl) T.g_law_equal T.F_law_equal.kp T.b_law_equal .nil pass0 (pa_cons (pe_fld (pv 4) rfl) (pa_cons (pe_dget (hu_of hr) (pv 1) pe_str (fun _ _ => rfl)) pa_nil))))))))
      (pss_one (ps_ret pe_bl))
      pss_nil)
      (pss_cons (ps_expr (pe_bm PySem.F.plainAttrs_list PySem.F.slot_list_append PySem.F.type_list_append mt_append (pe_fld (pv 4) rfl) (pa_cons pe_int pa_nil)))
      (pss_cons (ps_if (pt_not (pt_val (pe_call (ok_law_equal T 5) hr (by rfl) T.g_law_equal T.F_law_equal.kp T.b_law_equal .nil pass0 (pa_cons (pe_fld (pv 0) rfl) (pa_cons (pe_dget (hu_of hr) (pv 1) pe_str (fun _ _ => rfl)) pa_nil)))))
      (pss_one (ps_ret pe_bl))
      pss_nil)
      (pss_one (ps_ret (pe_and (pe_call (ok_law_equal T 5) hr (by rfl) T.g_law_equal T.F_law_equal.kp T.b_law_equal .nil pass0 (pa_cons (pe_fld (pv 4) rfl) (pa_cons (pe_dget (hu_of hr) (pv 1) pe_str (fun _ _ => rfl)) pa_nil))) (pe_one (pe_call (ok_law_equal T 5) hr (by rfl) T.g_law_equal T.F_law_equal.kp T.b_law_equal .nil pass0 (pa_cons (pe_fld (pv 4) rfl) (pa_cons (pe_dget (hu_of hr) (pv 1) pe_str (fun _ _ => rfl)) pa_nil))))))))))))))))), ?_⟩
    walk_at "start"
    walk_at "x"
    refine x_methXV ?_
    walk_at "x"
    refine ⟨p, dx, _, rfl, hp, rfl, ?_⟩
    walk_at "x"
    refine ⟨p, L', as, ss, m, c, i, y, rfl, hP, ok, hy, fun hb => ?_, fun n hn hle p2 L2 H2 hL2 s2 hP2 => ?_⟩
    · refine ⟨true, PySem.W.exm_ref T.bE_BadStep T.dE_BadStep T.tE_BadStep T.sE_BadStep_BadStep, (fun _ a ha => ?_), (fun z => nomatch z)⟩
      walk_at "x"
      refine ⟨_, _, false, rfl, rfl, T.cE_BadStep, rfl, kit_ref T.dE_BadMemory T.tE_BadMemory T.sE_BadStep_BadMemory T.sE_BadMemory_BadMemory, ?_⟩
      walk_at "x"
      walk_at "t"
      refine ⟨_, _, true, rfl, rfl, T.cE_BadStep, rfl, kit_ref T.dE_BrimfulError T.tE_BrimfulError T.sE_BadStep_BrimfulError T.sE_BrimfulError_BrimfulError, ?_⟩
      walk_at "x"
      have hy0 := hy
      cases hy with
      | int z =>
        walk_at "is"
        walk_at "t"
        walk_at "x"
        walk_at "is"
        refine x_nf ?_
        walk_at "x"
        refine x_ite (fun z0 => ?_) (fun z0 => ?_)
        · walk_at "x"
          refine x_dgVC rfl hM.dk mdl_s ?_
          walk_at "x"
          refine x_len (sq_of hM.lst) ?_
          walk_at "x"
          have hz : ¬ z ≤ ((as.map V.ref).length : Int) := by
            rw [List.length_map, hal]
            intro h
            rw [isB_int z0 (by omega)] at hb
            cases hb
          rw [decide_eq_false hz]
          refine ⟨p, L', as, ss, m, c, i, _, rfl, hP, ok, hy0, fun H3 s3 => ?_⟩
          rw [hb]
          walk_at "x"
          walk_at "f"
          walk_at "x"
          walk_at "f"
          walk_at "x"
          walk_at "t"
          exact q H3 s3
        · walk_at "x"
          refine ⟨p, L', as, ss, m, c, i, _, rfl, hP, ok, hy0, fun H3 s3 => ?_⟩
          rw [hb]
          walk_at "x"
          walk_at "f"
          walk_at "x"
          walk_at "f"
          walk_at "x"
          walk_at "t"
          exact q H3 s3
      | bl b =>
        walk_at "is"
        walk_at "t"
        walk_at "x"
        walk_at "is"
        refine x_nt ?_
        walk_at "x"
        refine ⟨p, L', as, ss, m, c, i, _, rfl, hP, ok, hy0, fun H3 s3 => ?_⟩
        rw [hb]
        walk_at "x"
        walk_at "f"
        walk_at "x"
        walk_at "f"
        walk_at "x"
        walk_at "t"
        exact q H3 s3
      | non =>
        walk_at "is"
        walk_at "f"
        walk_at "x"
        refine ⟨p, L', as, ss, m, c, i, _, rfl, hP, ok, hy0, fun H3 s3 => ?_⟩
        rw [hb]
        walk_at "x"
        walk_at "f"
        walk_at "x"
        walk_at "f"
        walk_at "x"
        walk_at "t"
        exact q H3 s3
      | str x =>
        walk_at "is"
        walk_at "f"
        walk_at "x"
        refine ⟨p, L', as, ss, m, c, i, _, rfl, hP, ok, hy0, fun H3 s3 => ?_⟩
        rw [hb]
        walk_at "x"
        walk_at "f"
        walk_at "x"
        walk_at "f"
        walk_at "x"
        walk_at "t"
        exact q H3 s3
      | tup a xs h => exact absurd rfl (hnr a)
      | lst a xs h => exact absurd rfl (hnr a)
    · subst hn
      walk_at "x"
      walk_at "is"
      walk_at "t"
      walk_at "x"
      walk_at "is"
      refine x_nf ?_
      walk_at "x"
      refine x_ite (fun z0 => ?_) (fun z0 => absurd (Int.natCast_nonneg n) z0)
      walk_at "x"
      have hM2 := hM.same s2
      refine x_dgVC rfl hM2.dk mdl_s ?_
      walk_at "x"
      refine x_len (sq_of hM2.lst) ?_
      walk_at "x"
      have hz : (n : Int) ≤ ((as.map V.ref).length : Int) := by
        rw [List.length_map, hal]
        omega
      rw [decide_eq_true hz]
      refine ⟨p, L', as, ss, m, c, i, _, rfl, hP.same s2, ok, .int _, fun H3 s3 => ?_⟩
      rw [isB_int (show (0 : Int) ≤ (n : Int) by omega) (show (n : Int) < ((ss.length + 1 : Nat) : Int) by omega)]
      walk_at "x"
      walk_at "f"
      walk_at "x"
      walk_at "f"
      walk_at "x"
      walk_at "f"
      have hP3 := hP2.same s3
      have hM3 := hM2.same s3
      obtain ⟨dx3, hp3, hC3⟩ := id hP3.ob
      refine x_fldR hp3 hC3.cl hC3.s progF_s ?_
      walk_at "x"
      refine x_sl ?_
      walk_at "x"
      refine x_dgVC rfl hM3.dk mdl_s ?_
      refine x_noPart ?_
      refine ⟨_, rfl, (n : Int), rfl, L, _, rfl, sq_of hM3.lst, fun r hr0 => ?_⟩
      rw [cut_take, ← List.map_take]
      have s4 := same_upd (o := .lst ((as.take n).map V.ref)) hr0
      have e4 : (upd H3 r (.lst ((as.take n).map V.ref))) r = some (.lst ((as.take n).map V.ref)) := upd_same
      generalize upd H3 r (.lst ((as.take n).map V.ref)) = H4 at s4 e4
      have hP4 := hP3.same s4
      have hM4 := hM3.same s4
      walk_at "x"
      refine ⟨_, _, rfl, eqv_steps hP4.lst e4 hP4.st (fun s hs => ok.ok s (List.mem_of_mem_take hs)) (by rw [List.length_take]; omega), ?_⟩
      walk_at "x"
      walk_at "f"
      have hp4 := s4 _ _ hp3
      refine x_fldR hp4 hC3.cl hC3.m progF_m ?_
      walk_at "x"
      refine x_dgVC rfl hM4.dk mdl_m ?_
      walk_at "x"
      refine ⟨_, _, rfl, Eqv.int (n := 4), ?_⟩
      walk_at "x"
      walk_at "f"
      walk_at "x"
      refine x_fldR hp4 hC3.cl hC3.s progF_s ?_
      refine x_tyL hP4.lst ?_
      walk_at "x"
      refine x_app hP4.lst (by rw [List.length_map, List.length_take]; omega) ?_
      have s24 := (s2.trans s3).trans s4
      have s5 := sput (o := .lst ((as.take n).map V.ref ++ [V.int 5])) s24 hL2
      have p2L : p2 ≠ L2 := ne_of hp4 hP4.lst (by intro z; cases z)
      have hp5 := (upd_ne (H := H4) (o := .lst ((as.take n).map V.ref ++ [V.int 5])) p2L).trans hp4
      generalize upd H4 L2 (.lst ((as.take n).map V.ref ++ [V.int 5])) = H5 at s5 hp5
      have hP5 := hP.same s5
      have hM5 := hM.same s5
      walk_at "x"
      refine x_fldR (s5 _ _ hp) hC.cl hC.s progF_s ?_
      walk_at "x"
      refine x_dgVC rfl hM5.dk mdl_s ?_
      walk_at "x"
      refine ⟨_, _, rfl, eqv_steps hP5.lst hM5.lst hP5.st ok.ok (by omega), ?_⟩
      walk_at "x"
      walk_at "f"
      walk_at "x"
      refine x_fldR hp5 hC3.cl hC3.c progF_c ?_
      walk_at "x"
      refine x_dgVC rfl hM5.dk mdl_c ?_
      walk_at "x"
      refine ⟨_, _, rfl, Eqv.int (n := 4), ?_⟩
      walk_at "x"
      walk_at "t"
      refine x_fldR hp5 hC3.cl hC3.i progF_i ?_
      walk_at "x"
      refine x_dgVC rfl hM5.dk mdl_i ?_
      walk_at "x"
      refine ⟨_, _, rfl, Eqv.int (n := 4), ?_⟩
      walk_at "x"
      exact q H5 s5


def sp_law_summed (C : Addr) (K : PySem.W.Frag) : Sp := fun vs H Q _ => ∃ (d D L p L' D2 L2 p2 L2' : Addr) (as bs : List Addr) (ss tt : List Stp) (m c i m' c' i' : Nat) (ex ex2 : List (Key × V)), vs = [.ref D, .ref D2, .ref p, .ref p2] ∧ MdAt H d D L as ss m c i ex ∧ PrAt K C H p L' as ss m c i ∧ MdAt H d D2 L2 bs tt m' c' i' ex2 ∧ PrAt K C H p2 L2' bs tt m' c' i' ∧ ss.length ≤ 100 ∧ tt.length ≤ 100 ∧
  ∀ H', Same H H' → Q (.bl true) H'
theorem ok_law_summed (T : Txt K mg) : FnOk P w K mg base CX0 12 T.a_law_summed T.fd_law_summed ["one", "two", "program", "second"] (sp_law_summed T.C_Program K) := by
  refine T.F_law_summed.ok sc_law_summed (fun vs H Q E h => ?_) (fun cdv A outer s H vs Q E hr h => ?_)
  · obtain ⟨d, D, L, p, L', D2, L2, p2, L2', as, bs, ss, tt, m, c, i, m', c', i', ex, ex2, rfl, _⟩ := h
    rfl
  · obtain ⟨d, D, L, p, L', D2, L2, p2, L2', as, bs, ss, tt, m, c, i, m', c', i', ex, ex2, rfl, hM, hP, hM2, hP2, l1, l2, q⟩ := h
    have ok := hM.ok
    have ok2 := hM2.ok
    refine ⟨_, (pss_cons (ps_set (i := 4) sc_law_summed.nd rfl (.inl rfl) (pe_and (pe_cmpR op_eq (pe_dget (hu_of hr) (pv 0) pe_str (fun _ _ => rfl)) (pe_dget (hu_of hr) (pv 1) pe_str (fun _ _ => rfl)) (nomark _)) (pe_and (pe_cmpR op_eq (pe_dget (hu_of hr) (pv 0) pe_str (fun _ _ => rfl)) (pe_dget (hu_of hr) (pv 1) pe_str (fun _ _ => rfl)) (nomark _)) (pe_one (pe_cmpR op_eq (pe_dget (hu_of hr) (pv 0) pe_str (fun _ _ => rfl)) (pe_dget (hu_of hr) (pv 1) pe_str (fun _ _ => rfl)) (nomark _))))))
      (pss_cons (ps_set (i := 5) sc_law_summed.nd rfl (.inl rfl) pe_bl)
      (pss_cons (ps_set (i := 6) sc_law_summed.nd rfl (.inl rfl) pe_non)
      (pss_cons (ps_try_as (i := 7) rfl rfl sc_law_summed.nd rfl rfl ⟨rfl, by decide, .inl T.gE_BadStep⟩ takes0 (fun W pn xe tk _ => (pss_one (ps_set (i := 6) sc_law_summed.nd rfl (.inl rfl) (pe_addX (sp := sp_Program___add T.C_Program T.E_BadStep K) (E := WE W) (pv 2) (pv 3) T.me_Program___add T.sf_Program (ok_Program___add T) (hr.mono (by decide)) T.b_Program___add (fun σ => passAt tk σ)))))
      (fun a oe cls d pn hz hf => (pss_one (ps_set (i := 5) sc_law_summed.nd rfl (.inl rfl) (pe_not (pe_callB (id := "isinstance") (r := rIsEQ K a cls d) (call_isEQ rfl hz hf) (by rfl) T.m_isinstance (by decide +kernel) (pa_cons (pv 7) (pa_cons (pe_glob (v := .ref T.E_BadMemory) (by rfl) T.gE_BadMemory rfl) pa_nil))))))))
      (pss_cons (ps_if (pt_cmpR op_eq (pv 5) (pv 4) (nomark _))
      (pss_one (ps_ret pe_bl))
      pss_nil)
      (pss_cons (ps_if (pt_not (pt_val (pv 4)))
      (pss_one (ps_ret pe_bl))
      pss_nil)
      (pss_cons (ps_if (pt_not (pt_val (pe_call (ok_law_equal T 5) hr (by rfl) T.g_law_equal T.F_law_equal.kp T.b_law_equal .nil pass0 (pa_cons (pe_fld (pv 6) rfl) (pa_cons (pe_op op_cat (pe_dget (hu_of hr) (pv 0) pe_str (fun _ _ => rfl)) (pe_dget (hu_of hr) (pv 1) pe_str (fun _ _ => rfl))) pa_nil)))))
      (pss_one (ps_ret pe_bl))
      pss_nil)
      (pss_cons (ps_expr (pe_bm PySem.F.plainAttrs_list PySem.F.slot_list_append PySem.F.type_list_append mt_append (pe_fld (pv 6) rfl) (pa_cons pe_int pa_nil)))
      (pss_one (ps_ret (pe_and (pe_call (ok_law_equal T 5) hr (by rfl) T.g_law_equal T.F_law_equal.kp T.b_law_equal .nil pass0 (pa_cons (pe_fld (pv 2) rfl) (pa_cons (pe_dget (hu_of hr) (pv 0) pe_str (fun _ _ => rfl)) pa_nil))) (pe_one (pe_call (ok_law_equal T 5) hr (by rfl) T.g_law_equal T.F_law_equal.kp T.b_law_equal .nil pass0 (pa_cons (pe_fld (pv 3) rfl) (pa_cons (pe_dget (hu_of hr) (pv 1) pe_str (fun _ _ => rfl)) pa_nil))))))))))))))), ?_⟩
    walk_at "start"
    obtain ⟨dx, hp, hC⟩ := id hP.ob
    obtain ⟨dx2, hp2, hC2⟩ := id hP2.ob
    walk_at "x"
    refine x_dgVC rfl hM.dk mdl_m ?_
    refine x_dgVC rfl hM2.dk mdl_m ?_
    walk_at "x"
    refine x_ite (fun a1 => ?_) (fun a1 => ?_)
    · refine x_dgVC rfl hM.dk mdl_c ?_
      refine x_dgVC rfl hM2.dk mdl_c ?_
      walk_at "x"
      refine x_ite (fun a2 => ?_) (fun a2 => ?_)
      · refine x_dgVC rfl hM.dk mdl_i ?_
        refine x_dgVC rfl hM2.dk mdl_i ?_
        walk_at "x"
        by_cases a3 : (i : Int) = (i' : Int)
        · rw [decide_eq_true a3]
          refine x_addX ?_
          walk_at "x"
          refine ⟨p, dx, _, p2, dx2, _, rfl, hp, rfl, hp2, ?_⟩
          refine ⟨p, L', p2, L2', as, bs, ss, tt, m, c, i, m', c', i', rfl, hP, hP2, ok, ok2, fun hna => absurd ⟨by omega, by omega, by omega⟩ hna, fun _ _ _ hl => absurd hl (by omega), fun _ _ _ hl p3 L3 H3 s3 hL3 hP3 ok3 => ⟨p3, rfl, ?_⟩⟩
          walk_at "x"
          walk_at "f"
          walk_at "x"
          walk_at "f"
          have hM3 := hM.same s3
          have hM23 := hM2.same s3
          obtain ⟨dx3, hp3, hC3⟩ := id hP3.ob
          refine x_fldR hp3 hC3.cl hC3.s progF_s ?_
          walk_at "x"
          refine x_dgVC rfl hM3.dk mdl_s ?_
          refine x_dgVC rfl hM23.dk mdl_s ?_
          walk_at "x"
          refine x_cat hM3.lst hM23.lst (by rw [List.length_map, List.length_map, hM.st.1, hM2.st.1]; omega) fun r hr0 => ?_
          have s4 := same_upd (o := .lst (as.map V.ref ++ bs.map V.ref)) hr0
          have e4 : (upd H3 r (.lst (as.map V.ref ++ bs.map V.ref))) r = some (.lst ((as ++ bs).map V.ref)) := by rw [upd_same, List.map_append]
          generalize upd H3 r (.lst (as.map V.ref ++ bs.map V.ref)) = H4 at s4 e4
          have hP4 := hP3.same s4
          walk_at "x"
          refine ⟨_, _, rfl, eqv_steps hP4.lst e4 hP4.st ok3.ok (by rw [List.length_append]; omega), ?_⟩
          walk_at "x"
          walk_at "f"
          walk_at "x"
          refine x_fldR (s4 _ _ hp3) hC3.cl hC3.s progF_s ?_
          walk_at "x"
          refine x_tyL hP4.lst ?_
          walk_at "x"
          refine x_app hP4.lst (by rw [List.length_map, hP4.st.1, List.length_append]; omega) ?_
          have s5 := sput (o := .lst ((as ++ bs).map V.ref ++ [V.int 5])) (s3.trans s4) hL3
          generalize upd H4 L3 (.lst ((as ++ bs).map V.ref ++ [V.int 5])) = H5 at s5
          have hP5 := hP.same s5
          have hM5 := hM.same s5
          have hP25 := hP2.same s5
          have hM25 := hM2.same s5
          walk_at "x"
          refine x_fldR (s5 _ _ hp) hC.cl hC.s progF_s ?_
          walk_at "x"
          refine x_dgVC rfl hM5.dk mdl_s ?_
          walk_at "x"
          refine ⟨_, _, rfl, eqv_steps hP5.lst hM5.lst hP5.st ok.ok (by omega), ?_⟩
          walk_at "x"
          walk_at "t"
          refine x_fldR (s5 _ _ hp2) hC2.cl hC2.s progF_s ?_
          walk_at "x"
          refine x_dgVC rfl hM25.dk mdl_s ?_
          walk_at "x"
          refine ⟨_, _, rfl, eqv_steps hP25.lst hM25.lst hP25.st ok2.ok (by omega), ?_⟩
          walk_at "x"
          exact q H5 s5
        · rw [decide_eq_false a3]
          have hno : ¬ (m' = m ∧ c' = c ∧ i' = i) := fun z => a3 (by omega)
          refine x_addX ?_
          walk_at "x"
          refine ⟨p, dx, _, p2, dx2, _, rfl, hp, rfl, hp2, ?_⟩
          refine ⟨p, L', p2, L2', as, bs, ss, tt, m, c, i, m', c', i', rfl, hP, hP2, ok, ok2, fun hna => ?_, fun e1 e2 e3 _ => absurd ⟨e1, e2, e3⟩ hno, fun e1 e2 e3 _ => absurd ⟨e1, e2, e3⟩ hno⟩
          refine ⟨true, PySem.W.exm_ref T.bE_BadStep T.dE_BadStep T.tE_BadStep T.sE_BadStep_BadStep, (fun _ a ha => ?_), (fun z => nomatch z)⟩
          walk_at "x"
          refine ⟨_, _, false, rfl, rfl, T.cE_BadStep, rfl, kit_ref T.dE_BadMemory T.tE_BadMemory T.sE_BadStep_BadMemory T.sE_BadMemory_BadMemory, ?_⟩
          walk_at "x"
          walk_at "f"
          walk_at "x"
          walk_at "t"
          exact q H (Same.refl _)
      · have hno : ¬ (m' = m ∧ c' = c ∧ i' = i) := fun z => a2 (by omega)
        walk_at "x"
        refine x_addX ?_
        walk_at "x"
        refine ⟨p, dx, _, p2, dx2, _, rfl, hp, rfl, hp2, ?_⟩
        refine ⟨p, L', p2, L2', as, bs, ss, tt, m, c, i, m', c', i', rfl, hP, hP2, ok, ok2, fun hna => ?_, fun e1 e2 e3 _ => absurd ⟨e1, e2, e3⟩ hno, fun e1 e2 e3 _ => absurd ⟨e1, e2, e3⟩ hno⟩
        refine ⟨true, PySem.W.exm_ref T.bE_BadStep T.dE_BadStep T.tE_BadStep T.sE_BadStep_BadStep, (fun _ a ha => ?_), (fun z => nomatch z)⟩
        walk_at "x"
        refine ⟨_, _, false, rfl, rfl, T.cE_BadStep, rfl, kit_ref T.dE_BadMemory T.tE_BadMemory T.sE_BadStep_BadMemory T.sE_BadMemory_BadMemory, ?_⟩
        walk_at "x"
        walk_at "f"
        walk_at "x"
        walk_at "t"
        exact q H (Same.refl _)
    · have hno : ¬ (m' = m ∧ c' = c ∧ i' = i) := fun z => a1 (by omega)
      walk_at "x"
      refine x_addX ?_
      walk_at "x"
      refine ⟨p, dx, _, p2, dx2, _, rfl, hp, rfl, hp2, ?_⟩
      refine ⟨p, L', p2, L2', as, bs, ss, tt, m, c, i, m', c', i', rfl, hP, hP2, ok, ok2, fun hna => ?_, fun e1 e2 e3 _ => absurd ⟨e1, e2, e3⟩ hno, fun e1 e2 e3 _ => absurd ⟨e1, e2, e3⟩ hno⟩
      refine ⟨true, PySem.W.exm_ref T.bE_BadStep T.dE_BadStep T.tE_BadStep T.sE_BadStep_BadStep, (fun _ a ha => ?_), (fun z => nomatch z)⟩
      walk_at "x"
      refine ⟨_, _, false, rfl, rfl, T.cE_BadStep, rfl, kit_ref T.dE_BadMemory T.tE_BadMemory T.sE_BadStep_BadMemory T.sE_BadMemory_BadMemory, ?_⟩
      walk_at "x"
      walk_at "f"
      walk_at "x"
      walk_at "t"
      exact q H (Same.refl _)


end
end Br
namespace Br
open PySem PySem.Spec PyProof.Rows L2
local macro_rules | `(tactic| walk_at "x1") => `(tactic| (with_reducible first
  | refine Br.x_seq ?_ | refine Br.x_set ?_ | refine Br.x_asg ?_ | refine Br.x_next ?_ | refine Br.x_ret ?_ | refine Br.x_retN ?_ | refine Br.x_drop ?_ | refine Br.x_if ?_ | refine Br.x_brk ?_ | refine Br.x_cont ?_
  | refine Br.x_c ?_ | refine Br.x_op ?_ | refine Br.x_un ?_ | refine Br.x_I0 ?_ | refine Br.x_U ?_ | refine Br.x_EqI ?_ | refine Br.x_NeI ?_ | refine Br.x_EqB ?_ | refine Br.x_iN ?_ | refine Br.x_int1 ?_ | refine Br.x_min2 ?_ | refine Br.x_max2 ?_ | refine Br.x_nN ?_ | refine Br.x_ifE ?_
  | refine Br.x_test (b := ()) ?_ | refine Br.x_tB ?_ | refine Br.x_bl ?_ | refine Br.x_and ?_ | refine Br.x_or ?_ | refine Br.x_not ?_ | refine Br.x_andV ?_ | refine Br.x_orV ?_ | refine Br.x_notV ?_ | refine Br.x_blP ?_
  | refine Br.x_nil ?_ | refine Br.x_cons ?_ | refine Br.x_call ?_ | refine Br.x_CB ?_ | refine Br.x_BM ?_ | refine Br.x_tup ?_ | refine Br.x_lst ?_ | refine Br.x_chain ?_ | refine Br.x_par ?_ | refine Br.x_gSub ?_ | refine Br.x_gName ?_ | refine Br.x_fld ?_ | refine Br.x_fldS ?_ | refine Br.x_match ?_ | refine Br.x_else ?_ | refine Br.x_noCase ?_))
local macro_rules | `(tactic| walk_at "xv") => `(tactic| ((with_reducible refine' Br.x_var ?hvar ?_); (case hvar => rfl)))
local macro_rules | `(tactic| walk_at "xd") => `(tactic| (dsimp only [List.set_cons_zero, List.set_cons_succ, List.cons_append, List.nil_append, List.append_nil]))
local macro_rules | `(tactic| walk_at "xi") => `(tactic| ((with_reducible refine Br.x_I ?hside ?_); (case hside => first | exact Br.mul_r (by decide) (by decide) | exact Br.mul_l (by decide) (by decide) | exact Br.mul_l (by omega) (by omega) | exact Br.mul_r (by omega) (by omega) | (show (0 : Int) < _; first | decide | omega) | exact ⟨by decide, by decide⟩ | exact ⟨by omega, by omega⟩ | exact ⟨by decide, by decide, by decide⟩)))
local macro_rules | `(tactic| walk_at "x") => `(tactic| (repeat (first | walk_at "x1" | walk_at "xv" | walk_at "xi" | walk_at "xd")))
local macro_rules | `(tactic| walk_at "start") => `(tactic| (simp only [L2.start, List.map_cons, List.map_nil, List.length_cons, List.length_nil, Nat.reduceAdd, Nat.reduceSub, List.replicate, List.cons_append, List.nil_append, List.append_nil]))
local macro_rules | `(tactic| walk_at "isi") => `(tactic| first
  | refine Br.x_isi (b := true) (.base (.int _)) (by decide +kernel) ?_ | refine Br.x_isi (b := false) (.base (.int _)) (by decide +kernel) ?_
  | refine Br.x_isi (b := true) (.base (.bl _)) (by decide +kernel) ?_ | refine Br.x_isi (b := false) (.base (.bl _)) (by decide +kernel) ?_
  | refine Br.x_isi (b := false) (.base .non) (by decide +kernel) ?_
  | refine Br.x_isi (b := true) (.base (.str _)) (by decide +kernel) ?_ | refine Br.x_isi (b := false) (.base (.str _)) (by decide +kernel) ?_
  | refine Br.x_isi (b := true) (.base (.tup (by assumption))) (by decide +kernel) ?_ | refine Br.x_isi (b := false) (.base (.tup (by assumption))) (by decide +kernel) ?_
  | refine Br.x_isi (b := true) (.base (.lst (by assumption))) (by decide +kernel) ?_ | refine Br.x_isi (b := false) (.base (.lst (by assumption))) (by decide +kernel) ?_)
local macro_rules | `(tactic| walk_at "f") => `(tactic| (refine L2.iteF ?_; walk_at "x"))
local macro_rules | `(tactic| walk_at "t") => `(tactic| (refine L2.iteT ?_; walk_at "x"))
local macro_rules | `(tactic| walk_at "is") => `(tactic| (walk_at "isi"; walk_at "x"))
local macro_rules | `(tactic| walk_at "xb") => `(tactic| (simp only [Br.bindS, List.set_cons_zero, List.set_cons_succ]; walk_at "x"))

section
variable {P : Program} {w : World} {K : PySem.W.Frag} {mg : Str → Option Value} {base : Heap}

open Br Br.F
/-- making an instance within a try -/
def tMakeX (C : Addr) (sp : Sp) (E : L2.St → XK) (t : TA) : TE := fun σ H Q => t σ H fun vs H1 => ∀ x dx, H1 x = Option.none → H1 dx = Option.none → dx ≠ x →
  sp (V.ref x :: vs) (upd (upd H1 dx (.own x)) x (.ins C dx [])) (fun v H2 => v = .non ∧ Q (.ref x) H2) (E σ)
theorem x_makeX {C : Addr} {sp : Sp} {E : L2.St → XK} {t : TA} {σ : L2.St} {H : Hp} {Q : VK} (h : t σ H fun vs H1 => ∀ x dx, H1 x = Option.none → H1 dx = Option.none → dx ≠ x →
  sp (V.ref x :: vs) (upd (upd H1 dx (.own x)) x (.ins C dx [])) (fun v H2 => v = .non ∧ Q (.ref x) H2) (E σ)) : tMakeX C sp E t σ H Q := h
theorem run_makeS {X : Cx} {CX : CXT} {k : Nat} {f C : Addr} {fd : FuncData} {ps : List Str} {sp : Sp} {E : L2.St → XK} {pins : List (Addr × Obj)} {σ : L2.St} {H : Hp} {s : Shared} {Q : VK} {us : List Value} {vs : List V} (M : Mk X.K C f) (F : FnOk X.prog X.w X.K X.mg X.base CX k f fd ps sp) (hr : Room (k + 1) X.A) (hb : Binds X.K fd ps []) (hx : PassesAt CX X σ (E σ))
    (I : Inv X pins σ H s) (r : Vals vs us)
    (h : ∀ x dx, H x = none → H dx = none → dx ≠ x → sp (.ref x :: vs) (upd (upd H dx (.own x)) x (.ins C dx [])) (fun v H2 => v = .non ∧ Q (.ref x) H2) (E σ)) :
    wpAny (model X.prog X.w) X.A (call (.ref C) us) (EP X pins σ Q) X.xe s := by
  have hq := h (s.heap.objs.size + 1) s.heap.objs.size (I.hok.fresh (Nat.le_succ _)) (I.hok.fresh (Nat.le_refl _)) (Nat.ne_of_lt (Nat.lt_succ_self _))
  have I2 := Inv.made (C := C) I
  have r2 : Vals (V.ref (s.heap.objs.size + 1) :: vs) (Value.ref (s.heap.objs.size + 1) :: us) := .cons rfl r
  have hl : (Value.ref (s.heap.objs.size + 1) :: us).length = ps.length := by
    have e := r2.length
    rw [F.len _ _ _ _ hq] at e
    exact e.symm
  have b := hb _ (Value.ref (s.heap.objs.size + 1) :: us) I2.kIn (by rw [List.append_nil]; exact hl)
  rw [List.append_nil] at b
  refine wpAny_call (make_map (f := f) I.kIn M.makes M.init (beq_iff_eq.mp M.fn) (codeAny_mono (F.run _ X.stack _ _ ⟨Value.ref (s.heap.objs.size + 1) :: us, []⟩ (Value.ref (s.heap.objs.size + 1) :: us) _ _ (E σ) (hr.make C us [])
    (I2.env0.make C us []) b r2 hq) fun r s' hq' => ?_))
  cases r with
  | error e => exact hx pins _ _ e s' I2 hq'
  | ok fl =>
    cases fl with
    | ret u =>
      obtain ⟨v, H', I3, rv, ev, q3⟩ := I2.after hq'
      subst ev
      exact ⟨rv, ⟨V.ref (s.heap.objs.size + 1), H', I3, rfl, q3⟩⟩
    | next => exact False.elim hq'
    | brk => exact False.elim hq'
    | cont => exact False.elim hq'
theorem pe_makeX {X : Cx} {CX : CXT} {k : Nat} {f C : Addr} {fd : FuncData} {ps : List Str} {sp : Sp} {E : L2.St → XK} {x : Str} {p pos : Pos} {e : Expr} {es : List Expr} {t : TA} (M : Mk X.K C f) (F : FnOk X.prog X.w X.K X.mg X.base CX k f fd ps sp) (hr : Room (k + 1) X.A) (hg : Gl X x) (hm : X.mg x = some (.ref C)) (hb : Binds X.K fd ps []) (hx : ∀ σ, PassesAt CX X σ (E σ))
    (ha : PA X (e :: es) t) (hdb : (x == ("__debug__" : Str)) = false := by decide) (he : starEach (e :: es) X.env = (false, eval e X.env) :: starEach es X.env := by rfl) (hpl : (backTo pos (starEach es X.env)).any (·.1) = false := by rfl) :
    PE X (.Call (.Name x p) (e :: es) [] pos) (tMakeX C sp E t) := by
  refine ⟨fun pins s σ H Q I h => ?_⟩
  refine wpAny_Call_Name_kw (ld_glob I hg hm ?_ hdb)
  refine PySem.W.callWith_K (h₀ := X.base) I.ok.mod.kin M.kp (thn (ha.run pos pins s σ H _ I h) fun us s1 ⟨vs, H1, I1, r, q⟩ => ⟨I1.kIn, ?_⟩) he hpl
  exact run_makeS M F hr hb (hx σ) I1 r q
def tenA : Stp := .add 0 1 []

def sp_law_made_of (C : Addr) (K : PySem.W.Frag) : Sp := fun vs H Q _ => ∃ many : Nat, vs = [.int (many : Int)] ∧ many ≤ 30000 ∧ (20000 < many → ∀ H', Same H H' → Q .non H') ∧
  (many ≤ 20000 → ∀ (p L : Addr) (as : List Addr) (H' : Hp), Same H H' → PrAt K C H' p L as (List.replicate many tenA) 2 1 0 → PrOk (List.replicate many tenA) 2 1 0 → Q (.ref p) H')
theorem ok_law_made_of (T : Txt K mg) : FnOk P w K mg base CX0 8 T.a_law_made_of T.fd_law_made_of ["many"] (sp_law_made_of T.C_Program K) := by
  refine T.F_law_made_of.ok sc_law_made_of (fun vs H Q E h => ?_) (fun cdv A outer s H vs Q E hr h => ?_)
  · obtain ⟨many, rfl, _⟩ := h
    rfl
  · obtain ⟨many, rfl, hm, q0, q⟩ := h
    have hC : PC K T.C_Program := ⟨T.cl_Program, T.na_Program_modulus, T.na_Program_cells, T.na_Program_inputs, T.na_Program_steps⟩
    refine ⟨_, (pss_one (ps_try_as (i := 1) rfl rfl sc_law_made_of.nd rfl rfl ⟨rfl, by decide, .inl T.gE_BadStep⟩ takes0 (fun W pn xe tk _ => (pss_one (ps_ret (pe_makeX (sp := sp_Program___init T.E_BadStep K) (E := WE W) T.mk_Program (ok_Program___init T) (hr.mono (by decide)) (by rfl) T.gc_Program T.b_Program___init (fun σ => passAt tk σ) (pa_cons pe_int (pa_cons pe_int (pa_cons pe_int (pa_cons (pe_op op_rep (pe_lst (pa_cons (pe_tup (pa_cons pe_str (pa_cons pe_int (pa_cons pe_int (pa_cons (pe_tup pa_nil) pa_nil))))) pa_nil)) (pv 0)) pa_nil))))))))
      (fun a oe cls d pn hz hf => (pss_one (ps_ret pe_non))))), ?_⟩
    walk_at "start"
    walk_at "x"
    refine x_makeX ?_
    walk_at "x"
    refine ⟨by show 0 ≤ sizeLine; decide, fun f hf => ?_⟩
    have s1 := same_upd (o := .tup []) hf
    have e1 : (upd H f (.tup [])) f = some (.tup []) := upd_same
    generalize upd H f (.tup []) = H1 at s1 e1
    walk_at "x"
    refine ⟨by show 4 ≤ sizeLine; decide, fun t ht => ?_⟩
    have s2 := same_upd (o := .tup [V.str "add", .int 0, .int 1, .ref f]) ht
    have e2 : (upd H1 t (.tup [V.str "add", .int 0, .int 1, .ref f])) t = some (.tup [V.str "add", .int 0, .int 1, .ref f]) := upd_same
    generalize upd H1 t (.tup [V.str "add", .int 0, .int 1, .ref f]) = H2 at s2 e2
    walk_at "x"
    refine ⟨by show 1 ≤ sizeLine; decide, fun l hl => ?_⟩
    have s3 := same_upd (o := .lst [V.ref t]) hl
    have e3 : (upd H2 l (.lst [V.ref t])) l = some (.lst [V.ref t]) := upd_same
    generalize upd H2 l (.lst [V.ref t]) = H3 at s3 e3
    walk_at "x"
    refine ⟨l, (many : Int), [V.ref t], rfl, rfl, e3, by omega, by omega, Nat.le_trans (show 1 * (many : Int).toNat ≤ 30000 by rw [Int.toNat_natCast]; omega) (by decide), fun r hr => ?_⟩
    have eR : (List.replicate (many : Int).toNat [V.ref t]).flatten = (List.replicate many t).map V.ref := by
      rw [Int.toNat_natCast, List.map_replicate]
      exact List.flatten_replicate_singleton ..
    rw [eR]
    have s4 := same_upd (o := .lst ((List.replicate many t).map V.ref)) hr
    have e4 : (upd H3 r (.lst ((List.replicate many t).map V.ref))) r = some (.lst ((List.replicate many t).map V.ref)) := upd_same
    generalize upd H3 r (.lst ((List.replicate many t).map V.ref)) = H4 at s4 e4
    have s24 := (s2.trans s3).trans s4
    have s34 := s3.trans s4
    have sA := s1.trans s24
    have hst1 : StpAt H4 t tenA := ⟨f, [], s34 _ _ e2, s24 _ _ e1, rfl, fun i y b e1 _ => by simp at e1⟩
    have hst : StpsAt H4 (List.replicate many t) (List.replicate many tenA) := ⟨by rw [List.length_replicate, List.length_replicate], fun i x b e1 e2 => by
      have hx := List.eq_of_mem_replicate (List.mem_of_getElem? e1)
      have hb := List.eq_of_mem_replicate (List.mem_of_getElem? e2)
      rw [hx, hb]
      exact hst1⟩
    have okk : ∀ s, s ∈ List.replicate many tenA → StpOk 2 1 0 s := fun s hs => by
      rw [List.eq_of_mem_replicate hs]
      exact ⟨by decide, by decide, by decide, by decide, fun f hf => by cases hf⟩
    walk_at "x"
    refine new_progL (m := 2) (c := 1) (i := 0) hC e4 hst (by decide) (by decide) (by decide) (by decide) (by decide) (by rw [List.length_replicate]; omega) okk (fun h H' s' => ?_) (fun h p' L' H' hL s' hP => ?_)
    · refine ⟨true, PySem.W.exm_ref T.bE_BadStep T.dE_BadStep T.tE_BadStep T.sE_BadStep_BadStep, (fun _ a ha => ?_), (fun z => nomatch z)⟩
      rw [List.length_replicate] at h
      walk_at "x"
      exact q0 h H' (sA.trans s')
    · have h2 := h
      rw [List.length_replicate] at h2
      exact q h2 p' L' _ H' (sA.trans s') hP ⟨by decide, by decide, by decide, by decide, by decide, h, okk⟩


def sp_law_summed_up (C : Addr) (K : PySem.W.Frag) : Sp := fun vs H Q _ => ∃ (p L p2 L2 : Addr) (as bs : List Addr) (ss tt : List Stp) (m c i : Nat), vs = [.ref p, .ref p2] ∧ PrAt K C H p L as ss m c i ∧ PrAt K C H p2 L2 bs tt m c i ∧ PrOk ss m c i ∧ PrOk tt m c i ∧
  (20000 < ss.length + tt.length → ∀ H', Same H H' → Q .non H') ∧ (ss.length + tt.length ≤ 20000 → ∀ H', Same H H' → Q (.int ((ss.length + tt.length : Nat) : Int)) H')
theorem ok_law_summed_up (T : Txt K mg) : FnOk P w K mg base CX0 12 T.a_law_summed_up T.fd_law_summed_up ["one", "two"] (sp_law_summed_up T.C_Program K) := by
  refine T.F_law_summed_up.ok sc_law_summed_up (fun vs H Q E h => ?_) (fun cdv A outer s H vs Q E hr h => ?_)
  · obtain ⟨p, L, p2, L2, as, bs, ss, tt, m, c, i, rfl, _⟩ := h
    rfl
  · obtain ⟨p, L, p2, L2, as, bs, ss, tt, m, c, i, rfl, hP, hP2, ok, ok2, q0, q⟩ := h
    obtain ⟨dx, hp, hC⟩ := id hP.ob
    obtain ⟨dx2, hp2, hC2⟩ := id hP2.ob
    refine ⟨_, (pss_one (ps_try_as (i := 2) rfl rfl sc_law_summed_up.nd rfl rfl ⟨rfl, by decide, .inl T.gE_BadStep⟩ takes0 (fun W pn xe tk _ => (pss_one (ps_ret (pe_callB (id := "len") (cr_lenM T.me_Program___len (ok_Program___len T) (hr.mono (by decide)) T.b_Program___len .nil pass0) (by rfl) T.m_len PySem.boot_len (pa_cons (pe_addX (sp := sp_Program___add T.C_Program T.E_BadStep K) (E := WE W) (pv 0) (pv 1) T.me_Program___add T.sf_Program (ok_Program___add T) (hr.mono (by decide)) T.b_Program___add (fun σ => passAt tk σ)) pa_nil)))))
      (fun a oe cls d pn hz hf => (pss_one (ps_ret pe_non))))), ?_⟩
    walk_at "start"
    walk_at "x"
    refine x_addX ?_
    walk_at "x"
    refine ⟨p, dx, _, p2, dx2, _, rfl, hp, rfl, hp2, ?_⟩
    refine ⟨p, L, p2, L2, as, bs, ss, tt, m, c, i, m, c, i, rfl, hP, hP2, ok, ok2, fun hna => absurd ⟨rfl, rfl, rfl⟩ hna, fun _ _ _ hl H' s' => ?_, fun _ _ _ hl p3 L3 H3 s3 hL3 hP3 ok3 => ⟨p3, rfl, ?_⟩⟩
    · refine ⟨true, PySem.W.exm_ref T.bE_BadStep T.dE_BadStep T.tE_BadStep T.sE_BadStep_BadStep, (fun _ a ha => ?_), (fun z => nomatch z)⟩
      walk_at "x"
      exact q0 hl H' s'
    · obtain ⟨dx3, hp3, hC3⟩ := id hP3.ob
      walk_at "x"
      refine ⟨p3, dx3, _, rfl, hp3, ?_⟩
      refine ⟨T.C_Program, p3, L3, _, _, m, c, i, rfl, hP3, ?_⟩
      rw [List.length_append]
      exact ⟨_, rfl, by omega, q hl H3 s3⟩


def sp_law_bounds (K : PySem.W.Frag) : Sp := fun vs H Q _ => ∃ (d n : Addr), vs = [.ref d] ∧ Dr H d n ∧ RetG d n (fun v _ => v = .bl true) H Q
theorem ok_law_bounds (T : Txt K mg) : FnOk P w K mg base CX0 20 T.a_law_bounds T.fd_law_bounds ["draws"] (sp_law_bounds K) := by
  refine T.F_law_bounds.ok sc_law_bounds (fun vs H Q E h => ?_) (fun cdv A outer s H vs Q E hr h => ?_)
  · obtain ⟨d, n, rfl, _⟩ := h
    rfl
  · obtain ⟨d, n, rfl, hD, q⟩ := h
    refine ⟨_, (pss_cons (ps_set (i := 1) sc_law_bounds.nd rfl (.inl rfl) (pe_op op_add pe_int (pe_op op_mod (pe_call (ok_law_draw T) (hr.mono (by decide)) (by rfl) T.g_law_draw T.F_law_draw.kp T.b_law_draw .nil pass0 (pa_cons (pv 0) pa_nil)) pe_int)))
      (pss_cons (ps_if (pt_cmpR op_ne (pe_cmpR op_isN1 (pe_call (ok_law_made_of T) (hr.mono (by decide)) (by rfl) T.g_law_made_of T.F_law_made_of.kp T.b_law_made_of .nil pass0 (pa_cons (pv 1) pa_nil)) pe_non (nomark _)) (pe_cmpR op_gt (pv 1) pe_int (nomark _)) (nomark _))
      (pss_one (ps_ret pe_bl))
      pss_nil)
      (pss_cons (ps_set (i := 2) sc_law_bounds.nd rfl (.inl rfl) (pe_op op_add pe_int (pe_op op_mod (pe_call (ok_law_draw T) (hr.mono (by decide)) (by rfl) T.g_law_draw T.F_law_draw.kp T.b_law_draw .nil pass0 (pa_cons (pv 0) pa_nil)) pe_int)))
      (pss_cons (ps_set (i := 3) sc_law_bounds.nd rfl (.inl rfl) pe_non)
      (pss_cons (ps_if (pt_cmpR op_eq (pv 2) pe_int (nomark _))
      (pss_one (ps_set (i := 3) sc_law_bounds.nd rfl (.inl rfl) pe_int))
      pss_nil)
      (pss_one (ps_ret (pe_call (ok_law_equal T 5) (hr.mono (by decide)) (by rfl) T.g_law_equal T.F_law_equal.kp T.b_law_equal .nil pass0 (pa_cons (pe_call (ok_law_summed_up T) (hr.mono (by decide)) (by rfl) T.g_law_summed_up T.F_law_summed_up.kp T.b_law_summed_up .nil pass0 (pa_cons (pe_call (ok_law_made_of T) (hr.mono (by decide)) (by rfl) T.g_law_made_of T.F_law_made_of.kp T.b_law_made_of .nil pass0 (pa_cons pe_int pa_nil)) (pa_cons (pe_call (ok_law_made_of T) (hr.mono (by decide)) (by rfl) T.g_law_made_of T.F_law_made_of.kp T.b_law_made_of .nil pass0 (pa_cons (pv 2) pa_nil)) pa_nil))) (pa_cons (pv 3) pa_nil)))))))))), ?_⟩
    walk_at "start"
    walk_at "x"
    refine ⟨d, n, rfl, hD, ?_⟩
    rintro _ H1 ⟨z, rfl, z0, z1⟩ hD1 hk1
    walk_at "x"
    obtain ⟨many, em, em2⟩ : ∃ many : Nat, 19999 + z % 4 = (many : Int) ∧ many ≤ 30000 := ⟨(19999 + z % 4).toNat, by omega, by omega⟩
    rw [em]
    refine ⟨many, rfl, em2, fun hl H2 s2 => ?_, fun hl p L as H2 s2 hP ok => ?_⟩
    · walk_at "x"
      rw [decide_eq_true (show (20000 : Int) < (many : Int) by omega)]
      refine x_Ne rfl ?_
      refine ⟨false, rfl, ?_⟩
      walk_at "f"
      have hD2 := hD1.same s2
      have hk2 := hk1.trans (Same.keep s2)
      walk_at "x"
      refine ⟨d, n, rfl, hD2, ?_⟩
      rintro _ H3 ⟨y, rfl, y0, y1⟩ hD3 hk3
      have hk3 := hk2.trans hk3
      walk_at "x"
      obtain ⟨more, em3, em4⟩ : ∃ more : Nat, 10000 + y % 2 = (more : Int) ∧ (more = 10000 ∨ more = 10001) := ⟨(10000 + y % 2).toNat, by omega, by omega⟩
      rw [em3]
      refine x_ite (fun c1 => ?_) (fun c1 => ?_)
      · walk_at "x"
        refine ⟨10000, rfl, by omega, fun h => absurd h (by omega), fun _ p4 L4 as4 H4 s4 hP4 ok4 => ?_⟩
        walk_at "x"
        refine ⟨more, rfl, by omega, fun h => absurd h (by omega), fun _ p5 L5 as5 H5 s5 hP5 ok5 => ?_⟩
        walk_at "x"
        refine ⟨p4, L4, p5, L5, _, _, _, _, 2, 1, 0, rfl, hP4.same s5, hP5, ok4, ok5, fun h => absurd h (by rw [List.length_replicate, List.length_replicate]; omega), fun _ H6 s6 => ?_⟩
        rw [List.length_replicate, List.length_replicate, show 10000 + more = 20000 by omega]
        walk_at "x"
        refine ⟨_, _, rfl, Eqv.int (n := 4), ?_⟩
        exact q _ _ rfl (hD3.same ((s4.trans s5).trans s6)) (hk3.trans (Same.keep ((s4.trans s5).trans s6)))
      · walk_at "x"
        refine ⟨10000, rfl, by omega, fun h => absurd h (by omega), fun _ p4 L4 as4 H4 s4 hP4 ok4 => ?_⟩
        walk_at "x"
        refine ⟨more, rfl, by omega, fun h => absurd h (by omega), fun _ p5 L5 as5 H5 s5 hP5 ok5 => ?_⟩
        walk_at "x"
        refine ⟨p4, L4, p5, L5, _, _, _, _, 2, 1, 0, rfl, hP4.same s5, hP5, ok4, ok5, fun _ H6 s6 => ?_, fun h => absurd h (by rw [List.length_replicate, List.length_replicate]; omega)⟩
        walk_at "x"
        refine ⟨_, _, rfl, Eqv.non (n := 4), ?_⟩
        exact q _ _ rfl (hD3.same ((s4.trans s5).trans s6)) (hk3.trans (Same.keep ((s4.trans s5).trans s6)))
    · walk_at "x"
      rw [decide_eq_false (show ¬ (20000 : Int) < (many : Int) by omega)]
      refine x_Ne rfl ?_
      refine ⟨false, rfl, ?_⟩
      walk_at "f"
      have hD2 := hD1.same s2
      have hk2 := hk1.trans (Same.keep s2)
      walk_at "x"
      refine ⟨d, n, rfl, hD2, ?_⟩
      rintro _ H3 ⟨y, rfl, y0, y1⟩ hD3 hk3
      have hk3 := hk2.trans hk3
      walk_at "x"
      obtain ⟨more, em3, em4⟩ : ∃ more : Nat, 10000 + y % 2 = (more : Int) ∧ (more = 10000 ∨ more = 10001) := ⟨(10000 + y % 2).toNat, by omega, by omega⟩
      rw [em3]
      refine x_ite (fun c1 => ?_) (fun c1 => ?_)
      · walk_at "x"
        refine ⟨10000, rfl, by omega, fun h => absurd h (by omega), fun _ p4 L4 as4 H4 s4 hP4 ok4 => ?_⟩
        walk_at "x"
        refine ⟨more, rfl, by omega, fun h => absurd h (by omega), fun _ p5 L5 as5 H5 s5 hP5 ok5 => ?_⟩
        walk_at "x"
        refine ⟨p4, L4, p5, L5, _, _, _, _, 2, 1, 0, rfl, hP4.same s5, hP5, ok4, ok5, fun h => absurd h (by rw [List.length_replicate, List.length_replicate]; omega), fun _ H6 s6 => ?_⟩
        rw [List.length_replicate, List.length_replicate, show 10000 + more = 20000 by omega]
        walk_at "x"
        refine ⟨_, _, rfl, Eqv.int (n := 4), ?_⟩
        exact q _ _ rfl (hD3.same ((s4.trans s5).trans s6)) (hk3.trans (Same.keep ((s4.trans s5).trans s6)))
      · walk_at "x"
        refine ⟨10000, rfl, by omega, fun h => absurd h (by omega), fun _ p4 L4 as4 H4 s4 hP4 ok4 => ?_⟩
        walk_at "x"
        refine ⟨more, rfl, by omega, fun h => absurd h (by omega), fun _ p5 L5 as5 H5 s5 hP5 ok5 => ?_⟩
        walk_at "x"
        refine ⟨p4, L4, p5, L5, _, _, _, _, 2, 1, 0, rfl, hP4.same s5, hP5, ok4, ok5, fun _ H6 s6 => ?_, fun h => absurd h (by rw [List.length_replicate, List.length_replicate]; omega)⟩
        walk_at "x"
        refine ⟨_, _, rfl, Eqv.non (n := 4), ?_⟩
        exact q _ _ rfl (hD3.same ((s4.trans s5).trans s6)) (hk3.trans (Same.keep ((s4.trans s5).trans s6)))


end
end Br
namespace Br
open PySem PySem.Spec PyProof.Rows L2
local macro_rules | `(tactic| walk_at "x1") => `(tactic| (with_reducible first
  | refine Br.x_seq ?_ | refine Br.x_set ?_ | refine Br.x_asg ?_ | refine Br.x_next ?_ | refine Br.x_ret ?_ | refine Br.x_retN ?_ | refine Br.x_drop ?_ | refine Br.x_if ?_ | refine Br.x_brk ?_ | refine Br.x_cont ?_
  | refine Br.x_c ?_ | refine Br.x_op ?_ | refine Br.x_un ?_ | refine Br.x_I0 ?_ | refine Br.x_U ?_ | refine Br.x_EqI ?_ | refine Br.x_NeI ?_ | refine Br.x_EqB ?_ | refine Br.x_iN ?_ | refine Br.x_int1 ?_ | refine Br.x_min2 ?_ | refine Br.x_max2 ?_ | refine Br.x_nN ?_ | refine Br.x_ifE ?_
  | refine Br.x_test (b := ()) ?_ | refine Br.x_tB ?_ | refine Br.x_bl ?_ | refine Br.x_and ?_ | refine Br.x_or ?_ | refine Br.x_not ?_ | refine Br.x_andV ?_ | refine Br.x_orV ?_ | refine Br.x_notV ?_ | refine Br.x_blP ?_
  | refine Br.x_nil ?_ | refine Br.x_cons ?_ | refine Br.x_call ?_ | refine Br.x_CB ?_ | refine Br.x_BM ?_ | refine Br.x_tup ?_ | refine Br.x_lst ?_ | refine Br.x_chain ?_ | refine Br.x_par ?_ | refine Br.x_gSub ?_ | refine Br.x_gName ?_ | refine Br.x_fld ?_ | refine Br.x_fldS ?_ | refine Br.x_match ?_ | refine Br.x_else ?_ | refine Br.x_noCase ?_))
local macro_rules | `(tactic| walk_at "xv") => `(tactic| ((with_reducible refine' Br.x_var ?hvar ?_); (case hvar => rfl)))
local macro_rules | `(tactic| walk_at "xd") => `(tactic| (dsimp only [List.set_cons_zero, List.set_cons_succ, List.cons_append, List.nil_append, List.append_nil]))
local macro_rules | `(tactic| walk_at "xi") => `(tactic| ((with_reducible refine Br.x_I ?hside ?_); (case hside => first | exact Br.mul_r (by decide) (by decide) | exact Br.mul_l (by decide) (by decide) | exact Br.mul_l (by omega) (by omega) | exact Br.mul_r (by omega) (by omega) | (show (0 : Int) < _; first | decide | omega) | exact ⟨by decide, by decide⟩ | exact ⟨by omega, by omega⟩ | exact ⟨by decide, by decide, by decide⟩)))
local macro_rules | `(tactic| walk_at "x") => `(tactic| (repeat (first | walk_at "x1" | walk_at "xv" | walk_at "xi" | walk_at "xd")))
local macro_rules | `(tactic| walk_at "start") => `(tactic| (simp only [L2.start, List.map_cons, List.map_nil, List.length_cons, List.length_nil, Nat.reduceAdd, Nat.reduceSub, List.replicate, List.cons_append, List.nil_append, List.append_nil]))
local macro_rules | `(tactic| walk_at "isi") => `(tactic| first
  | refine Br.x_isi (b := true) (.base (.int _)) (by decide +kernel) ?_ | refine Br.x_isi (b := false) (.base (.int _)) (by decide +kernel) ?_
  | refine Br.x_isi (b := true) (.base (.bl _)) (by decide +kernel) ?_ | refine Br.x_isi (b := false) (.base (.bl _)) (by decide +kernel) ?_
  | refine Br.x_isi (b := false) (.base .non) (by decide +kernel) ?_
  | refine Br.x_isi (b := true) (.base (.str _)) (by decide +kernel) ?_ | refine Br.x_isi (b := false) (.base (.str _)) (by decide +kernel) ?_
  | refine Br.x_isi (b := true) (.base (.tup (by assumption))) (by decide +kernel) ?_ | refine Br.x_isi (b := false) (.base (.tup (by assumption))) (by decide +kernel) ?_
  | refine Br.x_isi (b := true) (.base (.lst (by assumption))) (by decide +kernel) ?_ | refine Br.x_isi (b := false) (.base (.lst (by assumption))) (by decide +kernel) ?_)
local macro_rules | `(tactic| walk_at "f") => `(tactic| (refine L2.iteF ?_; walk_at "x"))
local macro_rules | `(tactic| walk_at "t") => `(tactic| (refine L2.iteT ?_; walk_at "x"))
local macro_rules | `(tactic| walk_at "is") => `(tactic| (walk_at "isi"; walk_at "x"))
local macro_rules | `(tactic| walk_at "xb") => `(tactic| (simp only [Br.bindS, List.set_cons_zero, List.set_cons_succ]; walk_at "x"))

section
variable {P : Program} {w : World} {K : PySem.W.Frag} {mg : Str → Option Value} {base : Heap}

open Br Br.F
theorem x_forPreO {σ : L2.St} {H : Hp} {D : Ends} {ta : TE} {g : TG} {tb : TS} (h : ta σ H fun v H1 => tFor (iRng1 (tCons (tC v) tNil)) g tb D σ H1) : tFor (iRng1 (tCons ta tNil)) g tb D σ H := h

theorem x_dputO {td ty tv : TE} {σ : L2.St} {H : Hp} {D : Ends} (h : tv σ H fun v H1 => td σ H1 fun x H2 => ty σ H2 fun y H3 => ∃ a H4, x = .ref a ∧ DPut H3 a y v H4 ∧ D.nx σ H4) : sDPut td ty tv D σ H := h
theorem x_dgetO {ty td : TE} {σ : L2.St} {H : Hp} {Q : VK} (h : td σ H fun x H1 => ty σ H1 fun y H2 => ∃ a v, x = .ref a ∧ DGet H2 a y (some v) ∧ Q v H2) : tDGet td ty σ H Q := h
def sp_law_other (K : PySem.W.Frag) : Sp := fun vs H Q _ => ∃ (d n D L : Addr) (as : List Addr) (ss : List Stp) (m c i : Nat) (pr : Bool), vs = [.ref d, .ref D] ∧ MdAt H d D L as ss m c i [(.inr "prime", .bl pr)] ∧ (pr = true → IsPrime m) ∧ Dr H d n ∧
  RetG d n (fun v H' => ∃ (D2 L2 : Addr) (bs : List Addr) (tt : List Stp) (m' c' i' : Nat), v = .ref D2 ∧ MdAt H' d D2 L2 bs tt m' c' i' [] ∧ tt.length ≤ 8) H Q
theorem ok_law_other (T : Txt K mg) : FnOk P w K mg base CX0 7 T.a_law_other T.fd_law_other ["draws", "model"] (sp_law_other K) := by
  refine T.F_law_other.ok sc_law_other (fun vs H Q E h => ?_) (fun cdv A outer s H vs Q E hr h => ?_)
  · obtain ⟨d, n, D, L, as, ss, m, c, i, pr, rfl, _⟩ := h
    rfl
  · obtain ⟨d, n, D, L, as, ss, m, c, i, pr, rfl, hM, hpr, hD, q⟩ := h
    refine ⟨_, (pss_cons (ps_set (i := 2) sc_law_other.nd rfl (.inl rfl) (pe_disp (pps_cons pe_str (pe_dget (hu_of hr) (pv 1) pe_str (fun _ _ => rfl)) (pps_cons pe_str (pe_dget (hu_of hr) (pv 1) pe_str (fun _ _ => rfl)) (pps_cons pe_str (pe_dget (hu_of hr) (pv 1) pe_str (fun _ _ => rfl)) (pps_cons pe_str (pe_lst pa_nil) pps_nil)))) rfl rfl (fun h => nomatch h) (by decide)))
      (pss_cons (ps_set (i := 3) sc_law_other.nd rfl (.inl rfl) (pe_op op_mod (pe_call (ok_law_draw T) (hr.mono (by decide)) (by rfl) T.g_law_draw T.F_law_draw.kp T.b_law_draw .nil pass0 (pa_cons (pv 0) pa_nil)) pe_int))
      (Evl.pss_cut (ps_if (pt_cmpR op_lt (pv 3) pe_int (nomark _))
      (pss_cons (ps_set (i := 4) sc_law_other.nd rfl (.inl rfl) (pe_ix (r := rIxL K) ix_list (pe_lst (pa_cons pe_str (pa_cons pe_str (pa_cons pe_str pa_nil)))) (pv 3) (fun _ _ => rfl)))
      (pss_cons (ps_dput (hu_of hr) (pv 2) (pv 4) (pe_op op_sub (pe_dget (hu_of hr) (pv 2) (pv 4) (fun _ _ => rfl)) pe_int) rfl)
      (pss_one (ps_if (pt_cmpR op_lt (pe_dget (hu_of hr) (pv 2) (pv 4) (fun _ _ => rfl)) (pe_ix (r := rIxL K) ix_list (pe_lst (pa_cons pe_int (pa_cons pe_int (pa_cons pe_int pa_nil)))) (pv 3) (fun _ _ => rfl)) (nomark _))
      (pss_one (ps_dput (hu_of hr) (pv 2) (pv 4) (pe_op op_add (pe_dget (hu_of hr) (pv 2) (pv 4) (fun _ _ => rfl)) pe_int) rfl))
      pss_nil))))
      (pss_one (ps_for PassesOwn.never rfl (pi_range1 (by rfl) T.m_range (pa_cons (pe_op op_mod (pe_call (ok_law_draw T) (hr.mono (by decide)) (by rfl) T.g_law_draw T.F_law_draw.kp T.b_law_draw .nil pass0 (pa_cons (pv 0) pa_nil)) pe_int) pa_nil)) (pg_name (i := 5) sc_law_other.nd rfl (Or.inl rfl))
      (pss_one (ps_expr (pe_bm PySem.F.plainAttrs_list PySem.F.slot_list_append PySem.F.type_list_append mt_append (pe_dget (hu_of hr) (pv 2) pe_str (fun _ _ => rfl)) (pa_cons (pe_call (ok_law_step T) hr (by rfl) T.g_law_step T.F_law_step.kp T.b_law_step .nil pass0 (pa_cons (pv 0) (pa_cons (pe_dget (hu_of hr) (pv 1) pe_str (fun _ _ => rfl)) (pa_cons (pe_dget (hu_of hr) (pv 1) pe_str (fun _ _ => rfl)) (pa_cons (pe_dget (hu_of hr) (pv 1) pe_str (fun _ _ => rfl)) (pa_cons (pe_dget (hu_of hr) (pv 1) pe_str (fun _ _ => rfl)) pa_nil)))))) pa_nil)))))))
      (pss_one (ps_ret (pv 2)))))), ?_⟩
    walk_at "start"
    walk_at "x"
    refine x_disp fun D2 hD2 => ?_
    have u1 := same_upd (o := .dK []) hD2
    have eD2 : (upd H D2 (.dK [])) D2 = some (.dK []) := upd_same
    generalize upd H D2 (.dK []) = H1 at u1 eD2
    have hM1 := hM.same u1
    refine x_pair ?_
    walk_at "x"
    refine x_dgVC rfl hM1.dk mdl_m ?_
    refine x_pair ?_
    walk_at "x"
    refine x_dgVC rfl hM1.dk mdl_c ?_
    refine x_pair ?_
    walk_at "x"
    refine x_dgVC rfl hM1.dk mdl_i ?_
    refine x_pair ?_
    walk_at "x"
    refine ⟨by show 0 ≤ sizeLine; decide, fun L2 hL2 => ?_⟩
    have u2 := same_upd (o := .lst []) hL2
    have eL2 : (upd H1 L2 (.lst [])) L2 = some (.lst (([] : List Addr).map V.ref)) := upd_same
    generalize upd H1 L2 (.lst []) = H2 at u2 eL2
    refine x_pair0 ?_
    refine ⟨u2 _ _ eD2, mdl m c i L2, rfl, Nat.le_of_ble_eq_true rfl, ?_⟩
    rw [show mergeK [] (mdl (m : Int) c i L2) = mdl m c i L2 from rfl]
    have D2d : D2 ≠ d := fun z => hD.ne (by rw [← z]; exact hD2)
    have L2d : L2 ≠ d := fun z => hD.ne (by rw [← z]; exact u1.free hL2)
    have D2L : L2 ≠ D2 := fun z => by rw [z, eD2] at hL2; cases hL2
    have u4 : Same H (upd H2 D2 (.dK (mdl m c i L2))) := sput (u1.trans u2) hD2
    have e4 : (upd H2 D2 (.dK (mdl m c i L2))) D2 = some (.dK (mdl m c i L2)) := upd_same
    have l4 : (upd H2 D2 (.dK (mdl m c i L2))) L2 = some (.lst (([] : List Addr).map V.ref)) := (upd_ne D2L).trans eL2
    have hL20 : H L2 = none := u1.free hL2
    generalize upd H2 D2 (.dK (mdl m c i L2)) = H4 at u4 e4 l4
    clear u1 u2 eD2 eL2 hM1 hL2
    have hD4 := hD.same u4
    walk_at "x"
    refine ⟨d, n, rfl, hD4, ?_⟩
    rintro _ H5 ⟨w, rfl, w0, w1⟩ hD5 k5
    have e5 := k5 _ _ e4 D2d
    have l5 := k5 _ _ l4 L2d
    have k5 := (Same.keep u4).trans k5
    clear e4 l4 hD4 u4
    walk_at "x"
    refine x_cut (fun σ' H' => ∃ (v4 v5 : Option V) (m' c' i' : Nat) (bs : List Addr) (tt : List Stp), [some (V.ref d), some (.ref D), some (.ref D2), some (.int (w % 9)), v4, v5] = σ' ∧ Dr H' d n ∧ Keep d H H' ∧ MdAt H' d D2 L2 bs tt m' c' i' [] ∧ tt.length ≤ 8) ?_ ?_
    · walk_at "x"
      refine x_ite (fun p0 => ?_) (fun p0 => ?_)
      · walk_at "x"
        refine ⟨by show 3 ≤ sizeLine; decide, fun u hu => ?_⟩
        have u6 := same_upd (o := .lst [V.str "modulus", .str "cells", .str "inputs"]) hu
        have eu : (upd H5 u (.lst [V.str "modulus", .str "cells", .str "inputs"])) u = _ := upd_same
        have hD6 := hD5.same u6
        have e6 := u6 _ _ e5
        have l6 := u6 _ _ l5
        have k6 := k5.trans (Same.keep u6)
        generalize upd H5 u (.lst [V.str "modulus", .str "cells", .str "inputs"]) = H6 at eu hD6 e6 l6 k6
        have ok := hM.ok
        have D2n : D2 ≠ n := fun z => by
          obtain ⟨_, _, _, e, _⟩ := hD
          rw [← z, hD2] at e; cases e
        have ok0 : ∀ {m' c' i' : Nat}, 2 ≤ m' → m' ≤ 1000000000 → 1 ≤ c' → c' ≤ 60 → i' ≤ 60 → PrOk [] m' c' i' := fun h1 h2 h3 h4 h5 => ⟨h1, h2, h3, h4, h5, by decide, fun s hs => by cases hs⟩
        walk_at "x"
        rcases (show w % 9 = 0 ∨ w % 9 = 1 ∨ w % 9 = 2 by omega) with e | e | e
        · refine x_ixL (v := .str "modulus") (sq_of eu) (by rw [e]; rfl) ?_
          walk_at "x"
          refine x_dputO ?_
          walk_at "x"
          refine x_dgetO ?_
          walk_at "x"
          refine ⟨D2, V.int (m : Int), rfl, DGet.k (k := Sum.inr "modulus") e6, ?_⟩
          walk_at "x"
          refine ⟨D2, _, rfl, DPut.k (k := Sum.inr "modulus") e6 (lt_line (by show 4 < 1000000; decide)), ?_⟩
          rw [show putK (mdl (m : Int) c i L2) (Sum.inr "modulus") (V.int ((m : Int) - 1)) = mdl ((m : Int) - 1) (c : Int) (i : Int) L2 from rfl]
          have e7 : (upd H6 D2 (.dK (mdl ((m : Int) - 1) (c : Int) (i : Int) L2))) D2 = some (.dK (mdl ((m : Int) - 1) (c : Int) (i : Int) L2)) := upd_same
          have l7 := (upd_ne (H := H6) (o := .dK (mdl ((m : Int) - 1) (c : Int) (i : Int) L2)) D2L).trans l6
          have hD7 := hD6.upd (o := .dK (mdl ((m : Int) - 1) (c : Int) (i : Int) L2)) D2d D2n
          have k7 := kput (o := .dK (mdl ((m : Int) - 1) (c : Int) (i : Int) L2)) k6 hD2
          generalize upd H6 D2 (.dK (mdl ((m : Int) - 1) (c : Int) (i : Int) L2)) = H7 at e7 l7 hD7 k7
          walk_at "x"
          refine x_dgetO ?_
          walk_at "x"
          refine ⟨D2, V.int ((m : Int) - 1), rfl, DGet.k (k := Sum.inr "modulus") e7, ?_⟩
          walk_at "x"
          refine ⟨by show 3 ≤ sizeLine; decide, fun u2 hu2 => ?_⟩
          have u8 := same_upd (o := .lst [V.int 2, .int 1, .int 0]) hu2
          have eu2 : (upd H7 u2 (.lst [V.int 2, .int 1, .int 0])) u2 = _ := upd_same
          generalize upd H7 u2 (.lst [V.int 2, .int 1, .int 0]) = H8 at u8 eu2
          have e8 := u8 _ _ e7
          have l8 := u8 _ _ l7
          have hD8 := hD7.same u8
          have k8 := k7.trans (Same.keep u8)
          walk_at "x"
          refine x_ixL (v := .int 2) (sq_of eu2) (by rw [e]; rfl) ?_
          walk_at "x"
          refine x_ite (fun c0 => ?_) (fun c0 => ?_)
          · walk_at "x"
            refine x_dputO ?_
            walk_at "x"
            refine x_dgetO ?_
            walk_at "x"
            refine ⟨D2, V.int ((m : Int) - 1), rfl, DGet.k (k := Sum.inr "modulus") e8, ?_⟩
            walk_at "x"
            refine ⟨D2, _, rfl, DPut.k (k := Sum.inr "modulus") e8 (lt_line (by show 4 < 1000000; decide)), ?_⟩
            have e9 : putK (mdl ((m : Int) - 1) (c : Int) (i : Int) L2) (Sum.inr "modulus") (V.int ((m : Int) - 1 + 2)) = mdl ((m + 1 : Nat) : Int) ((c : Nat) : Int) ((i : Nat) : Int) L2 := by
              rw [show (m : Int) - 1 + 2 = ((m + 1 : Nat) : Int) by omega]; rfl
            rw [e9]
            exact ⟨_, _, m + 1, c, i, [], [], rfl, hD8.upd D2d D2n, kput k8 hD2, ⟨upd_same, (upd_ne D2L).trans l8, L2d, ⟨rfl, fun j x b h _ => by simp at h⟩, ok0 (by have := ok.m2; have := ok.m9; omega) (by have := ok.m2; have := ok.m9; omega) (by have := ok.c1; have := ok.c60; omega) (by have := ok.c1; have := ok.c60; omega) (by have := ok.i60; omega)⟩, by decide⟩
          · exact ⟨_, _, m - 1, c, i, [], [], rfl, hD8, k8, ⟨by rw [e8]; show _ = some (HO.dK (mdl ((m - 1 : Nat) : Int) ((c : Nat) : Int) ((i : Nat) : Int) L2)); rw [show ((m - 1 : Nat) : Int) = (m : Int) - 1 by omega], l8, L2d, ⟨rfl, fun j x b h _ => by simp at h⟩, ok0 (by have := ok.m2; have := ok.m9; omega) (by have := ok.m2; have := ok.m9; omega) (by have := ok.c1; have := ok.c60; omega) (by have := ok.c1; have := ok.c60; omega) (by have := ok.i60; omega)⟩, by decide⟩
        · refine x_ixL (v := .str "cells") (sq_of eu) (by rw [e]; rfl) ?_
          walk_at "x"
          refine x_dputO ?_
          walk_at "x"
          refine x_dgetO ?_
          walk_at "x"
          refine ⟨D2, V.int (c : Int), rfl, DGet.k (k := Sum.inr "cells") e6, ?_⟩
          walk_at "x"
          refine ⟨D2, _, rfl, DPut.k (k := Sum.inr "cells") e6 (lt_line (by show 4 < 1000000; decide)), ?_⟩
          rw [show putK (mdl (m : Int) c i L2) (Sum.inr "cells") (V.int ((c : Int) - 1)) = mdl (m : Int) ((c : Int) - 1) (i : Int) L2 from rfl]
          have e7 : (upd H6 D2 (.dK (mdl (m : Int) ((c : Int) - 1) (i : Int) L2))) D2 = some (.dK (mdl (m : Int) ((c : Int) - 1) (i : Int) L2)) := upd_same
          have l7 := (upd_ne (H := H6) (o := .dK (mdl (m : Int) ((c : Int) - 1) (i : Int) L2)) D2L).trans l6
          have hD7 := hD6.upd (o := .dK (mdl (m : Int) ((c : Int) - 1) (i : Int) L2)) D2d D2n
          have k7 := kput (o := .dK (mdl (m : Int) ((c : Int) - 1) (i : Int) L2)) k6 hD2
          generalize upd H6 D2 (.dK (mdl (m : Int) ((c : Int) - 1) (i : Int) L2)) = H7 at e7 l7 hD7 k7
          walk_at "x"
          refine x_dgetO ?_
          walk_at "x"
          refine ⟨D2, V.int ((c : Int) - 1), rfl, DGet.k (k := Sum.inr "cells") e7, ?_⟩
          walk_at "x"
          refine ⟨by show 3 ≤ sizeLine; decide, fun u2 hu2 => ?_⟩
          have u8 := same_upd (o := .lst [V.int 2, .int 1, .int 0]) hu2
          have eu2 : (upd H7 u2 (.lst [V.int 2, .int 1, .int 0])) u2 = _ := upd_same
          generalize upd H7 u2 (.lst [V.int 2, .int 1, .int 0]) = H8 at u8 eu2
          have e8 := u8 _ _ e7
          have l8 := u8 _ _ l7
          have hD8 := hD7.same u8
          have k8 := k7.trans (Same.keep u8)
          walk_at "x"
          refine x_ixL (v := .int 1) (sq_of eu2) (by rw [e]; rfl) ?_
          walk_at "x"
          refine x_ite (fun c0 => ?_) (fun c0 => ?_)
          · walk_at "x"
            refine x_dputO ?_
            walk_at "x"
            refine x_dgetO ?_
            walk_at "x"
            refine ⟨D2, V.int ((c : Int) - 1), rfl, DGet.k (k := Sum.inr "cells") e8, ?_⟩
            walk_at "x"
            refine ⟨D2, _, rfl, DPut.k (k := Sum.inr "cells") e8 (lt_line (by show 4 < 1000000; decide)), ?_⟩
            have e9 : putK (mdl (m : Int) ((c : Int) - 1) (i : Int) L2) (Sum.inr "cells") (V.int ((c : Int) - 1 + 2)) = mdl ((m : Nat) : Int) ((c + 1 : Nat) : Int) ((i : Nat) : Int) L2 := by
              rw [show (c : Int) - 1 + 2 = ((c + 1 : Nat) : Int) by omega]; rfl
            rw [e9]
            exact ⟨_, _, m, c + 1, i, [], [], rfl, hD8.upd D2d D2n, kput k8 hD2, ⟨upd_same, (upd_ne D2L).trans l8, L2d, ⟨rfl, fun j x b h _ => by simp at h⟩, ok0 (by have := ok.m2; have := ok.m9; omega) (by have := ok.m2; have := ok.m9; omega) (by have := ok.c1; have := ok.c60; omega) (by have := ok.c1; have := ok.c60; omega) (by have := ok.i60; omega)⟩, by decide⟩
          · exact ⟨_, _, m, c - 1, i, [], [], rfl, hD8, k8, ⟨by rw [e8]; show _ = some (HO.dK (mdl ((m : Nat) : Int) ((c - 1 : Nat) : Int) ((i : Nat) : Int) L2)); rw [show ((c - 1 : Nat) : Int) = (c : Int) - 1 by omega], l8, L2d, ⟨rfl, fun j x b h _ => by simp at h⟩, ok0 (by have := ok.m2; have := ok.m9; omega) (by have := ok.m2; have := ok.m9; omega) (by have := ok.c1; have := ok.c60; omega) (by have := ok.c1; have := ok.c60; omega) (by have := ok.i60; omega)⟩, by decide⟩
        · refine x_ixL (v := .str "inputs") (sq_of eu) (by rw [e]; rfl) ?_
          walk_at "x"
          refine x_dputO ?_
          walk_at "x"
          refine x_dgetO ?_
          walk_at "x"
          refine ⟨D2, V.int (i : Int), rfl, DGet.k (k := Sum.inr "inputs") e6, ?_⟩
          walk_at "x"
          refine ⟨D2, _, rfl, DPut.k (k := Sum.inr "inputs") e6 (lt_line (by show 4 < 1000000; decide)), ?_⟩
          rw [show putK (mdl (m : Int) c i L2) (Sum.inr "inputs") (V.int ((i : Int) - 1)) = mdl (m : Int) (c : Int) ((i : Int) - 1) L2 from rfl]
          have e7 : (upd H6 D2 (.dK (mdl (m : Int) (c : Int) ((i : Int) - 1) L2))) D2 = some (.dK (mdl (m : Int) (c : Int) ((i : Int) - 1) L2)) := upd_same
          have l7 := (upd_ne (H := H6) (o := .dK (mdl (m : Int) (c : Int) ((i : Int) - 1) L2)) D2L).trans l6
          have hD7 := hD6.upd (o := .dK (mdl (m : Int) (c : Int) ((i : Int) - 1) L2)) D2d D2n
          have k7 := kput (o := .dK (mdl (m : Int) (c : Int) ((i : Int) - 1) L2)) k6 hD2
          generalize upd H6 D2 (.dK (mdl (m : Int) (c : Int) ((i : Int) - 1) L2)) = H7 at e7 l7 hD7 k7
          walk_at "x"
          refine x_dgetO ?_
          walk_at "x"
          refine ⟨D2, V.int ((i : Int) - 1), rfl, DGet.k (k := Sum.inr "inputs") e7, ?_⟩
          walk_at "x"
          refine ⟨by show 3 ≤ sizeLine; decide, fun u2 hu2 => ?_⟩
          have u8 := same_upd (o := .lst [V.int 2, .int 1, .int 0]) hu2
          have eu2 : (upd H7 u2 (.lst [V.int 2, .int 1, .int 0])) u2 = _ := upd_same
          generalize upd H7 u2 (.lst [V.int 2, .int 1, .int 0]) = H8 at u8 eu2
          have e8 := u8 _ _ e7
          have l8 := u8 _ _ l7
          have hD8 := hD7.same u8
          have k8 := k7.trans (Same.keep u8)
          walk_at "x"
          refine x_ixL (v := .int 0) (sq_of eu2) (by rw [e]; rfl) ?_
          walk_at "x"
          refine x_ite (fun c0 => ?_) (fun c0 => ?_)
          · walk_at "x"
            refine x_dputO ?_
            walk_at "x"
            refine x_dgetO ?_
            walk_at "x"
            refine ⟨D2, V.int ((i : Int) - 1), rfl, DGet.k (k := Sum.inr "inputs") e8, ?_⟩
            walk_at "x"
            refine ⟨D2, _, rfl, DPut.k (k := Sum.inr "inputs") e8 (lt_line (by show 4 < 1000000; decide)), ?_⟩
            have e9 : putK (mdl (m : Int) (c : Int) ((i : Int) - 1) L2) (Sum.inr "inputs") (V.int ((i : Int) - 1 + 2)) = mdl ((m : Nat) : Int) ((c : Nat) : Int) ((i + 1 : Nat) : Int) L2 := by
              rw [show (i : Int) - 1 + 2 = ((i + 1 : Nat) : Int) by omega]; rfl
            rw [e9]
            exact ⟨_, _, m, c, i + 1, [], [], rfl, hD8.upd D2d D2n, kput k8 hD2, ⟨upd_same, (upd_ne D2L).trans l8, L2d, ⟨rfl, fun j x b h _ => by simp at h⟩, ok0 (by have := ok.m2; have := ok.m9; omega) (by have := ok.m2; have := ok.m9; omega) (by have := ok.c1; have := ok.c60; omega) (by have := ok.c1; have := ok.c60; omega) (by have := ok.i60; omega)⟩, by decide⟩
          · exact ⟨_, _, m, c, i - 1, [], [], rfl, hD8, k8, ⟨by rw [e8]; show _ = some (HO.dK (mdl ((m : Nat) : Int) ((c : Nat) : Int) ((i - 1 : Nat) : Int) L2)); rw [show ((i - 1 : Nat) : Int) = (i : Int) - 1 by omega], l8, L2d, ⟨rfl, fun j x b h _ => by simp at h⟩, ok0 (by have := ok.m2; have := ok.m9; omega) (by have := ok.m2; have := ok.m9; omega) (by have := ok.c1; have := ok.c60; omega) (by have := ok.c1; have := ok.c60; omega) (by have := ok.i60; omega)⟩, by decide⟩
      · refine x_forPreO ?_
        walk_at "x"
        refine ⟨d, n, rfl, hD5, ?_⟩
        rintro _ H6 ⟨w2, rfl, w20, w21⟩ hD6 k6
        have e6 := k6 _ _ e5 D2d
        have l6 := k6 _ _ l5 L2d
        have k6 := k5.trans k6
        walk_at "x"
        have hr0 : 0 ≤ w2 % 9 ∧ w2 % 9 < 9 := ⟨Int.emod_nonneg _ (by decide), Int.emod_lt_of_pos w2 (by decide)⟩
        have ok := hM.ok
        have ln : L2 ≠ n := fun z => by
          obtain ⟨_, _, _, e, _⟩ := hD
          rw [← z, hL20] at e; cases e
        refine x_forR1 (w2 % 9) (fun k σ' H' => ∃ (v5 : Option V) (bs : List Addr) (tt : List Stp), σ' = [some (V.ref d), some (.ref D), some (.ref D2), some (.int (w % 9)), none, v5] ∧ Dr H' d n ∧ Keep d H H' ∧ H' D2 = some (.dK (mdl m c i L2)) ∧ H' L2 = some (.lst (bs.map V.ref)) ∧ StpsAt H' bs tt ∧ (∀ s, s ∈ tt → StpOk m c i s) ∧ tt.length = k) (fun R r => r) (by omega) (by omega) ⟨none, [], [], rfl, hD6, k6, e6, l6, ⟨rfl, fun j x b h _ => by simp at h⟩, (fun s hs => by cases hs), rfl⟩ ?_ ?_
        · rintro k σ' H7 hk ⟨v5, bs, tt, rfl, hD7, k7, e7, l7, hst, hok, htl⟩
          have hM7 := hM.keep hD k7
          walk_at "x"
          refine x_dgVC rfl e7 (mdl_s (ex := [])) ?_
          refine x_tyL l7 ?_
          walk_at "x"
          refine x_dgVC rfl hM7.dk mdl_m ?_
          walk_at "x"
          refine x_dgVC rfl hM7.dk mdl_c ?_
          walk_at "x"
          refine x_dgVC rfl hM7.dk mdl_i ?_
          walk_at "x"
          refine x_dgVC rfl hM7.dk (v := .bl pr) rfl ?_
          walk_at "x"
          refine ⟨d, n, m, c, i, pr, rfl, ok.m2, ok.m9, ok.c1, ok.c60, ok.i60, hpr, hD7, ?_⟩
          rintro _ HA ⟨a, s, rfl, hs, hso⟩ hDA kA
          have lA := kA _ _ l7 L2d
          have eA := kA _ _ e7 D2d
          walk_at "x"
          refine x_app lA (by rw [List.length_map, hst.1]; omega) ?_
          have hT : Tups H7 (upd HA L2 (.lst (bs.map V.ref ++ [V.ref a]))) := (keep_tups kA hD7).put (no_tupL lA)
          have hT2 : Tups HA (upd HA L2 (.lst (bs.map V.ref ++ [V.ref a]))) := (Tups.refl HA).put (no_tupL lA)
          refine ⟨_, bs ++ [a], tt ++ [s], rfl, hDA.upd L2d ln, kput (k7.trans kA) hL20, by rw [upd_ne D2L.symm]; exact eA, by rw [upd_same, List.map_append]; rfl, (hst.tups hT).snoc (hs.tups hT2), fun z hz => ?_, by rw [List.length_append, htl]; rfl⟩
          rcases List.mem_append.mp hz with h | h
          · exact hok z h
          · rw [List.mem_singleton.mp h]; exact hso
        · rintro σ' H7 ⟨v5, bs, tt, rfl, hD7, k7, e7, l7, hst, hok, htl⟩
          exact ⟨_, _, m, c, i, bs, tt, rfl, hD7, k7, ⟨e7, l7, L2d, hst, ⟨ok.m2, ok.m9, ok.c1, ok.c60, ok.i60, by omega, hok⟩⟩, by omega⟩
    · rintro _ H6 ⟨v4, v5, m', c', i', bs, tt, rfl, hD6, k6, hM6, htt⟩
      walk_at "x"
      exact q _ _ ⟨D2, L2, bs, tt, m', c', i', rfl, hM6, htt⟩ hD6 k6


end
end Br
namespace Br
open PySem PySem.Spec PyProof.Rows L2
local macro_rules | `(tactic| walk_at "x1") => `(tactic| (with_reducible first
  | refine Br.x_seq ?_ | refine Br.x_set ?_ | refine Br.x_asg ?_ | refine Br.x_next ?_ | refine Br.x_ret ?_ | refine Br.x_retN ?_ | refine Br.x_drop ?_ | refine Br.x_if ?_ | refine Br.x_brk ?_ | refine Br.x_cont ?_
  | refine Br.x_c ?_ | refine Br.x_op ?_ | refine Br.x_un ?_ | refine Br.x_I0 ?_ | refine Br.x_U ?_ | refine Br.x_EqI ?_ | refine Br.x_NeI ?_ | refine Br.x_EqB ?_ | refine Br.x_iN ?_ | refine Br.x_int1 ?_ | refine Br.x_min2 ?_ | refine Br.x_max2 ?_ | refine Br.x_nN ?_ | refine Br.x_ifE ?_
  | refine Br.x_test (b := ()) ?_ | refine Br.x_tB ?_ | refine Br.x_bl ?_ | refine Br.x_and ?_ | refine Br.x_or ?_ | refine Br.x_not ?_ | refine Br.x_andV ?_ | refine Br.x_orV ?_ | refine Br.x_notV ?_ | refine Br.x_blP ?_
  | refine Br.x_nil ?_ | refine Br.x_cons ?_ | refine Br.x_call ?_ | refine Br.x_CB ?_ | refine Br.x_BM ?_ | refine Br.x_tup ?_ | refine Br.x_lst ?_ | refine Br.x_chain ?_ | refine Br.x_par ?_ | refine Br.x_gSub ?_ | refine Br.x_gName ?_ | refine Br.x_fld ?_ | refine Br.x_fldS ?_ | refine Br.x_match ?_ | refine Br.x_else ?_ | refine Br.x_noCase ?_))
local macro_rules | `(tactic| walk_at "xv") => `(tactic| ((with_reducible refine' Br.x_var ?hvar ?_); (case hvar => rfl)))
local macro_rules | `(tactic| walk_at "xd") => `(tactic| (dsimp only [List.set_cons_zero, List.set_cons_succ, List.cons_append, List.nil_append, List.append_nil]))
local macro_rules | `(tactic| walk_at "xi") => `(tactic| ((with_reducible refine Br.x_I ?hside ?_); (case hside => first | exact Br.mul_r (by decide) (by decide) | exact Br.mul_l (by decide) (by decide) | exact Br.mul_l (by omega) (by omega) | exact Br.mul_r (by omega) (by omega) | (show (0 : Int) < _; first | decide | omega) | exact ⟨by decide, by decide⟩ | exact ⟨by omega, by omega⟩ | exact ⟨by decide, by decide, by decide⟩)))
local macro_rules | `(tactic| walk_at "x") => `(tactic| (repeat (first | walk_at "x1" | walk_at "xv" | walk_at "xi" | walk_at "xd")))
local macro_rules | `(tactic| walk_at "start") => `(tactic| (simp only [L2.start, List.map_cons, List.map_nil, List.length_cons, List.length_nil, Nat.reduceAdd, Nat.reduceSub, List.replicate, List.cons_append, List.nil_append, List.append_nil]))
local macro_rules | `(tactic| walk_at "isi") => `(tactic| first
  | refine Br.x_isi (b := true) (.base (.int _)) (by decide +kernel) ?_ | refine Br.x_isi (b := false) (.base (.int _)) (by decide +kernel) ?_
  | refine Br.x_isi (b := true) (.base (.bl _)) (by decide +kernel) ?_ | refine Br.x_isi (b := false) (.base (.bl _)) (by decide +kernel) ?_
  | refine Br.x_isi (b := false) (.base .non) (by decide +kernel) ?_
  | refine Br.x_isi (b := true) (.base (.str _)) (by decide +kernel) ?_ | refine Br.x_isi (b := false) (.base (.str _)) (by decide +kernel) ?_
  | refine Br.x_isi (b := true) (.base (.tup (by assumption))) (by decide +kernel) ?_ | refine Br.x_isi (b := false) (.base (.tup (by assumption))) (by decide +kernel) ?_
  | refine Br.x_isi (b := true) (.base (.lst (by assumption))) (by decide +kernel) ?_ | refine Br.x_isi (b := false) (.base (.lst (by assumption))) (by decide +kernel) ?_)
local macro_rules | `(tactic| walk_at "f") => `(tactic| (refine L2.iteF ?_; walk_at "x"))
local macro_rules | `(tactic| walk_at "t") => `(tactic| (refine L2.iteT ?_; walk_at "x"))
local macro_rules | `(tactic| walk_at "is") => `(tactic| (walk_at "isi"; walk_at "x"))
local macro_rules | `(tactic| walk_at "xb") => `(tactic| (simp only [Br.bindS, List.set_cons_zero, List.set_cons_succ]; walk_at "x"))

section
variable {P : Program} {w : World} {K : PySem.W.Frag} {mg : Str → Option Value} {base : Heap}

open Br Br.F
theorem x_forPreQ {σ : L2.St} {H : Hp} {D : Ends} {ta : TE} {g : TG} {tb : TS} (h : ta σ H fun v H1 => tFor (iList K (tC v)) g tb D σ H1) : tFor (iList K ta) g tb D σ H := h
def sp_law (K : PySem.W.Frag) : Sp := fun vs H Q _ => ∃ (a : Addr) (ns : List Int), vs = [.ref a] ∧ SqL K H a (ns.map V.int) ∧ ns.length ≤ 63 ∧ ∀ H', Q (.bl true) H'
theorem ok_law (T : Txt K mg) : FnOk P w K mg base CX0 24 T.a_law T.fd_law ["script"] (sp_law K) := by
  refine T.F_law.ok sc_law (fun vs H Q E h => ?_) (fun cdv A outer s H vs Q E hr h => ?_)
  · obtain ⟨a, ns, rfl, _⟩ := h
    rfl
  · obtain ⟨a, ns, rfl, hS, hl, q⟩ := h
    refine ⟨_, (pss_cons (ps_set (i := 1) sc_law.nd rfl (.inl rfl) (pe_lst (pa_cons (pe_call (ok_law_numbers T) (hr.mono (by decide)) (by rfl) T.g_law_numbers T.F_law_numbers.kp T.b_law_numbers .nil pass0 (pa_cons (pv 0) pa_nil)) (pa_cons pe_int pa_nil))))
      (Evl.pss_cut (ps_if (PW.pt (pw_and (pt_cmpR op_eq (pe_op op_mod (pe_call (ok_law_draw T) (hr.mono (by decide)) (by rfl) T.g_law_draw T.F_law_draw.kp T.b_law_draw .nil pass0 (pa_cons (pv 1) pa_nil)) pe_int) pe_int (nomark _)) (pw_and1 (pt_not (pt_val (pe_call (ok_law_bounds T) (hr.mono (by decide)) (by rfl) T.g_law_bounds T.F_law_bounds.kp T.b_law_bounds .nil pass0 (pa_cons (pv 1) pa_nil)))))))
      (pss_one (ps_ret pe_bl))
      pss_nil)
      (pss_cons (ps_for PassesOwn.never rfl (pi_range1 (by rfl) T.m_range (pa_cons pe_int pa_nil)) (pg_name (i := 2) sc_law.nd rfl (Or.inl rfl))
      (pss_cons (ps_set (i := 3) sc_law.nd rfl (.inl rfl) (pe_call (ok_law_program T) (hr.mono (by decide)) (by rfl) T.g_law_program T.F_law_program.kp T.b_law_program .nil pass0 (pa_cons (pv 1) (pa_cons pe_int pa_nil))))
      (pss_cons (ps_set (i := 4) sc_law.nd rfl (.inl rfl) (pe_call (ok_law_other T) (hr.mono (by decide)) (by rfl) T.g_law_other T.F_law_other.kp T.b_law_other .nil pass0 (pa_cons (pv 1) (pa_cons (pv 3) pa_nil))))
      (pss_cons (ps_set (i := 5) sc_law.nd rfl (.inl rfl) (pe_call (ok_law_made T) (hr.mono (by decide)) (by rfl) T.g_law_made T.F_law_made.kp T.b_law_made .nil pass0 (pa_cons (pv 3) pa_nil)))
      (pss_cons (ps_set (i := 6) sc_law.nd rfl (.inl rfl) (pe_call (ok_law_made T) (hr.mono (by decide)) (by rfl) T.g_law_made T.F_law_made.kp T.b_law_made .nil pass0 (pa_cons (pv 4) pa_nil)))
      (pss_cons (ps_if (pt_not (pt_val (pe_call (ok_law_summed T) (hr.mono (by decide)) (by rfl) T.g_law_summed T.F_law_summed.kp T.b_law_summed .nil pass0 (pa_cons (pv 3) (pa_cons (pv 4) (pa_cons (pv 5) (pa_cons (pv 6) pa_nil)))))))
      (pss_one (ps_ret pe_bl))
      pss_nil)
      (pss_cons (ps_for PassesOwn.never rfl (pi_list (pe_lst (pa_cons (pe_op op_sub (pe_op op_mod (pe_call (ok_law_draw T) (hr.mono (by decide)) (by rfl) T.g_law_draw T.F_law_draw.kp T.b_law_draw .nil pass0 (pa_cons (pv 1) pa_nil)) (pe_op op_add (pe_callB (id := "len") (r := rLen K) cr_len (by rfl) T.m_len PySem.boot_len (pa_cons (pe_dget (hu_of hr) (pv 3) pe_str (fun _ _ => rfl)) pa_nil)) pe_int)) pe_int) (pa_cons (pe_ix (r := rIxL K) ix_list (pe_lst (pa_cons pe_bl (pa_cons pe_non (pa_cons pe_str pa_nil)))) (pe_op op_mod (pe_call (ok_law_draw T) (hr.mono (by decide)) (by rfl) T.g_law_draw T.F_law_draw.kp T.b_law_draw .nil pass0 (pa_cons (pv 1) pa_nil)) pe_int) (fun _ _ => rfl)) pa_nil)))) (pg_name (i := 7) sc_law.nd rfl (Or.inl rfl))
      (pss_one (ps_if (pt_not (pt_val (pe_call (ok_law_parted T) (hr.mono (by decide)) (by rfl) T.g_law_parted T.F_law_parted.kp T.b_law_parted .nil pass0 (pa_cons (pv 5) (pa_cons (pv 3) (pa_cons (pv 7) pa_nil))))))
      (pss_one (ps_ret pe_bl))
      pss_nil)))
      (Evl.pss_cut (ps_if (PW.pt (pw_and (pt_cmpR op_eq (pe_dget (hu_of hr) (pv 3) pe_str (fun _ _ => rfl)) (pe_dget (hu_of hr) (pv 4) pe_str (fun _ _ => rfl)) (nomark _)) (pw_and (pt_cmpR op_eq (pe_dget (hu_of hr) (pv 3) pe_str (fun _ _ => rfl)) (pe_dget (hu_of hr) (pv 4) pe_str (fun _ _ => rfl)) (nomark _)) (pw_and1 (pt_cmpR op_eq (pe_dget (hu_of hr) (pv 3) pe_str (fun _ _ => rfl)) (pe_dget (hu_of hr) (pv 4) pe_str (fun _ _ => rfl)) (nomark _))))))
      (pss_cons (ps_set (i := 8) sc_law.nd rfl (.inl rfl) (pe_call (ok_law_memory T) (hr.mono (by decide)) (by rfl) T.g_law_memory T.F_law_memory.kp T.b_law_memory .nil pass0 (pa_cons (pv 1) (pa_cons (pv 3) pa_nil))))
      (pss_cons (ps_set (i := 9) sc_law.nd rfl (.inl rfl) (pe_call (ok_law_given T) (hr.mono (by decide)) (by rfl) T.g_law_given T.F_law_given.kp T.b_law_given .nil pass0 (pa_cons (pv 1) (pa_cons (pv 3) pa_nil))))
      (pss_cons (ps_set (i := 10) sc_law.nd rfl (.inl rfl) (pe_meth (pv 6) T.cl_Program T.me_Program_run (ok_Program_run T) (hr.mono (by decide)) T.b_Program_run .nil pass0 (pa_cons (pe_meth (pv 5) T.cl_Program T.me_Program_run (ok_Program_run T) (hr.mono (by decide)) T.b_Program_run .nil pass0 (pa_cons (pe_callTy (T := "list") (r := rListOf K) cr_list_of (by rfl) T.m_list (by decide +kernel) (pa_cons (pv 8) pa_nil)) (pa_cons (pe_callTy (T := "list") (r := rListOf K) cr_list_of (by rfl) T.m_list (by decide +kernel) (pa_cons (pv 9) pa_nil)) pa_nil))) (pa_cons (pe_callTy (T := "list") (r := rListOf K) cr_list_of (by rfl) T.m_list (by decide +kernel) (pa_cons (pv 9) pa_nil)) pa_nil))))
      (pss_one (ps_if (pt_not (pt_val (pe_call (ok_law_equal T 5) (hr.mono (by decide)) (by rfl) T.g_law_equal T.F_law_equal.kp T.b_law_equal .nil pass0 (pa_cons (pe_meth (pe_op (op_addM T.me_Program___add T.sf_Program (ok_Program___add T) (hr.mono (by decide)) T.b_Program___add .nil passL) (pv 5) (pv 6)) T.cl_Program T.me_Program_run (ok_Program_run T) (hr.mono (by decide)) T.b_Program_run .nil pass0 (pa_cons (pe_callTy (T := "list") (r := rListOf K) cr_list_of (by rfl) T.m_list (by decide +kernel) (pa_cons (pv 8) pa_nil)) (pa_cons (pe_callTy (T := "list") (r := rListOf K) cr_list_of (by rfl) T.m_list (by decide +kernel) (pa_cons (pv 9) pa_nil)) pa_nil))) (pa_cons (pv 10) pa_nil)))))
      (pss_one (ps_ret pe_bl))
      pss_nil)))))
      pss_nil)
      (pss_one (ps_if (PW.pt (pw_or (pt_not (pt_val (pe_call (ok_law_equal T 5) (hr.mono (by decide)) (by rfl) T.g_law_equal T.F_law_equal.kp T.b_law_equal .nil pass0 (pa_cons (pe_fld (pv 5) rfl) (pa_cons (pe_dget (hu_of hr) (pv 3) pe_str (fun _ _ => rfl)) pa_nil))))) (pw_or1 (pt_not (pt_val (pe_call (ok_law_equal T 5) (hr.mono (by decide)) (by rfl) T.g_law_equal T.F_law_equal.kp T.b_law_equal .nil pass0 (pa_cons (pe_fld (pv 6) rfl) (pa_cons (pe_dget (hu_of hr) (pv 4) pe_str (fun _ _ => rfl)) pa_nil))))))))
      (pss_one (ps_ret pe_bl))
      pss_nil))))))))))
      (pss_one (ps_ret pe_bl))))), ?_⟩
    walk_at "start"
    walk_at "x"
    refine ⟨a, ns, rfl, hS, hl, fun nn ms H1 hn1 hs1 hn2 hr hlen => ?_⟩
    walk_at "x"
    refine ⟨by show 2 ≤ sizeLine; decide, fun d hd => ?_⟩
    have hD := Dr.mk hn2 hr hlen hd
    generalize upd H1 d (.lst [V.ref nn, .int 0]) = H2 at hD
    walk_at "x"
    refine x_cut (fun σ' H' => Dr H' d nn ∧ ∃ v2 v3 v4 v5 v6 v7 v8 v9 v10, σ' = [some (.ref a), some (.ref d), v2, v3, v4, v5, v6, v7, v8, v9, v10]) ?_ ?_
    · walk_at "x"
      refine ⟨d, nn, rfl, hD, ?_⟩
      rintro _ H3 ⟨w, rfl, w0, w1⟩ hD3 hk3
      walk_at "x"
      refine x_ite (fun c0 => ?_) (fun c0 => ?_)
      · walk_at "x"
        refine ⟨d, nn, rfl, hD3, ?_⟩
        rintro _ H4 rfl hD4 hk4
        walk_at "x"
        walk_at "f"
        exact ⟨hD4, _, _, _, _, _, _, _, _, _, rfl⟩
      · walk_at "f"
        exact ⟨hD3, _, _, _, _, _, _, _, _, _, rfl⟩
    clear hD
    rintro σ' H2 ⟨hD, v2, v3, v4, v5, v6, v7, v8, v9, v10, rfl⟩
    walk_at "x"
    refine x_forR1 3 (fun i σ' H' => Dr H' d nn ∧ ∃ v2 v3 v4 v5 v6 v7 v8 v9 v10, σ' = [some (.ref a), some (.ref d), v2, v3, v4, v5, v6, v7, v8, v9, v10]) (fun R r => r) (by decide) (by decide) ⟨hD, _, _, _, _, _, _, _, _, _, rfl⟩ ?_ ?_
    · clear hD
      rintro turn σ' H3 hturn ⟨hD, v2, v3, v4, v5, v6, v7, v8, v9, v10, rfl⟩
      walk_at "x"
      refine ⟨d, nn, 8, rfl, by decide, hD, ?_⟩
      rintro _ H4 ⟨D, L, as, ss, m, c, i, pr, rfl, hM, hpr, h8⟩ hD4 hk4
      walk_at "x"
      refine ⟨d, nn, D, L, as, ss, m, c, i, pr, rfl, hM, hpr, hD4, ?_⟩
      rintro _ H5 ⟨D2, L2, bs, tt, m', c', i', rfl, hM2, l8⟩ hD5 hk5
      have hM := hM.keep hD4 hk5
      walk_at "x"
      refine ⟨d, D, L, as, ss, m, c, i, _, rfl, hM, fun p L' H6 hL' s6 hP => ?_⟩
      have hLd : L' ≠ d := fun e => hD5.ne (e ▸ hL')
      have hD6 := hD5.same s6
      have hM := hM.same s6
      have hM2 := hM2.same s6
      walk_at "x"
      refine ⟨d, D2, L2, bs, tt, m', c', i', _, rfl, hM2, fun p2 L2' H7 hL2' s7 hP2 => ?_⟩
      have hL2d : L2' ≠ d := fun e => hD6.ne (e ▸ hL2')
      have hD7 := hD6.same s7
      have hM := hM.same s7
      have hM2 := hM2.same s7
      have hP := hP.same s7
      walk_at "x"
      refine ⟨d, D, L, p, L', D2, L2, p2, L2', as, bs, ss, tt, m, c, i, m', c', i', _, _, rfl, hM, hP, hM2, hP2, by omega, by omega, fun H8 s8 => ?_⟩
      have hD8 := hD7.same s8
      have hM := hM.same s8
      have hM2 := hM2.same s8
      have hP := hP.same s8
      have hP2 := hP2.same s8
      walk_at "x"
      walk_at "f"
      refine x_forPreQ ?_
      walk_at "x"
      refine ⟨d, nn, rfl, hD8, ?_⟩
      rintro _ H9 ⟨w, rfl, w0, w1⟩ hD9 hk9
      have hM := hM.keep hD8 hk9
      have hM2 := hM2.keep hD8 hk9
      have hP := hP.keep hLd hD8 hk9
      have hP2 := hP2.keep hL2d hD8 hk9
      refine x_dgVC rfl hM.dk mdl_s ?_
      walk_at "x"
      refine x_len (sq_of hM.lst) ?_
      walk_at "x"
      have hal := hM.st.1
      refine ⟨by show 3 ≤ sizeLine; decide, fun u hu => ?_⟩
      have su := same_upd (o := .lst [V.bl true, .non, .str "1"]) hu
      have eu : (upd H9 u (.lst [V.bl true, .non, .str "1"])) u = some (.lst [V.bl true, .non, .str "1"]) := upd_same
      generalize upd H9 u (.lst [V.bl true, .non, .str "1"]) = HA at su eu
      have hDA := hD9.same su
      walk_at "x"
      refine ⟨d, nn, rfl, hDA, ?_⟩
      rintro _ HB ⟨z, rfl, z0, z1⟩ hDB hkB
      have eu := hkB _ _ eu (fun e => hD9.ne (e ▸ hu))
      have hM := (hM.same su).keep hDA hkB
      have hM2 := (hM2.same su).keep hDA hkB
      have hP := (hP.same su).keep hLd hDA hkB
      have hP2 := (hP2.same su).keep hL2d hDA hkB
      walk_at "x"
      obtain ⟨y, hyz, hy, hyr⟩ : ∃ y, atI [V.bl true, .non, .str "1"] (z % 3) = some y ∧ (∀ H', Odd H' y) ∧ ∀ b, y ≠ .ref b := by
        rcases (show z % 3 = 0 ∨ z % 3 = 1 ∨ z % 3 = 2 by omega) with e | e | e
        · rw [e]; exact ⟨_, rfl, fun _ => .bl _, fun _ h => by cases h⟩
        · rw [e]; exact ⟨_, rfl, fun _ => .non, fun _ h => by cases h⟩
        · rw [e]; exact ⟨_, rfl, fun _ => .str _, fun _ h => by cases h⟩
      refine x_ixL (v := y) (sq_of eu) hyz ?_
      walk_at "x"
      refine ⟨by show 2 ≤ sizeLine; decide, fun r hr0 => ?_⟩
      generalize hk : w % (((as.map V.ref).length : Int) + 3) - 1 = kk
      have sr := same_upd (o := .lst [V.int kk, y]) hr0
      have er : (upd HB r (.lst [V.int kk, y])) r = some (.lst [V.int kk, y]) := upd_same
      generalize upd HB r (.lst [V.int kk, y]) = HC at sr er
      have hDC := hDB.same sr
      have hM := hM.same sr
      have hM2 := hM2.same sr
      have hP := hP.same sr
      have hP2 := hP2.same sr
      refine x_forL (p := r) [V.int kk, y] (fun k σ' H' => ∃ v7, σ' = [some (.ref a), some (.ref d), some (.int (turn : Int)), some (.ref D), some (.ref D2), some (.ref p), some (.ref p2), v7, v8, v9, v10] ∧ Same HC H') (fun R r => by walk_at "x"; exact r) (sq_of er) ⟨_, rfl, Same.refl _⟩ (fun k σ' H' _ z => by obtain ⟨_, _, z⟩ := z; exact sq_of (z _ _ er)) ?_ ?_
      · rintro k x σ' H' hx ⟨v7, rfl, sC⟩
        walk_at "x"
        have hox : Odd H' x ∧ ∀ b, x ≠ .ref b := by
          match k, hx with
          | 0, hx => cases hx; exact ⟨.int _, fun _ h => by cases h⟩
          | 1, hx => cases hx; exact ⟨hy _, hyr⟩
          | k + 2, hx => simp at hx
        refine ⟨d, D, L, p, L', as, ss, m, c, i, _, x, rfl, hM.same sC, hP.same sC, hM.ok, hox.1, hox.2, fun H'' s'' => ?_⟩
        walk_at "x"
        walk_at "f"
        exact ⟨_, rfl, sC.trans s''⟩
      rintro σ' HD ⟨v7, rfl, sD⟩
      have hD := hDC.same sD
      have hM := hM.same sD
      have hM2 := hM2.same sD
      have hP := hP.same sD
      have hP2 := hP2.same sD
      clear hDC hD9 hDA hDB sr er su eu hu hr0 sD
      refine x_cut (fun σ' H' => ∃ v7 v8 v9 v10, σ' = [some (.ref a), some (.ref d), some (.int (turn : Int)), some (.ref D), some (.ref D2), some (.ref p), some (.ref p2), v7, v8, v9, v10] ∧ Dr H' d nn ∧ MdAt H' d D L as ss m c i [(.inr "prime", .bl pr)] ∧ MdAt H' d D2 L2 bs tt m' c' i' [] ∧ PrAt K T.C_Program H' p L' as ss m c i ∧ PrAt K T.C_Program H' p2 L2' bs tt m' c' i') ?_ ?_
      · walk_at "x"
        have fin : ∀ {σ' : List (Option V)} {H' : Hp}, (∃ v7 v8 v9 v10, σ' = [some (V.ref a), some (.ref d), some (.int (turn : Int)), some (.ref D), some (.ref D2), some (.ref p), some (.ref p2), v7, v8, v9, v10]) → Same HD H' → ∃ v7 v8 v9 v10, σ' = [some (V.ref a), some (.ref d), some (.int (turn : Int)), some (.ref D), some (.ref D2), some (.ref p), some (.ref p2), v7, v8, v9, v10] ∧ Dr H' d nn ∧ MdAt H' d D L as ss m c i [(.inr "prime", .bl pr)] ∧ MdAt H' d D2 L2 bs tt m' c' i' [] ∧ PrAt K T.C_Program H' p L' as ss m c i ∧ PrAt K T.C_Program H' p2 L2' bs tt m' c' i' := fun ⟨x1, x2, x3, x4, e⟩ s => ⟨x1, x2, x3, x4, e, hD.same s, hM.same s, hM2.same s, hP.same s, hP2.same s⟩
        refine x_dgVC rfl hM.dk mdl_m ?_
        refine x_dgVC rfl hM2.dk mdl_m ?_
        walk_at "x"
        refine x_ite (fun a1 => ?_) (fun a1 => ?_)
        · refine x_dgVC rfl hM.dk mdl_c ?_
          refine x_dgVC rfl hM2.dk mdl_c ?_
          walk_at "x"
          refine x_ite (fun a2 => ?_) (fun a2 => ?_)
          · refine x_dgVC rfl hM.dk mdl_i ?_
            refine x_dgVC rfl hM2.dk mdl_i ?_
            walk_at "x"
            refine x_ite (fun a3 => ?_) (fun a3 => ?_)
            · obtain rfl : m = m' := by omega
              obtain rfl : c = c' := by omega
              obtain rfl : i = i' := by omega
              have ok := hM.ok
              have ok2 := hM2.ok
              walk_at "x"
              refine ⟨d, nn, D, L, as, ss, m, c, i, _, rfl, hM, hD, fun mo mv H5 _ hmod hmo mm hD5 hk5 => ?_⟩
              have hM := hM.keep hD hk5
              have hM2 := hM2.keep hD hk5
              have hP := hP.keep hLd hD hk5
              have hP2 := hP2.keep hL2d hD hk5
              walk_at "x"
              refine ⟨d, nn, D, L, as, ss, m, c, i, _, rfl, hM, hD5, fun io iv H6 _ hiod hio mi hD6 hk6 => ?_⟩
              have hM := hM.keep hD5 hk6
              have hM2 := hM2.keep hD5 hk6
              have hP := hP.keep hLd hD5 hk6
              have hP2 := hP2.keep hL2d hD5 hk6
              have hmo := hk6 _ _ hmo hmod
              obtain ⟨dx, hp, hC⟩ := id hP.ob
              obtain ⟨dx2, hp2, hC2⟩ := id hP2.ob
              clear hD hk5 hk6 hD5 fin
              walk_at "x"
              refine x_meth ?_
              walk_at "x"
              refine ⟨p2, dx2, _, rfl, hp2, rfl, ?_⟩
              walk_at "x"
              refine x_meth ?_
              walk_at "x"
              refine ⟨p, dx, _, rfl, hp, rfl, ?_⟩
              walk_at "x"
              refine x_listL (sq_of hmo) fun ho hho => ?_
              walk_at "x"
              have s7 := same_upd (o := .lst (mv.map V.int)) hho
              have hho7 : (upd H6 ho (.lst (mv.map V.int))) ho = some (.lst (mv.map V.int)) := upd_same
              generalize upd H6 ho (.lst (mv.map V.int)) = H7 at s7 hho7
              refine x_listL (sq_of (s7 _ _ hio)) fun ih hih => ?_
              walk_at "x"
              have s8 := s7.trans (same_upd (o := .lst (iv.map V.int)) hih)
              have hho8 := same_upd (o := .lst (iv.map V.int)) hih _ _ hho7
              have hih8 : (upd H7 ih (.lst (iv.map V.int))) ih = some (.lst (iv.map V.int)) := upd_same
              generalize upd H7 ih (.lst (iv.map V.int)) = H8 at s8 hho8 hih8
              refine ⟨T.C_Program, p, ho, ih, L', as, ss, m, c, i, mv, iv, rfl, hP.same s8, ok, hho8, hih8, mm, mi, fun l H9 hl9 s9 hl => ?_⟩
              have s9 := s8.trans s9
              walk_at "x"
              refine x_listL (sq_of (s9 _ _ hio)) fun ih2 hih2 => ?_
              walk_at "x"
              have sA := same_upd (o := .lst (iv.map V.int)) hih2
              have hihA : (upd H9 ih2 (.lst (iv.map V.int))) ih2 = some (.lst (iv.map V.int)) := upd_same
              generalize upd H9 ih2 (.lst (iv.map V.int)) = HA at sA hihA
              have hlA := sA _ _ hl
              have sA := s9.trans sA
              have mm2 : Mem m c (runF m iv ss mv) := runF_mem (Nat.le_trans (by decide) ok.m2) mm ok.ok
              refine ⟨T.C_Program, p2, l, ih2, L2', bs, tt, m, c, i, _, iv, rfl, hP2.same sA, ok2, hlA, hihA, mm2, mi, fun l2 HB hl2 sB hlB => ?_⟩
              have sB := sA.trans sB
              walk_at "x"
              refine x_meth ?_
              walk_at "x"
              refine ⟨p, dx, _, p2, dx2, _, rfl, sB _ _ hp, rfl, sB _ _ hp2, ?_⟩
              refine ⟨p, L', p2, L2', as, bs, ss, tt, m, c, i, m, c, i, rfl, hP.same sB, hP2.same sB, ok, ok2, fun hna => absurd ⟨rfl, rfl, rfl⟩ hna, fun _ _ _ hl => absurd hl (by omega), fun _ _ _ hl p3 L3 H3 s3 hL3 hP3 ok3 => ⟨p3, rfl, ?_⟩⟩
              obtain ⟨dx3, hp3, hC3⟩ := id hP3.ob
              have hl3 := s3 _ _ hlB
              have s3 := sB.trans s3
              walk_at "x"
              refine ⟨p3, dx3, _, rfl, hp3, rfl, ?_⟩
              walk_at "x"
              refine x_listL (sq_of (s3 _ _ hmo)) fun ho3 hho3 => ?_
              walk_at "x"
              have s4 := same_upd (o := .lst (mv.map V.int)) hho3
              have hho4 : (upd H3 ho3 (.lst (mv.map V.int))) ho3 = some (.lst (mv.map V.int)) := upd_same
              generalize upd H3 ho3 (.lst (mv.map V.int)) = HE at s4 hho4
              refine x_listL (sq_of (s4 _ _ (s3 _ _ hio))) fun ih3 hih3 => ?_
              walk_at "x"
              have hho5 := same_upd (o := .lst (iv.map V.int)) hih3 _ _ hho4
              have s5 := s4.trans (same_upd (o := .lst (iv.map V.int)) hih3)
              have hih5 : (upd HE ih3 (.lst (iv.map V.int))) ih3 = some (.lst (iv.map V.int)) := upd_same
              generalize upd HE ih3 (.lst (iv.map V.int)) = HF at s5 hho5 hih5
              refine ⟨T.C_Program, p3, ho3, ih3, L3, _, _, m, c, i, mv, iv, rfl, hP3.same s5, ok3, hho5, hih5, mm, mi, fun l4 HG hl4 s6 hl4G => ?_⟩
              have s6 := s5.trans s6
              have hl3 := s6 _ _ hl3
              rw [runF_app] at hl4G
              have mm3 : Mem m c (runF m iv tt (runF m iv ss mv)) := runF_mem (Nat.le_trans (by decide) ok.m2) mm2 ok2.ok
              have hc60 := ok.c60
              have ln := mm3.len
              walk_at "x"
              refine ⟨_, _, rfl, Eqv.ints (n := 3) hl4G hl3 (by omega), ?_⟩
              walk_at "x"
              walk_at "f"
              have s6 := s3.trans s6
              exact ⟨_, _, _, _, rfl, hD6.same s6, hM.same s6, hM2.same s6, hP.same s6, hP2.same s6⟩
            · exact fin ⟨_, _, _, _, rfl⟩ (Same.refl _)
          · exact fin ⟨_, _, _, _, rfl⟩ (Same.refl _)
        · exact fin ⟨_, _, _, _, rfl⟩ (Same.refl _)
      · clear hD hM hM2 hP hP2
        rintro σ' HE ⟨v7, v8, v9, v10, rfl, hD, hM, hM2, hP, hP2⟩
        walk_at "x"
        obtain ⟨dx, hp, hC⟩ := id hP.ob
        obtain ⟨dx2, hp2, hC2⟩ := id hP2.ob
        refine x_fldR hp hC.cl hC.s progF_s ?_
        walk_at "x"
        refine x_dgVC rfl hM.dk mdl_s ?_
        walk_at "x"
        refine ⟨_, _, rfl, eqv_steps hP.lst hM.lst hP.st hM.ok.ok (by have := hM.ok.len; omega), ?_⟩
        walk_at "x"
        walk_at "f"
        refine x_fldR hp2 hC2.cl hC2.s progF_s ?_
        walk_at "x"
        refine x_dgVC rfl hM2.dk mdl_s ?_
        walk_at "x"
        refine ⟨_, _, rfl, eqv_steps hP2.lst hM2.lst hP2.st hM2.ok.ok (by have := hM2.ok.len; omega), ?_⟩
        walk_at "x"
        walk_at "f"
        exact ⟨hD, _, _, _, _, _, _, _, _, _, rfl⟩
    · rintro σ' H3 ⟨hD, v2, v3, v4, v5, v6, v7, v8, v9, v10, rfl⟩
      walk_at "x"
      exact q _

theorem all_mk {l : PySem.W.OpenLaw} {w : World} {K : PySem.W.Frag} {h : Heap} {mg : Str → Option Value} {fa : Addr} (X : K.In h) (G : h.Ns mainGlobals mg) (hfa : mg "law" = some (.ref fa))
    {f0 : Addr} {od0 an0 : Option Addr} {sl0 : Array (Option Value)} {oc0 kV0 dc0 pm0 cd0 ct0 : Value}
    {f1 : Addr} {od1 an1 : Option Addr} {sl1 : Array (Option Value)} {oc1 kV1 dc1 pm1 cd1 ct1 : Value}
    {f2 : Addr} {od2 an2 : Option Addr} {sl2 : Array (Option Value)} {oc2 kV2 dc2 pm2 cd2 ct2 : Value}
    {f3 : Addr} {od3 an3 : Option Addr} {sl3 : Array (Option Value)} {oc3 kV3 dc3 pm3 cd3 ct3 : Value}
    {f4 : Addr} {od4 an4 : Option Addr} {sl4 : Array (Option Value)} {oc4 kV4 dc4 pm4 cd4 ct4 : Value}
    {f5 : Addr} {od5 an5 : Option Addr} {sl5 : Array (Option Value)} {oc5 kV5 dc5 pm5 cd5 ct5 : Value}
    {f6 : Addr} {od6 an6 : Option Addr} {sl6 : Array (Option Value)} {oc6 kV6 dc6 pm6 cd6 ct6 : Value}
    {f7 : Addr} {od7 an7 : Option Addr} {sl7 : Array (Option Value)} {oc7 kV7 dc7 pm7 cd7 ct7 : Value}
    {f8 : Addr} {od8 an8 : Option Addr} {sl8 : Array (Option Value)} {oc8 kV8 dc8 pm8 cd8 ct8 : Value}
    {f9 : Addr} {od9 an9 : Option Addr} {sl9 : Array (Option Value)} {oc9 kV9 dc9 pm9 cd9 ct9 : Value}
    {f10 : Addr} {od10 an10 : Option Addr} {sl10 : Array (Option Value)} {oc10 kV10 dc10 pm10 cd10 ct10 : Value}
    {f11 : Addr} {od11 an11 : Option Addr} {sl11 : Array (Option Value)} {oc11 kV11 dc11 pm11 cd11 ct11 : Value}
    {f12 : Addr} {od12 an12 : Option Addr} {sl12 : Array (Option Value)} {oc12 kV12 dc12 pm12 cd12 ct12 : Value}
    {f13 : Addr} {od13 an13 : Option Addr} {sl13 : Array (Option Value)} {oc13 kV13 dc13 pm13 cd13 ct13 : Value}
    {f14 : Addr} {od14 an14 : Option Addr} {sl14 : Array (Option Value)} {oc14 kV14 dc14 pm14 cd14 ct14 : Value}
    {f15 : Addr} {od15 an15 : Option Addr} {sl15 : Array (Option Value)} {oc15 kV15 dc15 pm15 cd15 ct15 : Value}
    {f16 : Addr} {od16 an16 : Option Addr} {sl16 : Array (Option Value)} {oc16 kV16 dc16 pm16 cd16 ct16 : Value}
    {f17 : Addr} {od17 an17 : Option Addr} {sl17 : Array (Option Value)} {oc17 kV17 dc17 pm17 cd17 ct17 : Value}
    {f18 : Addr} {od18 an18 : Option Addr} {sl18 : Array (Option Value)} {oc18 kV18 dc18 pm18 cd18 ct18 : Value}
    {f19 : Addr} {od19 an19 : Option Addr} {sl19 : Array (Option Value)} {oc19 kV19 dc19 pm19 cd19 ct19 : Value}
    {f20 : Addr} {od20 an20 : Option Addr} {sl20 : Array (Option Value)} {oc20 kV20 dc20 pm20 cd20 ct20 : Value}
    {f21 : Addr} {od21 an21 : Option Addr} {sl21 : Array (Option Value)} {oc21 kV21 dc21 pm21 cd21 ct21 : Value}
    {f22 : Addr} {od22 an22 : Option Addr} {sl22 : Array (Option Value)} {oc22 kV22 dc22 pm22 cd22 ct22 : Value}
    {f23 : Addr} {od23 an23 : Option Addr} {sl23 : Array (Option Value)} {oc23 kV23 dc23 pm23 cd23 ct23 : Value}
    {f24 : Addr} {od24 an24 : Option Addr} {sl24 : Array (Option Value)} {oc24 kV24 dc24 pm24 cd24 ct24 : Value}
    {f25 : Addr} {od25 an25 : Option Addr} {sl25 : Array (Option Value)} {oc25 kV25 dc25 pm25 cd25 ct25 : Value}
    {f26 : Addr} {od26 an26 : Option Addr} {sl26 : Array (Option Value)} {oc26 kV26 dc26 pm26 cd26 ct26 : Value}
    {f27 : Addr} {od27 an27 : Option Addr} {sl27 : Array (Option Value)} {oc27 kV27 dc27 pm27 cd27 ct27 : Value}
    {f28 : Addr} {od28 an28 : Option Addr} {sl28 : Array (Option Value)} {oc28 kV28 dc28 pm28 cd28 ct28 : Value}
    {f29 : Addr} {od29 an29 : Option Addr} {sl29 : Array (Option Value)} {oc29 kV29 dc29 pm29 cd29 ct29 : Value}
    {f30 : Addr} {od30 an30 : Option Addr} {sl30 : Array (Option Value)} {oc30 kV30 dc30 pm30 cd30 ct30 : Value}
    {f31 : Addr} {od31 an31 : Option Addr} {sl31 : Array (Option Value)} {oc31 kV31 dc31 pm31 cd31 ct31 : Value}
    {f32 : Addr} {od32 an32 : Option Addr} {sl32 : Array (Option Value)} {oc32 kV32 dc32 pm32 cd32 ct32 : Value}
    {f33 : Addr} {od33 an33 : Option Addr} {sl33 : Array (Option Value)} {oc33 kV33 dc33 pm33 cd33 ct33 : Value}
    {f34 : Addr} {od34 an34 : Option Addr} {sl34 : Array (Option Value)} {oc34 kV34 dc34 pm34 cd34 ct34 : Value}
    {f35 : Addr} {od35 an35 : Option Addr} {sl35 : Array (Option Value)} {oc35 kV35 dc35 pm35 cd35 ct35 : Value}
    {f36 : Addr} {od36 an36 : Option Addr} {sl36 : Array (Option Value)} {oc36 kV36 dc36 pm36 cd36 ct36 : Value}
    {f37 : Addr} {od37 an37 : Option Addr} {sl37 : Array (Option Value)} {oc37 kV37 dc37 pm37 cd37 ct37 : Value}
    {f38 : Addr} {od38 an38 : Option Addr} {sl38 : Array (Option Value)} {oc38 kV38 dc38 pm38 cd38 ct38 : Value}
    {f39 : Addr} {od39 an39 : Option Addr} {sl39 : Array (Option Value)} {oc39 kV39 dc39 pm39 cd39 ct39 : Value}
    {f40 : Addr} {od40 an40 : Option Addr} {sl40 : Array (Option Value)} {oc40 kV40 dc40 pm40 cd40 ct40 : Value}
    {f41 : Addr} {od41 an41 : Option Addr} {sl41 : Array (Option Value)} {oc41 kV41 dc41 pm41 cd41 ct41 : Value}
    {f42 : Addr} {od42 an42 : Option Addr} {sl42 : Array (Option Value)} {oc42 kV42 dc42 pm42 cd42 ct42 : Value}
    {f43 : Addr} {od43 an43 : Option Addr} {sl43 : Array (Option Value)} {oc43 kV43 dc43 pm43 cd43 ct43 : Value}
    {f44 : Addr} {od44 an44 : Option Addr} {sl44 : Array (Option Value)} {oc44 kV44 dc44 pm44 cd44 ct44 : Value}
    {f45 : Addr} {od45 an45 : Option Addr} {sl45 : Array (Option Value)} {oc45 kV45 dc45 pm45 cd45 ct45 : Value}
    {f46 : Addr} {od46 an46 : Option Addr} {sl46 : Array (Option Value)} {oc46 kV46 dc46 pm46 cd46 ct46 : Value}
    {f47 : Addr} {od47 an47 : Option Addr} {sl47 : Array (Option Value)} {oc47 kV47 dc47 pm47 cd47 ct47 : Value}
    {f48 : Addr} {od48 an48 : Option Addr} {sl48 : Array (Option Value)} {oc48 kV48 dc48 pm48 cd48 ct48 : Value}
    {f49 : Addr} {od49 an49 : Option Addr} {sl49 : Array (Option Value)} {oc49 kV49 dc49 pm49 cd49 ct49 : Value}
    {f50 : Addr} {od50 an50 : Option Addr} {sl50 : Array (Option Value)} {oc50 kV50 dc50 pm50 cd50 ct50 : Value}
    {f51 : Addr} {od51 an51 : Option Addr} {sl51 : Array (Option Value)} {oc51 kV51 dc51 pm51 cd51 ct51 : Value}
    {f52 : Addr} {od52 an52 : Option Addr} {sl52 : Array (Option Value)} {oc52 kV52 dc52 pm52 cd52 ct52 : Value}
    {f53 : Addr} {od53 an53 : Option Addr} {sl53 : Array (Option Value)} {oc53 kV53 dc53 pm53 cd53 ct53 : Value}
    {f54 : Addr} {od54 an54 : Option Addr} {sl54 : Array (Option Value)} {oc54 kV54 dc54 pm54 cd54 ct54 : Value}
    {C_Program : Addr}
    {E_BrimfulError : Addr}
    {E_BadStep : Addr}
    {E_BadMemory : Addr}
    {t_GREATEST_MODULUS : Tok}
    {t_MOST_CELLS : Tok}
    {t_MOST_FACTORS : Tok}
    {t_MOST_INPUTS : Tok}
    {t_MOST_STEPS : Tok}
    (aC_Program : PySem.W.nsIn K mainGlobals "Program" = some (some (.ref C_Program)))
    (pg_Program : PySem.W.plainGet K C_Program Str.empty = true) (hd_Program : PySem.W.hasDictIn K C_Program = true) (po_Program : PySem.W.plainOver K C_Program = true)
    (sa_Program : PySem.W.findIn K (.ref C_Program) "__setattr__" = some (some (.builtin "object.__setattr__"))) (mk_Program : PySem.W.makesIn K C_Program = true) (kc_Program : PySem.W.keepIn K (.ref C_Program) = true)
    (hnE : PySem.W.specialIn K (.builtin "object.__class__") "__get__" = some (some (.builtin "getset_descriptor.__get__"))) (htE : PySem.W.takesIn K (.builtin "object.__class__") = some true)
    (aE_BrimfulError : PySem.W.nsIn K mainGlobals "BrimfulError" = some (some (.ref E_BrimfulError))) (xE_BrimfulError : PySem.W.excIn K E_BrimfulError [.type "ValueError", .type "Exception", .type "BaseException", .type "object"] "ValueError.__new__" = true) (kE_BrimfulError : PySem.W.keepIn K (.ref E_BrimfulError) = true)
    (bE_BrimfulError : PySem.W.subIn K (.ref E_BrimfulError) (.type "BaseException") = some true) (tE_BrimfulError : PySem.W.typeIn K (.ref E_BrimfulError) = some (.type "type")) (dE_BrimfulError : PySem.W.hasDictIn K E_BrimfulError = true)
    (h1E_BrimfulError : PySem.W.findIn K (.ref E_BrimfulError) "__getattribute__" = some (some (.builtin "BaseException.__getattribute__"))) (h2E_BrimfulError : PySem.W.findIn K (.ref E_BrimfulError) "__getattr__" = some none) (h3E_BrimfulError : PySem.W.findIn K (.ref E_BrimfulError) "__class__" = some (some (.builtin "object.__class__"))) (h4E_BrimfulError : PySem.W.mroIn K E_BrimfulError (.type "object") = some true)
    (aE_BadStep : PySem.W.nsIn K mainGlobals "BadStep" = some (some (.ref E_BadStep))) (xE_BadStep : PySem.W.excIn K E_BadStep [.type "ValueError", .type "Exception", .type "BaseException", .type "object"] "ValueError.__new__" = true) (kE_BadStep : PySem.W.keepIn K (.ref E_BadStep) = true)
    (bE_BadStep : PySem.W.subIn K (.ref E_BadStep) (.type "BaseException") = some true) (tE_BadStep : PySem.W.typeIn K (.ref E_BadStep) = some (.type "type")) (dE_BadStep : PySem.W.hasDictIn K E_BadStep = true)
    (h1E_BadStep : PySem.W.findIn K (.ref E_BadStep) "__getattribute__" = some (some (.builtin "BaseException.__getattribute__"))) (h2E_BadStep : PySem.W.findIn K (.ref E_BadStep) "__getattr__" = some none) (h3E_BadStep : PySem.W.findIn K (.ref E_BadStep) "__class__" = some (some (.builtin "object.__class__"))) (h4E_BadStep : PySem.W.mroIn K E_BadStep (.type "object") = some true)
    (aE_BadMemory : PySem.W.nsIn K mainGlobals "BadMemory" = some (some (.ref E_BadMemory))) (xE_BadMemory : PySem.W.excIn K E_BadMemory [.type "ValueError", .type "Exception", .type "BaseException", .type "object"] "ValueError.__new__" = true) (kE_BadMemory : PySem.W.keepIn K (.ref E_BadMemory) = true)
    (bE_BadMemory : PySem.W.subIn K (.ref E_BadMemory) (.type "BaseException") = some true) (tE_BadMemory : PySem.W.typeIn K (.ref E_BadMemory) = some (.type "type")) (dE_BadMemory : PySem.W.hasDictIn K E_BadMemory = true)
    (h1E_BadMemory : PySem.W.findIn K (.ref E_BadMemory) "__getattribute__" = some (some (.builtin "BaseException.__getattribute__"))) (h2E_BadMemory : PySem.W.findIn K (.ref E_BadMemory) "__getattr__" = some none) (h3E_BadMemory : PySem.W.findIn K (.ref E_BadMemory) "__class__" = some (some (.builtin "object.__class__"))) (h4E_BadMemory : PySem.W.mroIn K E_BadMemory (.type "object") = some true)
    (sE_BrimfulError_BrimfulError : PySem.W.subIn K (.ref E_BrimfulError) (.ref E_BrimfulError) = some true)
    (sE_BrimfulError_BadStep : PySem.W.subIn K (.ref E_BrimfulError) (.ref E_BadStep) = some false)
    (sE_BrimfulError_BadMemory : PySem.W.subIn K (.ref E_BrimfulError) (.ref E_BadMemory) = some false)
    (sE_BadStep_BrimfulError : PySem.W.subIn K (.ref E_BadStep) (.ref E_BrimfulError) = some true)
    (sE_BadStep_BadStep : PySem.W.subIn K (.ref E_BadStep) (.ref E_BadStep) = some true)
    (sE_BadStep_BadMemory : PySem.W.subIn K (.ref E_BadStep) (.ref E_BadMemory) = some false)
    (sE_BadMemory_BrimfulError : PySem.W.subIn K (.ref E_BadMemory) (.ref E_BrimfulError) = some true)
    (sE_BadMemory_BadStep : PySem.W.subIn K (.ref E_BadMemory) (.ref E_BadStep) = some false)
    (sE_BadMemory_BadMemory : PySem.W.subIn K (.ref E_BadMemory) (.ref E_BadMemory) = some true)
    (a0 : PySem.W.nsIn K mainGlobals "is_below" = some (some (.ref f0)))
    (l0 : K.lookup f0 = some ⟨oc0, od0, .func (PySem.W.fnOf "is_below" "is_below" (defArgs s_is_below) (defBody s_is_below) (defScope s_is_below) .none kV0 dc0 pm0 an0 cd0 ct0), sl0⟩)
    (c0 : PySem.W.codeIn K cd0 "is_below" = true) (k0 : PySem.W.keepIn K (.ref f0) = true)
    (a1 : PySem.W.nsIn K mainGlobals "is_modulus" = some (some (.ref f1)))
    (l1 : K.lookup f1 = some ⟨oc1, od1, .func (PySem.W.fnOf "is_modulus" "is_modulus" (defArgs s_is_modulus) (defBody s_is_modulus) (defScope s_is_modulus) .none kV1 dc1 pm1 an1 cd1 ct1), sl1⟩)
    (c1 : PySem.W.codeIn K cd1 "is_modulus" = true) (k1 : PySem.W.keepIn K (.ref f1) = true)
    (a2 : PySem.W.nsIn K mainGlobals "are_numbers" = some (some (.ref f2)))
    (l2 : K.lookup f2 = some ⟨oc2, od2, .func (PySem.W.fnOf "are_numbers" "are_numbers" (defArgs s_are_numbers) (defBody s_are_numbers) (defScope s_are_numbers) .none kV2 dc2 pm2 an2 cd2 ct2), sl2⟩)
    (c2 : PySem.W.codeIn K cd2 "are_numbers" = true) (k2 : PySem.W.keepIn K (.ref f2) = true)
    (a3 : PySem.W.nsIn K mainGlobals "is_prime" = some (some (.ref f3)))
    (l3 : K.lookup f3 = some ⟨oc3, od3, .func (PySem.W.fnOf "is_prime" "is_prime" (defArgs s_is_prime) (defBody s_is_prime) (defScope s_is_prime) .none kV3 dc3 pm3 an3 cd3 ct3), sl3⟩)
    (c3 : PySem.W.codeIn K cd3 "is_prime" = true) (k3 : PySem.W.keepIn K (.ref f3) = true)
    (a4 : PySem.W.nsIn K mainGlobals "inverse_of" = some (some (.ref f4)))
    (l4 : K.lookup f4 = some ⟨oc4, od4, .func (PySem.W.fnOf "inverse_of" "inverse_of" (defArgs s_inverse_of) (defBody s_inverse_of) (defScope s_inverse_of) .none kV4 dc4 pm4 an4 cd4 ct4), sl4⟩)
    (c4 : PySem.W.codeIn K cd4 "inverse_of" = true) (k4 : PySem.W.keepIn K (.ref f4) = true)
    (a5 : PySem.W.nsIn K mainGlobals "interpolate" = some (some (.ref f5)))
    (l5 : K.lookup f5 = some ⟨oc5, od5, .func (PySem.W.fnOf "interpolate" "interpolate" (defArgs s_interpolate) (defBody s_interpolate) (defScope s_interpolate) .none kV5 dc5 pm5 an5 cd5 ct5), sl5⟩)
    (c5 : PySem.W.codeIn K cd5 "interpolate" = true) (k5 : PySem.W.keepIn K (.ref f5) = true)
    (a6 : PySem.W.nsIn K mainGlobals "_weighted" = some (some (.ref f6)))
    (l6 : K.lookup f6 = some ⟨oc6, od6, .func (PySem.W.fnOf "_weighted" "_weighted" (defArgs s_weighted) (defBody s_weighted) (defScope s_weighted) .none kV6 dc6 pm6 an6 cd6 ct6), sl6⟩)
    (c6 : PySem.W.codeIn K cd6 "_weighted" = true) (k6 : PySem.W.keepIn K (.ref f6) = true)
    (a7 : PySem.W.nsIn K mainGlobals "_shares" = some (some (.ref f7)))
    (l7 : K.lookup f7 = some ⟨oc7, od7, .func (PySem.W.fnOf "_shares" "_shares" (defArgs s_shares) (defBody s_shares) (defScope s_shares) .none kV7 dc7 pm7 an7 cd7 ct7), sl7⟩)
    (c7 : PySem.W.codeIn K cd7 "_shares" = true) (k7 : PySem.W.keepIn K (.ref f7) = true)
    (a8 : PySem.W.nsIn K mainGlobals "products_of_differences" = some (some (.ref f8)))
    (l8 : K.lookup f8 = some ⟨oc8, od8, .func (PySem.W.fnOf "products_of_differences" "products_of_differences" (defArgs s_products_of_differences) (defBody s_products_of_differences) (defScope s_products_of_differences) .none kV8 dc8 pm8 an8 cd8 ct8), sl8⟩)
    (c8 : PySem.W.codeIn K cd8 "products_of_differences" = true) (k8 : PySem.W.keepIn K (.ref f8) = true)
    (a9 : PySem.W.nsIn K mainGlobals "is_step" = some (some (.ref f9)))
    (l9 : K.lookup f9 = some ⟨oc9, od9, .func (PySem.W.fnOf "is_step" "is_step" (defArgs s_is_step) (defBody s_is_step) (defScope s_is_step) .none kV9 dc9 pm9 an9 cd9 ct9), sl9⟩)
    (c9 : PySem.W.codeIn K cd9 "is_step" = true) (k9 : PySem.W.keepIn K (.ref f9) = true)
    (a10 : PySem.W.nsIn K mainGlobals "_are_factors" = some (some (.ref f10)))
    (l10 : K.lookup f10 = some ⟨oc10, od10, .func (PySem.W.fnOf "_are_factors" "_are_factors" (defArgs s_are_factors) (defBody s_are_factors) (defScope s_are_factors) .none kV10 dc10 pm10 an10 cd10 ct10), sl10⟩)
    (c10 : PySem.W.codeIn K cd10 "_are_factors" = true) (k10 : PySem.W.keepIn K (.ref f10) = true)
    (a11 : PySem.W.nsIn K mainGlobals "_is_factor" = some (some (.ref f11)))
    (l11 : K.lookup f11 = some ⟨oc11, od11, .func (PySem.W.fnOf "_is_factor" "_is_factor" (defArgs s_is_factor) (defBody s_is_factor) (defScope s_is_factor) .none kV11 dc11 pm11 an11 cd11 ct11), sl11⟩)
    (c11 : PySem.W.codeIn K cd11 "_is_factor" = true) (k11 : PySem.W.keepIn K (.ref f11) = true)
    (a12 : PySem.W.nsIn K mainGlobals "_are_three_cells" = some (some (.ref f12)))
    (l12 : K.lookup f12 = some ⟨oc12, od12, .func (PySem.W.fnOf "_are_three_cells" "_are_three_cells" (defArgs s_are_three_cells) (defBody s_are_three_cells) (defScope s_are_three_cells) .none kV12 dc12 pm12 an12 cd12 ct12), sl12⟩)
    (c12 : PySem.W.codeIn K cd12 "_are_three_cells" = true) (k12 : PySem.W.keepIn K (.ref f12) = true)
    (a13 : PySem.W.nsIn K mainGlobals "_is_sign" = some (some (.ref f13)))
    (l13 : K.lookup f13 = some ⟨oc13, od13, .func (PySem.W.fnOf "_is_sign" "_is_sign" (defArgs s_is_sign) (defBody s_is_sign) (defScope s_is_sign) .none kV13 dc13 pm13 an13 cd13 ct13), sl13⟩)
    (c13 : PySem.W.codeIn K cd13 "_is_sign" = true) (k13 : PySem.W.keepIn K (.ref f13) = true)
    (a14 : PySem.W.nsIn K mainGlobals "is_table" = some (some (.ref f14)))
    (l14 : K.lookup f14 = some ⟨oc14, od14, .func (PySem.W.fnOf "is_table" "is_table" (defArgs s_is_table) (defBody s_is_table) (defScope s_is_table) .none kV14 dc14 pm14 an14 cd14 ct14), sl14⟩)
    (c14 : PySem.W.codeIn K cd14 "is_table" = true) (k14 : PySem.W.keepIn K (.ref f14) = true)
    (a15 : PySem.W.nsIn K mainGlobals "_is_row" = some (some (.ref f15)))
    (l15 : K.lookup f15 = some ⟨oc15, od15, .func (PySem.W.fnOf "_is_row" "_is_row" (defArgs s_is_row) (defBody s_is_row) (defScope s_is_row) .none kV15 dc15 pm15 an15 cd15 ct15), sl15⟩)
    (c15 : PySem.W.codeIn K cd15 "_is_row" = true) (k15 : PySem.W.keepIn K (.ref f15) = true)
    (a16 : PySem.W.nsIn K mainGlobals "changes" = some (some (.ref f16)))
    (l16 : K.lookup f16 = some ⟨oc16, od16, .func (PySem.W.fnOf "changes" "changes" (defArgs s_changes) (defBody s_changes) (defScope s_changes) .none kV16 dc16 pm16 an16 cd16 ct16), sl16⟩)
    (c16 : PySem.W.codeIn K cd16 "changes" = true) (k16 : PySem.W.keepIn K (.ref f16) = true)
    (a17 : PySem.W.nsIn K mainGlobals "performed" = some (some (.ref f17)))
    (l17 : K.lookup f17 = some ⟨oc17, od17, .func (PySem.W.fnOf "performed" "performed" (defArgs s_performed) (defBody s_performed) (defScope s_performed) .none kV17 dc17 pm17 an17 cd17 ct17), sl17⟩)
    (c17 : PySem.W.codeIn K cd17 "performed" = true) (k17 : PySem.W.keepIn K (.ref f17) = true)
    (a18 : PySem.W.nsIn K mainGlobals "_product_of" = some (some (.ref f18)))
    (l18 : K.lookup f18 = some ⟨oc18, od18, .func (PySem.W.fnOf "_product_of" "_product_of" (defArgs s_product_of) (defBody s_product_of) (defScope s_product_of) .none kV18 dc18 pm18 an18 cd18 ct18), sl18⟩)
    (c18 : PySem.W.codeIn K cd18 "_product_of" = true) (k18 : PySem.W.keepIn K (.ref f18) = true)
    (a19 : PySem.W.nsIn K mainGlobals "inverse_step" = some (some (.ref f19)))
    (l19 : K.lookup f19 = some ⟨oc19, od19, .func (PySem.W.fnOf "inverse_step" "inverse_step" (defArgs s_inverse_step) (defBody s_inverse_step) (defScope s_inverse_step) .none kV19 dc19 pm19 an19 cd19 ct19), sl19⟩)
    (c19 : PySem.W.codeIn K cd19 "inverse_step" = true) (k19 : PySem.W.keepIn K (.ref f19) = true)
    (a20 : PySem.W.nsIn K mainGlobals "_check_sizes" = some (some (.ref f20)))
    (l20 : K.lookup f20 = some ⟨oc20, od20, .func (PySem.W.fnOf "_check_sizes" "_check_sizes" (defArgs s_check_sizes) (defBody s_check_sizes) (defScope s_check_sizes) .none kV20 dc20 pm20 an20 cd20 ct20), sl20⟩)
    (c20 : PySem.W.codeIn K cd20 "_check_sizes" = true) (k20 : PySem.W.keepIn K (.ref f20) = true)
    (a21 : PySem.W.nsIn K mainGlobals "_check_steps" = some (some (.ref f21)))
    (l21 : K.lookup f21 = some ⟨oc21, od21, .func (PySem.W.fnOf "_check_steps" "_check_steps" (defArgs s_check_steps) (defBody s_check_steps) (defScope s_check_steps) .none kV21 dc21 pm21 an21 cd21 ct21), sl21⟩)
    (c21 : PySem.W.codeIn K cd21 "_check_steps" = true) (k21 : PySem.W.keepIn K (.ref f21) = true)
    (a22 : PySem.W.nsIn K mainGlobals "_law_mixed" = some (some (.ref f22)))
    (l22 : K.lookup f22 = some ⟨oc22, od22, .func (PySem.W.fnOf "_law_mixed" "_law_mixed" (defArgs s_law_mixed) (defBody s_law_mixed) (defScope s_law_mixed) .none kV22 dc22 pm22 an22 cd22 ct22), sl22⟩)
    (c22 : PySem.W.codeIn K cd22 "_law_mixed" = true) (k22 : PySem.W.keepIn K (.ref f22) = true)
    (a23 : PySem.W.nsIn K mainGlobals "_law_numbers" = some (some (.ref f23)))
    (l23 : K.lookup f23 = some ⟨oc23, od23, .func (PySem.W.fnOf "_law_numbers" "_law_numbers" (defArgs s_law_numbers) (defBody s_law_numbers) (defScope s_law_numbers) .none kV23 dc23 pm23 an23 cd23 ct23), sl23⟩)
    (c23 : PySem.W.codeIn K cd23 "_law_numbers" = true) (k23 : PySem.W.keepIn K (.ref f23) = true)
    (a24 : PySem.W.nsIn K mainGlobals "_law_draw" = some (some (.ref f24)))
    (l24 : K.lookup f24 = some ⟨oc24, od24, .func (PySem.W.fnOf "_law_draw" "_law_draw" (defArgs s_law_draw) (defBody s_law_draw) (defScope s_law_draw) .none kV24 dc24 pm24 an24 cd24 ct24), sl24⟩)
    (c24 : PySem.W.codeIn K cd24 "_law_draw" = true) (k24 : PySem.W.keepIn K (.ref f24) = true)
    (a25 : PySem.W.nsIn K mainGlobals "_law_equal" = some (some (.ref f25)))
    (l25 : K.lookup f25 = some ⟨oc25, od25, .func (PySem.W.fnOf "_law_equal" "_law_equal" (defArgs s_law_equal) (defBody s_law_equal) (defScope s_law_equal) .none kV25 dc25 pm25 an25 cd25 ct25), sl25⟩)
    (c25 : PySem.W.codeIn K cd25 "_law_equal" = true) (k25 : PySem.W.keepIn K (.ref f25) = true)
    (a26 : PySem.W.nsIn K mainGlobals "_law_all_equal" = some (some (.ref f26)))
    (l26 : K.lookup f26 = some ⟨oc26, od26, .func (PySem.W.fnOf "_law_all_equal" "_law_all_equal" (defArgs s_law_all_equal) (defBody s_law_all_equal) (defScope s_law_all_equal) .none kV26 dc26 pm26 an26 cd26 ct26), sl26⟩)
    (c26 : PySem.W.codeIn K cd26 "_law_all_equal" = true) (k26 : PySem.W.keepIn K (.ref f26) = true)
    (a27 : PySem.W.nsIn K mainGlobals "_law_large" = some (some (.ref f27)))
    (l27 : K.lookup f27 = some ⟨oc27, od27, .func (PySem.W.fnOf "_law_large" "_law_large" (defArgs s_law_large) (defBody s_law_large) (defScope s_law_large) .none kV27 dc27 pm27 an27 cd27 ct27), sl27⟩)
    (c27 : PySem.W.codeIn K cd27 "_law_large" = true) (k27 : PySem.W.keepIn K (.ref f27) = true)
    (a28 : PySem.W.nsIn K mainGlobals "_law_modulus" = some (some (.ref f28)))
    (l28 : K.lookup f28 = some ⟨oc28, od28, .func (PySem.W.fnOf "_law_modulus" "_law_modulus" (defArgs s_law_modulus) (defBody s_law_modulus) (defScope s_law_modulus) .none kV28 dc28 pm28 an28 cd28 ct28), sl28⟩)
    (c28 : PySem.W.codeIn K cd28 "_law_modulus" = true) (k28 : PySem.W.keepIn K (.ref f28) = true)
    (a29 : PySem.W.nsIn K mainGlobals "_law_number" = some (some (.ref f29)))
    (l29 : K.lookup f29 = some ⟨oc29, od29, .func (PySem.W.fnOf "_law_number" "_law_number" (defArgs s_law_number) (defBody s_law_number) (defScope s_law_number) .none kV29 dc29 pm29 an29 cd29 ct29), sl29⟩)
    (c29 : PySem.W.codeIn K cd29 "_law_number" = true) (k29 : PySem.W.keepIn K (.ref f29) = true)
    (a30 : PySem.W.nsIn K mainGlobals "_law_gcd" = some (some (.ref f30)))
    (l30 : K.lookup f30 = some ⟨oc30, od30, .func (PySem.W.fnOf "_law_gcd" "_law_gcd" (defArgs s_law_gcd) (defBody s_law_gcd) (defScope s_law_gcd) .none kV30 dc30 pm30 an30 cd30 ct30), sl30⟩)
    (c30 : PySem.W.codeIn K cd30 "_law_gcd" = true) (k30 : PySem.W.keepIn K (.ref f30) = true)
    (a31 : PySem.W.nsIn K mainGlobals "_law_unit" = some (some (.ref f31)))
    (l31 : K.lookup f31 = some ⟨oc31, od31, .func (PySem.W.fnOf "_law_unit" "_law_unit" (defArgs s_law_unit) (defBody s_law_unit) (defScope s_law_unit) .none kV31 dc31 pm31 an31 cd31 ct31), sl31⟩)
    (c31 : PySem.W.codeIn K cd31 "_law_unit" = true) (k31 : PySem.W.keepIn K (.ref f31) = true)
    (a32 : PySem.W.nsIn K mainGlobals "_law_prime" = some (some (.ref f32)))
    (l32 : K.lookup f32 = some ⟨oc32, od32, .func (PySem.W.fnOf "_law_prime" "_law_prime" (defArgs s_law_prime) (defBody s_law_prime) (defScope s_law_prime) .none kV32 dc32 pm32 an32 cd32 ct32), sl32⟩)
    (c32 : PySem.W.codeIn K cd32 "_law_prime" = true) (k32 : PySem.W.keepIn K (.ref f32) = true)
    (a33 : PySem.W.nsIn K mainGlobals "_law_table" = some (some (.ref f33)))
    (l33 : K.lookup f33 = some ⟨oc33, od33, .func (PySem.W.fnOf "_law_table" "_law_table" (defArgs s_law_table) (defBody s_law_table) (defScope s_law_table) .none kV33 dc33 pm33 an33 cd33 ct33), sl33⟩)
    (c33 : PySem.W.codeIn K cd33 "_law_table" = true) (k33 : PySem.W.keepIn K (.ref f33) = true)
    (a34 : PySem.W.nsIn K mainGlobals "_law_factor" = some (some (.ref f34)))
    (l34 : K.lookup f34 = some ⟨oc34, od34, .func (PySem.W.fnOf "_law_factor" "_law_factor" (defArgs s_law_factor) (defBody s_law_factor) (defScope s_law_factor) .none kV34 dc34 pm34 an34 cd34 ct34), sl34⟩)
    (c34 : PySem.W.codeIn K cd34 "_law_factor" = true) (k34 : PySem.W.keepIn K (.ref f34) = true)
    (a35 : PySem.W.nsIn K mainGlobals "_law_step" = some (some (.ref f35)))
    (l35 : K.lookup f35 = some ⟨oc35, od35, .func (PySem.W.fnOf "_law_step" "_law_step" (defArgs s_law_step) (defBody s_law_step) (defScope s_law_step) .none kV35 dc35 pm35 an35 cd35 ct35), sl35⟩)
    (c35 : PySem.W.codeIn K cd35 "_law_step" = true) (k35 : PySem.W.keepIn K (.ref f35) = true)
    (a36 : PySem.W.nsIn K mainGlobals "_law_program" = some (some (.ref f36)))
    (l36 : K.lookup f36 = some ⟨oc36, od36, .func (PySem.W.fnOf "_law_program" "_law_program" (defArgs s_law_program) (defBody s_law_program) (defScope s_law_program) .none kV36 dc36 pm36 an36 cd36 ct36), sl36⟩)
    (c36 : PySem.W.codeIn K cd36 "_law_program" = true) (k36 : PySem.W.keepIn K (.ref f36) = true)
    (a37 : PySem.W.nsIn K mainGlobals "_law_made" = some (some (.ref f37)))
    (l37 : K.lookup f37 = some ⟨oc37, od37, .func (PySem.W.fnOf "_law_made" "_law_made" (defArgs s_law_made) (defBody s_law_made) (defScope s_law_made) .none kV37 dc37 pm37 an37 cd37 ct37), sl37⟩)
    (c37 : PySem.W.codeIn K cd37 "_law_made" = true) (k37 : PySem.W.keepIn K (.ref f37) = true)
    (a38 : PySem.W.nsIn K mainGlobals "_law_memory" = some (some (.ref f38)))
    (l38 : K.lookup f38 = some ⟨oc38, od38, .func (PySem.W.fnOf "_law_memory" "_law_memory" (defArgs s_law_memory) (defBody s_law_memory) (defScope s_law_memory) .none kV38 dc38 pm38 an38 cd38 ct38), sl38⟩)
    (c38 : PySem.W.codeIn K cd38 "_law_memory" = true) (k38 : PySem.W.keepIn K (.ref f38) = true)
    (a39 : PySem.W.nsIn K mainGlobals "_law_given" = some (some (.ref f39)))
    (l39 : K.lookup f39 = some ⟨oc39, od39, .func (PySem.W.fnOf "_law_given" "_law_given" (defArgs s_law_given) (defBody s_law_given) (defScope s_law_given) .none kV39 dc39 pm39 an39 cd39 ct39), sl39⟩)
    (c39 : PySem.W.codeIn K cd39 "_law_given" = true) (k39 : PySem.W.keepIn K (.ref f39) = true)
    (a40 : PySem.W.nsIn K mainGlobals "_law_other" = some (some (.ref f40)))
    (l40 : K.lookup f40 = some ⟨oc40, od40, .func (PySem.W.fnOf "_law_other" "_law_other" (defArgs s_law_other) (defBody s_law_other) (defScope s_law_other) .none kV40 dc40 pm40 an40 cd40 ct40), sl40⟩)
    (c40 : PySem.W.codeIn K cd40 "_law_other" = true) (k40 : PySem.W.keepIn K (.ref f40) = true)
    (a41 : PySem.W.nsIn K mainGlobals "_law_summed" = some (some (.ref f41)))
    (l41 : K.lookup f41 = some ⟨oc41, od41, .func (PySem.W.fnOf "_law_summed" "_law_summed" (defArgs s_law_summed) (defBody s_law_summed) (defScope s_law_summed) .none kV41 dc41 pm41 an41 cd41 ct41), sl41⟩)
    (c41 : PySem.W.codeIn K cd41 "_law_summed" = true) (k41 : PySem.W.keepIn K (.ref f41) = true)
    (a42 : PySem.W.nsIn K mainGlobals "_law_refuses_back" = some (some (.ref f42)))
    (l42 : K.lookup f42 = some ⟨oc42, od42, .func (PySem.W.fnOf "_law_refuses_back" "_law_refuses_back" (defArgs s_law_refuses_back) (defBody s_law_refuses_back) (defScope s_law_refuses_back) .none kV42 dc42 pm42 an42 cd42 ct42), sl42⟩)
    (c42 : PySem.W.codeIn K cd42 "_law_refuses_back" = true) (k42 : PySem.W.keepIn K (.ref f42) = true)
    (a43 : PySem.W.nsIn K mainGlobals "_law_parted" = some (some (.ref f43)))
    (l43 : K.lookup f43 = some ⟨oc43, od43, .func (PySem.W.fnOf "_law_parted" "_law_parted" (defArgs s_law_parted) (defBody s_law_parted) (defScope s_law_parted) .none kV43 dc43 pm43 an43 cd43 ct43), sl43⟩)
    (c43 : PySem.W.codeIn K cd43 "_law_parted" = true) (k43 : PySem.W.keepIn K (.ref f43) = true)
    (a44 : PySem.W.nsIn K mainGlobals "_law_made_of" = some (some (.ref f44)))
    (l44 : K.lookup f44 = some ⟨oc44, od44, .func (PySem.W.fnOf "_law_made_of" "_law_made_of" (defArgs s_law_made_of) (defBody s_law_made_of) (defScope s_law_made_of) .none kV44 dc44 pm44 an44 cd44 ct44), sl44⟩)
    (c44 : PySem.W.codeIn K cd44 "_law_made_of" = true) (k44 : PySem.W.keepIn K (.ref f44) = true)
    (a45 : PySem.W.nsIn K mainGlobals "_law_summed_up" = some (some (.ref f45)))
    (l45 : K.lookup f45 = some ⟨oc45, od45, .func (PySem.W.fnOf "_law_summed_up" "_law_summed_up" (defArgs s_law_summed_up) (defBody s_law_summed_up) (defScope s_law_summed_up) .none kV45 dc45 pm45 an45 cd45 ct45), sl45⟩)
    (c45 : PySem.W.codeIn K cd45 "_law_summed_up" = true) (k45 : PySem.W.keepIn K (.ref f45) = true)
    (a46 : PySem.W.nsIn K mainGlobals "_law_bounds" = some (some (.ref f46)))
    (l46 : K.lookup f46 = some ⟨oc46, od46, .func (PySem.W.fnOf "_law_bounds" "_law_bounds" (defArgs s_law_bounds) (defBody s_law_bounds) (defScope s_law_bounds) .none kV46 dc46 pm46 an46 cd46 ct46), sl46⟩)
    (c46 : PySem.W.codeIn K cd46 "_law_bounds" = true) (k46 : PySem.W.keepIn K (.ref f46) = true)
    (a47 : PySem.W.nsIn K mainGlobals "law" = some (some (.ref f47)))
    (l47 : K.lookup f47 = some ⟨oc47, od47, .func (PySem.W.fnOf "law" "law" (defArgs s_law) (defBody s_law) (defScope s_law) .none kV47 dc47 pm47 an47 cd47 ct47), sl47⟩)
    (c47 : PySem.W.codeIn K cd47 "law" = true) (k47 : PySem.W.keepIn K (.ref f47) = true)
    (a48 : PySem.W.findIn K (.ref C_Program) "__init__" = some (some (.ref f48))) (i48 : PySem.W.isFn K (.ref f48) = true)
    (l48 : K.lookup f48 = some ⟨oc48, od48, .func (PySem.W.fnOf "__init__" "Program.__init__" (defArgs s_Program___init) (defBody s_Program___init) (defScope s_Program___init) .none kV48 dc48 pm48 an48 cd48 ct48), sl48⟩)
    (c48 : PySem.W.codeIn K cd48 "Program.__init__" = true) (k48 : PySem.W.keepIn K (.ref f48) = true)
    (a49 : PySem.W.findIn K (.ref C_Program) "__len__" = some (some (.ref f49))) (i49 : PySem.W.isFn K (.ref f49) = true)
    (l49 : K.lookup f49 = some ⟨oc49, od49, .func (PySem.W.fnOf "__len__" "Program.__len__" (defArgs s_Program___len) (defBody s_Program___len) (defScope s_Program___len) .none kV49 dc49 pm49 an49 cd49 ct49), sl49⟩)
    (c49 : PySem.W.codeIn K cd49 "Program.__len__" = true) (k49 : PySem.W.keepIn K (.ref f49) = true)
    (a50 : PySem.W.findIn K (.ref C_Program) "__add__" = some (some (.ref f50))) (i50 : PySem.W.isFn K (.ref f50) = true)
    (l50 : K.lookup f50 = some ⟨oc50, od50, .func (PySem.W.fnOf "__add__" "Program.__add__" (defArgs s_Program___add) (defBody s_Program___add) (defScope s_Program___add) .none kV50 dc50 pm50 an50 cd50 ct50), sl50⟩)
    (c50 : PySem.W.codeIn K cd50 "Program.__add__" = true) (k50 : PySem.W.keepIn K (.ref f50) = true)
    (a51 : PySem.W.findIn K (.ref C_Program) "__neg__" = some (some (.ref f51))) (i51 : PySem.W.isFn K (.ref f51) = true)
    (l51 : K.lookup f51 = some ⟨oc51, od51, .func (PySem.W.fnOf "__neg__" "Program.__neg__" (defArgs s_Program___neg) (defBody s_Program___neg) (defScope s_Program___neg) .none kV51 dc51 pm51 an51 cd51 ct51), sl51⟩)
    (c51 : PySem.W.codeIn K cd51 "Program.__neg__" = true) (k51 : PySem.W.keepIn K (.ref f51) = true)
    (a52 : PySem.W.findIn K (.ref C_Program) "run" = some (some (.ref f52))) (i52 : PySem.W.isFn K (.ref f52) = true)
    (l52 : K.lookup f52 = some ⟨oc52, od52, .func (PySem.W.fnOf "run" "Program.run" (defArgs s_Program_run) (defBody s_Program_run) (defScope s_Program_run) .none kV52 dc52 pm52 an52 cd52 ct52), sl52⟩)
    (c52 : PySem.W.codeIn K cd52 "Program.run" = true) (k52 : PySem.W.keepIn K (.ref f52) = true)
    (a53 : PySem.W.findIn K (.ref C_Program) "part" = some (some (.ref f53))) (i53 : PySem.W.isFn K (.ref f53) = true)
    (l53 : K.lookup f53 = some ⟨oc53, od53, .func (PySem.W.fnOf "part" "Program.part" (defArgs s_Program_part) (defBody s_Program_part) (defScope s_Program_part) .none kV53 dc53 pm53 an53 cd53 ct53), sl53⟩)
    (c53 : PySem.W.codeIn K cd53 "Program.part" = true) (k53 : PySem.W.keepIn K (.ref f53) = true)
    (a54 : PySem.W.findIn K (.ref C_Program) "called_back" = some (some (.ref f54))) (i54 : PySem.W.isFn K (.ref f54) = true)
    (l54 : K.lookup f54 = some ⟨oc54, od54, .func (PySem.W.fnOf "called_back" "Program.called_back" (defArgs s_Program_called_back) (defBody s_Program_called_back) (defScope s_Program_called_back) .none kV54 dc54 pm54 an54 cd54 ct54), sl54⟩)
    (c54 : PySem.W.codeIn K cd54 "Program.called_back" = true) (k54 : PySem.W.keepIn K (.ref f54) = true)
    (n_Program_modulus : PySem.W.findIn K (.ref C_Program) "modulus" = some none)
    (n_Program_cells : PySem.W.findIn K (.ref C_Program) "cells" = some none)
    (n_Program_inputs : PySem.W.findIn K (.ref C_Program) "inputs" = some none)
    (n_Program_steps : PySem.W.findIn K (.ref C_Program) "steps" = some none)
    (ih_Program : PySem.W.findIn K (.ref C_Program) "__class__" = some (some (.builtin "object.__class__"))) (im_Program : PySem.W.mroIn K C_Program (.type "object") = some true) (it_Program : PySem.W.typeIn K (.ref C_Program) = some (.type "type")) (is_Program : PySem.W.subIn K (.ref C_Program) (.ref C_Program) = some true) (sf_Program : PySem.W.selfFirst K C_Program = true)
    (z_all : PySem.W.nsIn K mainGlobals "all" = some none)
    (z_any : PySem.W.nsIn K mainGlobals "any" = some none)
    (z_bool : PySem.W.nsIn K mainGlobals "bool" = some none)
    (z_enumerate : PySem.W.nsIn K mainGlobals "enumerate" = some none)
    (z_int : PySem.W.nsIn K mainGlobals "int" = some none)
    (z_isinstance : PySem.W.nsIn K mainGlobals "isinstance" = some none)
    (z_len : PySem.W.nsIn K mainGlobals "len" = some none)
    (z_list : PySem.W.nsIn K mainGlobals "list" = some none)
    (z_max : PySem.W.nsIn K mainGlobals "max" = some none)
    (z_min : PySem.W.nsIn K mainGlobals "min" = some none)
    (z_range : PySem.W.nsIn K mainGlobals "range" = some none)
    (z_str : PySem.W.nsIn K mainGlobals "str" = some none)
    (z_sum : PySem.W.nsIn K mainGlobals "sum" = some none)
    (z_tuple : PySem.W.nsIn K mainGlobals "tuple" = some none)
    (z_zip : PySem.W.nsIn K mainGlobals "zip" = some none)
    (z_gcd : PySem.W.nsIn K mainGlobals "gcd" = some (some (.builtin "math.gcd")))
    (z_isqrt : PySem.W.nsIn K mainGlobals "isqrt" = some (some (.builtin "math.isqrt")))
    (z_GREATEST_MODULUS : PySem.W.nsIn K mainGlobals "GREATEST_MODULUS" = some (some (.int 1000000000 t_GREATEST_MODULUS)))
    (z_MOST_CELLS : PySem.W.nsIn K mainGlobals "MOST_CELLS" = some (some (.int 60 t_MOST_CELLS)))
    (z_MOST_FACTORS : PySem.W.nsIn K mainGlobals "MOST_FACTORS" = some (some (.int 3 t_MOST_FACTORS)))
    (z_MOST_INPUTS : PySem.W.nsIn K mainGlobals "MOST_INPUTS" = some (some (.int 60 t_MOST_INPUTS)))
    (z_MOST_STEPS : PySem.W.nsIn K mainGlobals "MOST_STEPS" = some (some (.int 20000 t_MOST_STEPS)))
    : ∃ fd : FuncData, (∀ (s : Shared) (v : Value), BindsTo s fd ⟨[v], []⟩ [("script", v)]) ∧ ∀ base : Heap, K.In base → base.Ns mainGlobals mg → FnOk l.prog w K mg base CX0 24 fa fd ["script"] (sp_law K) := by
  have e := hfa.symm.trans (PySem.W.mg_of X G a47)
  cases e
  have F0 := fun_mk (st := s_is_below) l0 c0 k0
  have b0 := F0.binds (ps := ["value", "bound"]) fun _ _ _ _ _ _ us hl => match us, hl with | [_, _], _ => rfl
  have F1 := fun_mk (st := s_is_modulus) l1 c1 k1
  have b1 := F1.binds (ps := ["value"]) fun _ _ _ _ _ _ us hl => match us, hl with | [_], _ => rfl
  have F2 := fun_mk (st := s_are_numbers) l2 c2 k2
  have b2 := F2.binds (ps := ["values", "many", "modulus"]) fun _ _ _ _ _ _ us hl => match us, hl with | [_, _, _], _ => rfl
  have F3 := fun_mk (st := s_is_prime) l3 c3 k3
  have b3 := F3.binds (ps := ["n"]) fun _ _ _ _ _ _ us hl => match us, hl with | [_], _ => rfl
  have F4 := fun_mk (st := s_inverse_of) l4 c4 k4
  have b4 := F4.binds (ps := ["n", "modulus"]) fun _ _ _ _ _ _ us hl => match us, hl with | [_, _], _ => rfl
  have F5 := fun_mk (st := s_interpolate) l5 c5 k5
  have b5 := F5.binds (ps := ["table", "prime", "x", "y"]) fun _ _ _ _ _ _ us hl => match us, hl with | [_, _, _, _], _ => rfl
  have F6 := fun_mk (st := s_weighted) l6 c6 k6
  have b6 := F6.binds (ps := ["row", "shares"]) fun _ _ _ _ _ _ us hl => match us, hl with | [_, _], _ => rfl
  have F7 := fun_mk (st := s_shares) l7 c7 k7
  have b7 := F7.binds (ps := ["size", "prime", "x"]) fun _ _ _ _ _ _ us hl => match us, hl with | [_, _, _], _ => rfl
  have F8 := fun_mk (st := s_products_of_differences) l8 c8 k8
  have b8 := F8.binds (ps := ["size", "prime"]) fun _ _ _ _ _ _ us hl => match us, hl with | [_, _], _ => rfl
  have F9 := fun_mk (st := s_is_step) l9 c9 k9
  have b9 := F9.binds (ps := ["step", "modulus", "cells", "inputs"]) fun _ _ _ _ _ _ us hl => match us, hl with | [_, _, _, _], _ => rfl
  have F10 := fun_mk (st := s_are_factors) l10 c10 k10
  have b10 := F10.binds (ps := ["factors", "target", "cells", "inputs"]) fun _ _ _ _ _ _ us hl => match us, hl with | [_, _, _, _], _ => rfl
  have F11 := fun_mk (st := s_is_factor) l11 c11 k11
  have b11 := F11.binds (ps := ["factor", "target", "cells", "inputs"]) fun _ _ _ _ _ _ us hl => match us, hl with | [_, _, _, _], _ => rfl
  have F12 := fun_mk (st := s_are_three_cells) l12 c12 k12
  have b12 := F12.binds (ps := ["target", "a", "b", "cells"]) fun _ _ _ _ _ _ us hl => match us, hl with | [_, _, _, _], _ => rfl
  have F13 := fun_mk (st := s_is_sign) l13 c13 k13
  have b13 := F13.binds (ps := ["sign", "modulus"]) fun _ _ _ _ _ _ us hl => match us, hl with | [_, _], _ => rfl
  have F14 := fun_mk (st := s_is_table) l14 c14 k14
  have b14 := F14.binds (ps := ["table", "modulus"]) fun _ _ _ _ _ _ us hl => match us, hl with | [_, _], _ => rfl
  have F15 := fun_mk (st := s_is_row) l15 c15 k15
  have b15 := F15.binds (ps := ["row", "size", "modulus"]) fun _ _ _ _ _ _ us hl => match us, hl with | [_, _, _], _ => rfl
  have F16 := fun_mk (st := s_changes) l16 c16 k16
  have b16 := F16.binds (ps := ["step", "memory", "given", "modulus"]) fun _ _ _ _ _ _ us hl => match us, hl with | [_, _, _, _], _ => rfl
  have F17 := fun_mk (st := s_performed) l17 c17 k17
  have b17 := F17.binds (ps := ["steps", "memory", "given", "modulus"]) fun _ _ _ _ _ _ us hl => match us, hl with | [_, _, _, _], _ => rfl
  have F18 := fun_mk (st := s_product_of) l18 c18 k18
  have b18 := F18.binds (ps := ["factors", "memory", "given", "modulus"]) fun _ _ _ _ _ _ us hl => match us, hl with | [_, _, _, _], _ => rfl
  have F19 := fun_mk (st := s_inverse_step) l19 c19 k19
  have b19 := F19.binds (ps := ["step", "modulus"]) fun _ _ _ _ _ _ us hl => match us, hl with | [_, _], _ => rfl
  have F20 := fun_mk (st := s_check_sizes) l20 c20 k20
  have b20 := F20.binds (ps := ["modulus", "cells", "inputs"]) fun _ _ _ _ _ _ us hl => match us, hl with | [_, _, _], _ => rfl
  have F21 := fun_mk (st := s_check_steps) l21 c21 k21
  have b21 := F21.binds (ps := ["steps", "modulus", "cells", "inputs"]) fun _ _ _ _ _ _ us hl => match us, hl with | [_, _, _, _], _ => rfl
  have F22 := fun_mk (st := s_law_mixed) l22 c22 k22
  have b22 := F22.binds (ps := ["number", "k"]) fun _ _ _ _ _ _ us hl => match us, hl with | [_, _], _ => rfl
  have F23 := fun_mk (st := s_law_numbers) l23 c23 k23
  have b23 := F23.binds (ps := ["script"]) fun _ _ _ _ _ _ us hl => match us, hl with | [_], _ => rfl
  have F24 := fun_mk (st := s_law_draw) l24 c24 k24
  have b24 := F24.binds (ps := ["draws"]) fun _ _ _ _ _ _ us hl => match us, hl with | [_], _ => rfl
  have F25 := fun_mk (st := s_law_equal) l25 c25 k25
  have b25 := F25.binds (ps := ["actual", "due"]) fun _ _ _ _ _ _ us hl => match us, hl with | [_, _], _ => rfl
  have F26 := fun_mk (st := s_law_all_equal) l26 c26 k26
  have b26 := F26.binds (ps := ["actual", "due"]) fun _ _ _ _ _ _ us hl => match us, hl with | [_, _], _ => rfl
  have F27 := fun_mk (st := s_law_large) l27 c27 k27
  have b27 := F27.binds (ps := ["draws", "bound"]) fun _ _ _ _ _ _ us hl => match us, hl with | [_, _], _ => rfl
  have F28 := fun_mk (st := s_law_modulus) l28 c28 k28
  have b28 := F28.binds (ps := ["draws"]) fun _ _ _ _ _ _ us hl => match us, hl with | [_], _ => rfl
  have F29 := fun_mk (st := s_law_number) l29 c29 k29
  have b29 := F29.binds (ps := ["draws", "modulus"]) fun _ _ _ _ _ _ us hl => match us, hl with | [_, _], _ => rfl
  have F30 := fun_mk (st := s_law_gcd) l30 c30 k30
  have b30 := F30.binds (ps := ["one", "two"]) fun _ _ _ _ _ _ us hl => match us, hl with | [_, _], _ => rfl
  have F31 := fun_mk (st := s_law_unit) l31 c31 k31
  have b31 := F31.binds (ps := ["draws", "modulus"]) fun _ _ _ _ _ _ us hl => match us, hl with | [_, _], _ => rfl
  have F32 := fun_mk (st := s_law_prime) l32 c32 k32
  have b32 := F32.binds (ps := ["draws"]) fun _ _ _ _ _ _ us hl => match us, hl with | [_], _ => rfl
  have F33 := fun_mk (st := s_law_table) l33 c33 k33
  have b33 := F33.binds (ps := ["draws", "prime"]) fun _ _ _ _ _ _ us hl => match us, hl with | [_, _], _ => rfl
  have F34 := fun_mk (st := s_law_factor) l34 c34 k34
  have b34 := F34.binds (ps := ["draws", "target", "cells", "inputs"]) fun _ _ _ _ _ _ us hl => match us, hl with | [_, _, _, _], _ => rfl
  have F35 := fun_mk (st := s_law_step) l35 c35 k35
  have b35 := F35.binds (ps := ["draws", "modulus", "cells", "inputs", "prime"]) fun _ _ _ _ _ _ us hl => match us, hl with | [_, _, _, _, _], _ => rfl
  have F36 := fun_mk (st := s_law_program) l36 c36 k36
  have b36 := F36.binds (ps := ["draws", "most"]) fun _ _ _ _ _ _ us hl => match us, hl with | [_, _], _ => rfl
  have F37 := fun_mk (st := s_law_made) l37 c37 k37
  have b37 := F37.binds (ps := ["model"]) fun _ _ _ _ _ _ us hl => match us, hl with | [_], _ => rfl
  have F38 := fun_mk (st := s_law_memory) l38 c38 k38
  have b38 := F38.binds (ps := ["draws", "model"]) fun _ _ _ _ _ _ us hl => match us, hl with | [_, _], _ => rfl
  have F39 := fun_mk (st := s_law_given) l39 c39 k39
  have b39 := F39.binds (ps := ["draws", "model"]) fun _ _ _ _ _ _ us hl => match us, hl with | [_, _], _ => rfl
  have F40 := fun_mk (st := s_law_other) l40 c40 k40
  have b40 := F40.binds (ps := ["draws", "model"]) fun _ _ _ _ _ _ us hl => match us, hl with | [_, _], _ => rfl
  have F41 := fun_mk (st := s_law_summed) l41 c41 k41
  have b41 := F41.binds (ps := ["one", "two", "program", "second"]) fun _ _ _ _ _ _ us hl => match us, hl with | [_, _, _, _], _ => rfl
  have F42 := fun_mk (st := s_law_refuses_back) l42 c42 k42
  have b42 := F42.binds (ps := ["program", "many"]) fun _ _ _ _ _ _ us hl => match us, hl with | [_, _], _ => rfl
  have F43 := fun_mk (st := s_law_parted) l43 c43 k43
  have b43 := F43.binds (ps := ["program", "model", "many"]) fun _ _ _ _ _ _ us hl => match us, hl with | [_, _, _], _ => rfl
  have F44 := fun_mk (st := s_law_made_of) l44 c44 k44
  have b44 := F44.binds (ps := ["many"]) fun _ _ _ _ _ _ us hl => match us, hl with | [_], _ => rfl
  have F45 := fun_mk (st := s_law_summed_up) l45 c45 k45
  have b45 := F45.binds (ps := ["one", "two"]) fun _ _ _ _ _ _ us hl => match us, hl with | [_, _], _ => rfl
  have F46 := fun_mk (st := s_law_bounds) l46 c46 k46
  have b46 := F46.binds (ps := ["draws"]) fun _ _ _ _ _ _ us hl => match us, hl with | [_], _ => rfl
  have F47 := fun_mk (st := s_law) l47 c47 k47
  have b47 := F47.binds (ps := ["script"]) fun _ _ _ _ _ _ us hl => match us, hl with | [_], _ => rfl
  have F48 := fun_mk (st := s_Program___init) l48 c48 k48
  have b48 := F48.binds (ps := ["self", "modulus", "cells", "inputs", "steps"]) fun _ _ _ _ _ _ us hl => match us, hl with | [_, _, _, _, _], _ => rfl
  have F49 := fun_mk (st := s_Program___len) l49 c49 k49
  have b49 := F49.binds (ps := ["self"]) fun _ _ _ _ _ _ us hl => match us, hl with | [_], _ => rfl
  have F50 := fun_mk (st := s_Program___add) l50 c50 k50
  have b50 := F50.binds (ps := ["self", "other"]) fun _ _ _ _ _ _ us hl => match us, hl with | [_, _], _ => rfl
  have F51 := fun_mk (st := s_Program___neg) l51 c51 k51
  have b51 := F51.binds (ps := ["self"]) fun _ _ _ _ _ _ us hl => match us, hl with | [_], _ => rfl
  have F52 := fun_mk (st := s_Program_run) l52 c52 k52
  have b52 := F52.binds (ps := ["self", "memory", "given"]) fun _ _ _ _ _ _ us hl => match us, hl with | [_, _, _], _ => rfl
  have F53 := fun_mk (st := s_Program_part) l53 c53 k53
  have b53 := F53.binds (ps := ["self", "n"]) fun _ _ _ _ _ _ us hl => match us, hl with | [_, _], _ => rfl
  have F54 := fun_mk (st := s_Program_called_back) l54 c54 k54
  have b54 := F54.binds (ps := ["self", "n"]) fun _ _ _ _ _ _ us hl => match us, hl with | [_, _], _ => rfl
  exact ⟨PySem.W.fnOf "law" "law" (defArgs s_law) (defBody s_law) (defScope s_law) .none kV47 dc47 pm47 an47 cd47 ct47, fun s v => .of_eq rfl, fun base _ _ => ok_law (⟨_, _, F0, b0, PySem.W.mg_of X G a0, _, _, F1, b1, PySem.W.mg_of X G a1, _, _, F2, b2, PySem.W.mg_of X G a2, _, _, F3, b3, PySem.W.mg_of X G a3, _, _, F4, b4, PySem.W.mg_of X G a4, _, _, F5, b5, PySem.W.mg_of X G a5, _, _, F6, b6, PySem.W.mg_of X G a6, _, _, F7, b7, PySem.W.mg_of X G a7, _, _, F8, b8, PySem.W.mg_of X G a8, _, _, F9, b9, PySem.W.mg_of X G a9, _, _, F10, b10, PySem.W.mg_of X G a10, _, _, F11, b11, PySem.W.mg_of X G a11, _, _, F12, b12, PySem.W.mg_of X G a12, _, _, F13, b13, PySem.W.mg_of X G a13, _, _, F14, b14, PySem.W.mg_of X G a14, _, _, F15, b15, PySem.W.mg_of X G a15, _, _, F16, b16, PySem.W.mg_of X G a16, _, _, F17, b17, PySem.W.mg_of X G a17, _, _, F18, b18, PySem.W.mg_of X G a18, _, _, F19, b19, PySem.W.mg_of X G a19, _, _, F20, b20, PySem.W.mg_of X G a20, _, _, F21, b21, PySem.W.mg_of X G a21, _, _, F22, b22, PySem.W.mg_of X G a22, _, _, F23, b23, PySem.W.mg_of X G a23, _, _, F24, b24, PySem.W.mg_of X G a24, _, _, F25, b25, PySem.W.mg_of X G a25, _, _, F26, b26, PySem.W.mg_of X G a26, _, _, F27, b27, PySem.W.mg_of X G a27, _, _, F28, b28, PySem.W.mg_of X G a28, _, _, F29, b29, PySem.W.mg_of X G a29, _, _, F30, b30, PySem.W.mg_of X G a30, _, _, F31, b31, PySem.W.mg_of X G a31, _, _, F32, b32, PySem.W.mg_of X G a32, _, _, F33, b33, PySem.W.mg_of X G a33, _, _, F34, b34, PySem.W.mg_of X G a34, _, _, F35, b35, PySem.W.mg_of X G a35, _, _, F36, b36, PySem.W.mg_of X G a36, _, _, F37, b37, PySem.W.mg_of X G a37, _, _, F38, b38, PySem.W.mg_of X G a38, _, _, F39, b39, PySem.W.mg_of X G a39, _, _, F40, b40, PySem.W.mg_of X G a40, _, _, F41, b41, PySem.W.mg_of X G a41, _, _, F42, b42, PySem.W.mg_of X G a42, _, _, F43, b43, PySem.W.mg_of X G a43, _, _, F44, b44, PySem.W.mg_of X G a44, _, _, F45, b45, PySem.W.mg_of X G a45, _, _, F46, b46, PySem.W.mg_of X G a46, _, _, F47, b47, PySem.W.mg_of X G a47, _, _, F48, b48, _, _, F49, b49, _, _, F50, b50, _, _, F51, b51, _, _, F52, b52, _, _, F53, b53, _, _, F54, b54, C_Program, ⟨pg_Program, hd_Program, po_Program, sa_Program⟩, PySem.W.mg_of X G aC_Program, n_Program_modulus, n_Program_cells, n_Program_inputs, n_Program_steps, ⟨⟨pg_Program, hd_Program, po_Program, sa_Program⟩, ih_Program, hnE, htE, im_Program, kit_ref hd_Program it_Program is_Program is_Program⟩, sf_Program, ⟨mk_Program, a48, i48, kc_Program⟩, ⟨a49, i49, k49⟩, ⟨a50, i50, k50⟩, ⟨a51, i51, k51⟩, ⟨a52, i52, k52⟩, ⟨a53, i53, k53⟩, ⟨a54, i54, k54⟩, E_BrimfulError, PySem.W.mg_of X G aE_BrimfulError, xE_BrimfulError, kE_BrimfulError, bE_BrimfulError, tE_BrimfulError, dE_BrimfulError, ⟨h1E_BrimfulError, h2E_BrimfulError, bE_BrimfulError, dE_BrimfulError, h3E_BrimfulError, hnE, htE, h4E_BrimfulError⟩, E_BadStep, PySem.W.mg_of X G aE_BadStep, xE_BadStep, kE_BadStep, bE_BadStep, tE_BadStep, dE_BadStep, ⟨h1E_BadStep, h2E_BadStep, bE_BadStep, dE_BadStep, h3E_BadStep, hnE, htE, h4E_BadStep⟩, E_BadMemory, PySem.W.mg_of X G aE_BadMemory, xE_BadMemory, kE_BadMemory, bE_BadMemory, tE_BadMemory, dE_BadMemory, ⟨h1E_BadMemory, h2E_BadMemory, bE_BadMemory, dE_BadMemory, h3E_BadMemory, hnE, htE, h4E_BadMemory⟩, sE_BrimfulError_BrimfulError, sE_BrimfulError_BadStep, sE_BrimfulError_BadMemory, sE_BadStep_BrimfulError, sE_BadStep_BadStep, sE_BadStep_BadMemory, sE_BadMemory_BrimfulError, sE_BadMemory_BadStep, sE_BadMemory_BadMemory, PySem.W.mg_none_of X G z_all, PySem.W.mg_none_of X G z_any, PySem.W.mg_none_of X G z_bool, PySem.W.mg_none_of X G z_enumerate, PySem.W.mg_none_of X G z_int, PySem.W.mg_none_of X G z_isinstance, PySem.W.mg_none_of X G z_len, PySem.W.mg_none_of X G z_list, PySem.W.mg_none_of X G z_max, PySem.W.mg_none_of X G z_min, PySem.W.mg_none_of X G z_range, PySem.W.mg_none_of X G z_str, PySem.W.mg_none_of X G z_sum, PySem.W.mg_none_of X G z_tuple, PySem.W.mg_none_of X G z_zip, PySem.W.mg_of X G z_gcd, PySem.W.mg_of X G z_isqrt, _, PySem.W.mg_of X G z_GREATEST_MODULUS, _, PySem.W.mg_of X G z_MOST_CELLS, _, PySem.W.mg_of X G z_MOST_FACTORS, _, PySem.W.mg_of X G z_MOST_INPUTS, _, PySem.W.mg_of X G z_MOST_STEPS⟩ : Txt K mg)⟩
end
end Br
open PySem PySem.W PyProof.Rows
set_option maxRecDepth 100000 in
set_option maxHeartbeats 0 in
theorem PySem.Challenge.cw_brimful_k06_programs_are_joined_and_part_holds : PySem.Challenge.rw_brimful_k06_programs_are_joined_and_part.Holds := by
  w_on; o_law; k_head; (case hw => w_witness2)
  k_fill
  refine L2.walk_of (l := PySem.Challenge.rw_brimful_k06_programs_are_joined_and_part) (n := 63) (k := 24) (x := "script") (CX := fun _ => L2.CX0) (sp := fun w => Br.sp_law _) rfl (by decide) rfl ⟨rfl, by decide, by decide⟩ (fun w h Y => PySem.W.kIn_of Y) ?F (fun _ _ a ns hl _ hS => ⟨a, ns, rfl, hS, hl, fun _ => rfl⟩) (fun _ _ _ _ _ h => h)
  case F =>
    intro w mg fa h KX G hmg
    refine' Br.all_mk KX G hmg ?aC_Program ?pg_Program ?hd_Program ?po_Program ?sa_Program ?mk_Program ?kc_Program ?hnE ?htE ?aE_BrimfulError ?xE_BrimfulError ?kE_BrimfulError ?bE_BrimfulError ?tE_BrimfulError ?dE_BrimfulError ?h1E_BrimfulError ?h2E_BrimfulError ?h3E_BrimfulError ?h4E_BrimfulError ?aE_BadStep ?xE_BadStep ?kE_BadStep ?bE_BadStep ?tE_BadStep ?dE_BadStep ?h1E_BadStep ?h2E_BadStep ?h3E_BadStep ?h4E_BadStep ?aE_BadMemory ?xE_BadMemory ?kE_BadMemory ?bE_BadMemory ?tE_BadMemory ?dE_BadMemory ?h1E_BadMemory ?h2E_BadMemory ?h3E_BadMemory ?h4E_BadMemory ?sE_BrimfulError_BrimfulError ?sE_BrimfulError_BadStep ?sE_BrimfulError_BadMemory ?sE_BadStep_BrimfulError ?sE_BadStep_BadStep ?sE_BadStep_BadMemory ?sE_BadMemory_BrimfulError ?sE_BadMemory_BadStep ?sE_BadMemory_BadMemory ?a0 ?l0 ?c0 ?k0 ?a1 ?l1 ?c1 ?k1 ?a2 ?l2 ?c2 ?k2 ?a3 ?l3 ?c3 ?k3 ?a4 ?l4 ?c4 ?k4 ?a5 ?l5 ?c5 ?k5 ?a6 ?l6 ?c6 ?k6 ?a7 ?l7 ?c7 ?k7 ?a8 ?l8 ?c8 ?k8 ?a9 ?l9 ?c9 ?k9 ?a10 ?l10 ?c10 ?k10 ?a11 ?l11 ?c11 ?k11 ?a12 ?l12 ?c12 ?k12 ?a13 ?l13 ?c13 ?k13 ?a14 ?l14 ?c14 ?k14 ?a15 ?l15 ?c15 ?k15 ?a16 ?l16 ?c16 ?k16 ?a17 ?l17 ?c17 ?k17 ?a18 ?l18 ?c18 ?k18 ?a19 ?l19 ?c19 ?k19 ?a20 ?l20 ?c20 ?k20 ?a21 ?l21 ?c21 ?k21 ?a22 ?l22 ?c22 ?k22 ?a23 ?l23 ?c23 ?k23 ?a24 ?l24 ?c24 ?k24 ?a25 ?l25 ?c25 ?k25 ?a26 ?l26 ?c26 ?k26 ?a27 ?l27 ?c27 ?k27 ?a28 ?l28 ?c28 ?k28 ?a29 ?l29 ?c29 ?k29 ?a30 ?l30 ?c30 ?k30 ?a31 ?l31 ?c31 ?k31 ?a32 ?l32 ?c32 ?k32 ?a33 ?l33 ?c33 ?k33 ?a34 ?l34 ?c34 ?k34 ?a35 ?l35 ?c35 ?k35 ?a36 ?l36 ?c36 ?k36 ?a37 ?l37 ?c37 ?k37 ?a38 ?l38 ?c38 ?k38 ?a39 ?l39 ?c39 ?k39 ?a40 ?l40 ?c40 ?k40 ?a41 ?l41 ?c41 ?k41 ?a42 ?l42 ?c42 ?k42 ?a43 ?l43 ?c43 ?k43 ?a44 ?l44 ?c44 ?k44 ?a45 ?l45 ?c45 ?k45 ?a46 ?l46 ?c46 ?k46 ?a47 ?l47 ?c47 ?k47 ?a48 ?i48 ?l48 ?c48 ?k48 ?a49 ?i49 ?l49 ?c49 ?k49 ?a50 ?i50 ?l50 ?c50 ?k50 ?a51 ?i51 ?l51 ?c51 ?k51 ?a52 ?i52 ?l52 ?c52 ?k52 ?a53 ?i53 ?l53 ?c53 ?k53 ?a54 ?i54 ?l54 ?c54 ?k54 ?n_Program_modulus ?n_Program_cells ?n_Program_inputs ?n_Program_steps ?ih_Program ?im_Program ?it_Program ?is_Program ?sf_Program ?z_all ?z_any ?z_bool ?z_enumerate ?z_int ?z_isinstance ?z_len ?z_list ?z_max ?z_min ?z_range ?z_str ?z_sum ?z_tuple ?z_zip ?z_gcd ?z_isqrt ?z_GREATEST_MODULUS ?z_MOST_CELLS ?z_MOST_FACTORS ?z_MOST_INPUTS ?z_MOST_STEPS
    (case aC_Program => k_is)
    (case pg_Program => k_is)
    (case hd_Program => k_is)
    (case po_Program => k_is)
    (case sa_Program => k_is)
    (case mk_Program => k_is)
    (case kc_Program => k_is)
    (case hnE => k_is)
    (case htE => k_is)
    (case aE_BrimfulError => k_is)
    (case xE_BrimfulError => k_exc)
    (case kE_BrimfulError => k_is)
    (case bE_BrimfulError => k_is)
    (case tE_BrimfulError => k_is)
    (case dE_BrimfulError => k_is)
    (case h1E_BrimfulError => k_is)
    (case h2E_BrimfulError => k_is)
    (case h3E_BrimfulError => k_is)
    (case h4E_BrimfulError => k_is)
    (case aE_BadStep => k_is)
    (case xE_BadStep => k_exc)
    (case kE_BadStep => k_is)
    (case bE_BadStep => k_is)
    (case tE_BadStep => k_is)
    (case dE_BadStep => k_is)
    (case h1E_BadStep => k_is)
    (case h2E_BadStep => k_is)
    (case h3E_BadStep => k_is)
    (case h4E_BadStep => k_is)
    (case aE_BadMemory => k_is)
    (case xE_BadMemory => k_exc)
    (case kE_BadMemory => k_is)
    (case bE_BadMemory => k_is)
    (case tE_BadMemory => k_is)
    (case dE_BadMemory => k_is)
    (case h1E_BadMemory => k_is)
    (case h2E_BadMemory => k_is)
    (case h3E_BadMemory => k_is)
    (case h4E_BadMemory => k_is)
    (case sE_BrimfulError_BrimfulError => first | rfl | k_is)
    (case sE_BrimfulError_BadStep => first | rfl | k_is)
    (case sE_BrimfulError_BadMemory => first | rfl | k_is)
    (case sE_BadStep_BrimfulError => first | rfl | k_is)
    (case sE_BadStep_BadStep => first | rfl | k_is)
    (case sE_BadStep_BadMemory => first | rfl | k_is)
    (case sE_BadMemory_BrimfulError => first | rfl | k_is)
    (case sE_BadMemory_BadStep => first | rfl | k_is)
    (case sE_BadMemory_BadMemory => first | rfl | k_is)
    (case a0 => k_is)
    (case l0 => k_is)
    (case c0 => k_is)
    (case k0 => k_is)
    (case a1 => k_is)
    (case l1 => k_is)
    (case c1 => k_is)
    (case k1 => k_is)
    (case a2 => k_is)
    (case l2 => k_is)
    (case c2 => k_is)
    (case k2 => k_is)
    (case a3 => k_is)
    (case l3 => k_is)
    (case c3 => k_is)
    (case k3 => k_is)
    (case a4 => k_is)
    (case l4 => k_is)
    (case c4 => k_is)
    (case k4 => k_is)
    (case a5 => k_is)
    (case l5 => k_is)
    (case c5 => k_is)
    (case k5 => k_is)
    (case a6 => k_is)
    (case l6 => k_is)
    (case c6 => k_is)
    (case k6 => k_is)
    (case a7 => k_is)
    (case l7 => k_is)
    (case c7 => k_is)
    (case k7 => k_is)
    (case a8 => k_is)
    (case l8 => k_is)
    (case c8 => k_is)
    (case k8 => k_is)
    (case a9 => k_is)
    (case l9 => k_is)
    (case c9 => k_is)
    (case k9 => k_is)
    (case a10 => k_is)
    (case l10 => k_is)
    (case c10 => k_is)
    (case k10 => k_is)
    (case a11 => k_is)
    (case l11 => k_is)
    (case c11 => k_is)
    (case k11 => k_is)
    (case a12 => k_is)
    (case l12 => k_is)
    (case c12 => k_is)
    (case k12 => k_is)
    (case a13 => k_is)
    (case l13 => k_is)
    (case c13 => k_is)
    (case k13 => k_is)
    (case a14 => k_is)
    (case l14 => k_is)
    (case c14 => k_is)
    (case k14 => k_is)
    (case a15 => k_is)
    (case l15 => k_is)
    (case c15 => k_is)
    (case k15 => k_is)
    (case a16 => k_is)
    (case l16 => k_is)
    (case c16 => k_is)
    (case k16 => k_is)
    (case a17 => k_is)
    (case l17 => k_is)
    (case c17 => k_is)
    (case k17 => k_is)
    (case a18 => k_is)
    (case l18 => k_is)
    (case c18 => k_is)
    (case k18 => k_is)
    (case a19 => k_is)
    (case l19 => k_is)
    (case c19 => k_is)
    (case k19 => k_is)
    (case a20 => k_is)
    (case l20 => k_is)
    (case c20 => k_is)
    (case k20 => k_is)
    (case a21 => k_is)
    (case l21 => k_is)
    (case c21 => k_is)
    (case k21 => k_is)
    (case a22 => k_is)
    (case l22 => k_is)
    (case c22 => k_is)
    (case k22 => k_is)
    (case a23 => k_is)
    (case l23 => k_is)
    (case c23 => k_is)
    (case k23 => k_is)
    (case a24 => k_is)
    (case l24 => k_is)
    (case c24 => k_is)
    (case k24 => k_is)
    (case a25 => k_is)
    (case l25 => k_is)
    (case c25 => k_is)
    (case k25 => k_is)
    (case a26 => k_is)
    (case l26 => k_is)
    (case c26 => k_is)
    (case k26 => k_is)
    (case a27 => k_is)
    (case l27 => k_is)
    (case c27 => k_is)
    (case k27 => k_is)
    (case a28 => k_is)
    (case l28 => k_is)
    (case c28 => k_is)
    (case k28 => k_is)
    (case a29 => k_is)
    (case l29 => k_is)
    (case c29 => k_is)
    (case k29 => k_is)
    (case a30 => k_is)
    (case l30 => k_is)
    (case c30 => k_is)
    (case k30 => k_is)
    (case a31 => k_is)
    (case l31 => k_is)
    (case c31 => k_is)
    (case k31 => k_is)
    (case a32 => k_is)
    (case l32 => k_is)
    (case c32 => k_is)
    (case k32 => k_is)
    (case a33 => k_is)
    (case l33 => k_is)
    (case c33 => k_is)
    (case k33 => k_is)
    (case a34 => k_is)
    (case l34 => k_is)
    (case c34 => k_is)
    (case k34 => k_is)
    (case a35 => k_is)
    (case l35 => k_is)
    (case c35 => k_is)
    (case k35 => k_is)
    (case a36 => k_is)
    (case l36 => k_is)
    (case c36 => k_is)
    (case k36 => k_is)
    (case a37 => k_is)
    (case l37 => k_is)
    (case c37 => k_is)
    (case k37 => k_is)
    (case a38 => k_is)
    (case l38 => k_is)
    (case c38 => k_is)
    (case k38 => k_is)
    (case a39 => k_is)
    (case l39 => k_is)
    (case c39 => k_is)
    (case k39 => k_is)
    (case a40 => k_is)
    (case l40 => k_is)
    (case c40 => k_is)
    (case k40 => k_is)
    (case a41 => k_is)
    (case l41 => k_is)
    (case c41 => k_is)
    (case k41 => k_is)
    (case a42 => k_is)
    (case l42 => k_is)
    (case c42 => k_is)
    (case k42 => k_is)
    (case a43 => k_is)
    (case l43 => k_is)
    (case c43 => k_is)
    (case k43 => k_is)
    (case a44 => k_is)
    (case l44 => k_is)
    (case c44 => k_is)
    (case k44 => k_is)
    (case a45 => k_is)
    (case l45 => k_is)
    (case c45 => k_is)
    (case k45 => k_is)
    (case a46 => k_is)
    (case l46 => k_is)
    (case c46 => k_is)
    (case k46 => k_is)
    (case a47 => k_is)
    (case l47 => k_is)
    (case c47 => k_is)
    (case k47 => k_is)
    (case a48 => k_is)
    (case i48 => k_is)
    (case l48 => k_is)
    (case c48 => k_is)
    (case k48 => k_is)
    (case a49 => k_is)
    (case i49 => k_is)
    (case l49 => k_is)
    (case c49 => k_is)
    (case k49 => k_is)
    (case a50 => k_is)
    (case i50 => k_is)
    (case l50 => k_is)
    (case c50 => k_is)
    (case k50 => k_is)
    (case a51 => k_is)
    (case i51 => k_is)
    (case l51 => k_is)
    (case c51 => k_is)
    (case k51 => k_is)
    (case a52 => k_is)
    (case i52 => k_is)
    (case l52 => k_is)
    (case c52 => k_is)
    (case k52 => k_is)
    (case a53 => k_is)
    (case i53 => k_is)
    (case l53 => k_is)
    (case c53 => k_is)
    (case k53 => k_is)
    (case a54 => k_is)
    (case i54 => k_is)
    (case l54 => k_is)
    (case c54 => k_is)
    (case k54 => k_is)
    (case n_Program_modulus => k_is)
    (case n_Program_cells => k_is)
    (case n_Program_inputs => k_is)
    (case n_Program_steps => k_is)
    (case ih_Program => k_is)
    (case im_Program => k_is)
    (case it_Program => k_is)
    (case is_Program => k_is)
    (case sf_Program => k_is)
    (case z_all => k_is)
    (case z_any => k_is)
    (case z_bool => k_is)
    (case z_enumerate => k_is)
    (case z_int => k_is)
    (case z_isinstance => k_is)
    (case z_len => k_is)
    (case z_list => k_is)
    (case z_max => k_is)
    (case z_min => k_is)
    (case z_range => k_is)
    (case z_str => k_is)
    (case z_sum => k_is)
    (case z_tuple => k_is)
    (case z_zip => k_is)
    (case z_gcd => k_is)
    (case z_isqrt => k_is)
    (case z_GREATEST_MODULUS => k_is)
    (case z_MOST_CELLS => k_is)
    (case z_MOST_FACTORS => k_is)
    (case z_MOST_INPUTS => k_is)
    (case z_MOST_STEPS => k_is)
