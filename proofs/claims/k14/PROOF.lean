import PyProof.Rows.All
import Wide.All
import OpenK.AllK
import Wide.FinOn
import HandS.ForMost
import HandS.Gcd
import HandS.Wide
import HandS.IsInst
import HandS.Steps
import HandS.SortKw
import HandS.Style
import HandS.Star
import HandS.SetFor
import HandS.TupAny
import PyProof.SetRoads
import PyProof.Rows.SetFrom
import KE.DataMinMax
import HandS.Evl
import HandS.Walk
import HandS.ForExc
import HandS.ExcIs
import HandS.RaiseMore
import HandS.Codes
import HandS.Flt
import HandS.FStr
import KE.GoesEnum
import PyProof.Rows.MatchSeqLen
import Flt.RightSqrt
import HandS.Strs
import HandS.Property
import HandS.More
import HandS.GenList
import PyProof.GenObj
import HandS.StrMore
import HandS.TryOnly
import PySem.Challenge.RW_brimful_k14_texts_are_parsed
set_option Elab.async false
set_option linter.all false
set_option maxRecDepth 100000
set_option maxHeartbeats 4000000

namespace Br
open PySem PySem.Spec PyProof.Rows L2

/-! ### readings with names -/
def rLen (K : PySem.W.Frag) : List V → Hp → VK → Prop := fun xs H Q => ∃ p ys, xs = [.ref p] ∧ (SqL K H p ys ∨ SqT K H p ys) ∧ Q (.int ys.length) H
theorem cr_len {X : Cx} : CallR X (.builtin "len") (rLen X.K) := call_len_seq
def rInt1 : List V → Hp → VK → Prop := fun xs H Q => (∃ i, xs = [.int i] ∧ Q (.int i) H) ∨ ∃ k, xs = [.bl k] ∧ Q (.int (if k then 1 else 0)) H
theorem cr_int1 {X : Cx} : CallR X (.type "int") rInt1 := call_int1
def rMin2 : List V → Hp → VK → Prop := fun xs H Q => ∃ i j, xs = [.int i, .int j] ∧ Q (.int (if j < i then j else i)) H
theorem cr_min2 {X : Cx} (hc : X.calm = true) : CallR X (.builtin "min") rMin2 := call_min2 hc
def rMax2 : List V → Hp → VK → Prop := fun xs H Q => ∃ i j, xs = [.int i, .int j] ∧ Q (.int (if j > i then j else i)) H
theorem cr_max2 {X : Cx} (hc : X.calm = true) : CallR X (.builtin "max") rMax2 := call_max2 hc
def rListOf (K : PySem.W.Frag) : List V → Hp → VK → Prop := fun xs H Q => ∃ p ys, xs = [.ref p] ∧ (SqL K H p ys ∨ SqT K H p ys) ∧ ∀ l, H l = none → Q (.ref l) (upd H l (.lst ys))
theorem cr_list_of {X : Cx} : CallR X (.type "list") (rListOf X.K) := call_list_of
def rTupOf (K : PySem.W.Frag) : List V → Hp → VK → Prop := fun xs H Q => ∃ p ys, xs = [.ref p] ∧ ((SqL K H p ys ∧ ∀ l, H l = none → Q (.ref l) (upd H l (.tup ys))) ∨ (SqT K H p ys ∧ Q (.ref p) H))
theorem cr_tup_of {X : Cx} : CallR X (.type "tuple") (rTupOf X.K) := call_tuple_of
def cr_isqrt_r : List V → Hp → VK → Prop := fun vs H Q => ∃ i : Int, vs = [.int i] ∧ 0 ≤ i ∧ i < 2 ^ 64 ∧ Q (.int ((Float64.isqrt i.toNat : Nat) : Int)) H
/-! ### steps of a reading -/
section
variable {σ : L2.St} {H : Hp} {D : Ends} {Q : VK} {QT : Bool → Hp → Prop} {QA : List V → Hp → Prop} {K : PySem.W.Frag}
theorem x_seq {a u : TS} (h : a ⟨u D, D.rt, D.bk, D.ct⟩ σ H) : tSeq a u D σ H := h
theorem x_cut {a u : TS} (M : L2.St → Hp → Prop) (h : a ⟨M, D.rt, D.bk, D.ct⟩ σ H) (k : ∀ σ' H', M σ' H' → u D σ' H') : Evl.tCut a u D σ H := ⟨M, h, k⟩
theorem x_next (h : D.nx σ H) : tNext D σ H := h
theorem x_set {te : TE} {i : Nat} (h : te σ H fun x H1 => D.nx (σ.set i (some x)) H1) : tAsg te (gName i) D σ H := h
theorem x_asg {te : TE} {g : TG} (h : te σ H fun x H1 => g x σ H1 D.nx) : tAsg te g D σ H := h
/-- what a field's reading asks of the object -/
def FldR (K : PySem.W.Frag) (f : Str) (x : V) (H : Hp) (Q : VK) : Prop := ∃ a C dx fs v, x = .ref a ∧ H a = some (.ins C dx fs) ∧ Cls K C ∧ NoAttr K C f ∧ fs.lookup f = some v ∧ Q v H
theorem x_fld {ta : TE} {f : Str} (h : ta σ H fun x H1 => FldR K f x H1 Q) : tFld K ta f σ H Q := h
theorem x_fldR {a C dx : Addr} {fs : List (Str × V)} {f : Str} {v : V} (h : H a = some (.ins C dx fs)) (c : Cls K C) (n : NoAttr K C f) (l : fs.lookup f = some v) (q : Q v H) : FldR K f (.ref a) H Q := ⟨a, C, dx, fs, v, rfl, h, c, n, l, q⟩
/-- what storing a field asks -/
def FldS (K : PySem.W.Frag) (f : Str) (y x : V) (H : Hp) (R : Hp → Prop) : Prop := ∃ a C dx fs, x = .ref a ∧ H a = some (.ins C dx fs) ∧ Cls K C ∧ NoAttr K C f ∧ fs.length < 1000 ∧ R (upd H a (.ins C dx (putF f y fs)))
theorem x_fldS {ta tv : TE} {f : Str} (h : tv σ H fun y H1 => ta σ H1 fun x H2 => FldS K f y x H2 fun H3 => D.nx σ H3) : sFld K ta tv f D σ H := h
theorem x_gName {i : Nat} {v : V} {R : L2.St → Hp → Prop} (h : R (σ.set i (some v)) H) : gName i v σ H R := h
theorem x_par {i j : Nat} {ta tb : TE} (h : ta σ H fun x H1 => tb σ H1 fun y H2 => D.nx ((σ.set i (some x)).set j (some y)) H2) : tPar i j (tCons ta (tCons tb tNil)) D σ H :=
  (congrArg (fun (f : (V → Hp → Prop)) => ta σ H f) (funext fun x => funext fun H1 => congrArg (fun (f : (V → Hp → Prop)) => tb σ H1 f) (funext fun y => funext fun H2 => propext
    ⟨fun h => ⟨x, y, rfl, h⟩, fun ⟨v, w, e, h⟩ => by cases e; exact h⟩))).mp h
theorem x_ret {te : TE} (h : te σ H D.rt) : tRet te D σ H := h
theorem x_retN (h : D.rt .non H) : tRetN D σ H := h
theorem x_drop {te : TE} (h : te σ H fun _ H1 => D.nx σ H1) : tDrop te D σ H := h
theorem x_if {c : TT} {t u : TS} (h : c σ H fun b H1 => if b = true then t D σ H1 else u D σ H1) : tIfS c t u D σ H := h
theorem x_brk (h : D.bk σ H) : tBreak D σ H := h
theorem x_cont (h : D.ct σ H) : tCont D σ H := h
theorem x_var {i : Nat} {v : V} (h : σ[i]? = some (some v)) (q : Q v H) : tVar i σ H Q := ⟨v, h, q⟩
theorem x_c {v : V} (q : Q v H) : tC v σ H Q := q
theorem x_op {r : R2} {ta tb : TE} (h : ta σ H fun x H1 => tb σ H1 fun y H2 => r x y H2 Q) : tOp r ta tb σ H Q := h
theorem x_un {r : V → Hp → VK → Prop} {ta : TE} (h : ta σ H fun x H1 => r x H1 Q) : tUn r ta σ H Q := h
theorem x_I0 {g : Int → Int → V} {i j : Int} (q : Q (g i j) H) : rI0 g (.int i) (.int j) H Q := ⟨i, j, rfl, rfl, q⟩
theorem x_I {C : Int → Int → Prop} {g : Int → Int → V} {i j : Int} (c : C i j) (q : Q (g i j) H) : rI C g (.int i) (.int j) H Q := ⟨i, j, rfl, rfl, c, q⟩
theorem x_U {g : Int → V} {i : Int} (q : Q (g i) H) : rU g (.int i) H Q := ⟨i, rfl, q⟩
theorem v_int {i j : Int} : decide (V.int i = V.int j) = decide (i = j) := decide_eq_decide.mpr ⟨fun h => V.int.inj h, fun h => h ▸ rfl⟩
theorem x_EqI {i j : Int} (q : Q (.bl (decide (i = j))) H) : rEq (.int i) (.int j) H Q := ⟨rfl, v_int ▸ q⟩
theorem x_NeI {i j : Int} (q : Q (.bl (!decide (i = j))) H) : rNe (.int i) (.int j) H Q := ⟨rfl, by rw [v_int]; exact q⟩
theorem x_EqB {i j : Bool} (q : Q (.bl (decide (i = j))) H) : rEq (.bl i) (.bl j) H Q := ⟨rfl, by
  have e : decide (V.bl i = V.bl j) = decide (i = j) := decide_eq_decide.mpr ⟨fun h => V.bl.inj h, fun h => h ▸ rfl⟩
  rw [e]; exact q⟩
theorem x_Eq {x y : V} (s : scal x y = true) (q : Q (.bl (decide (x = y))) H) : rEq x y H Q := ⟨s, q⟩
theorem x_Ne {x y : V} (s : scal x y = true) (q : Q (.bl (!decide (x = y))) H) : rNe x y H Q := ⟨s, q⟩
theorem x_isN {x : V} (q : Q (.bl (decide (x = .non))) H) : (fun (x y : V) (H : Hp) (Q : VK) => y = V.non ∧ Q (.bl (decide (x = .non))) H) x .non H Q := ⟨rfl, q⟩
theorem x_ifE {t : TT} {ta tb : TE} (h : t σ H fun c H1 => if c = true then ta σ H1 Q else tb σ H1 Q) : tIf t ta tb σ H Q := h
theorem x_test {te : TE} {b : Unit} (h : te σ H fun x H1 => ∃ k, x = .bl k ∧ QT k H1) : tTest te σ H QT := h
theorem x_tB {te : TE} (h : te σ H fun x H1 => ∃ k, x = .bl k ∧ QT k H1) : tB te σ H QT := h
theorem x_bl {k : Bool} (q : QT k H) : ∃ k', V.bl k = .bl k' ∧ QT k' H := ⟨k, rfl, q⟩
theorem x_and {t u : TT} (h : t σ H fun c H1 => if c = true then u σ H1 QT else QT false H1) : tAnd t u σ H QT := h
theorem x_or {t u : TT} (h : t σ H fun c H1 => if c = true then QT true H1 else u σ H1 QT) : tOr t u σ H QT := h
theorem x_not {t : TT} (h : t σ H fun c H1 => QT (!c) H1) : tNot t σ H QT := h
theorem x_andV {ta tb : TE} (h : ta σ H fun x H1 => ∃ c, x = .bl c ∧ if c = true then tb σ H1 Q else Q (.bl false) H1) : tAndV ta tb σ H Q := h
theorem x_orV {ta tb : TE} (h : ta σ H fun x H1 => ∃ c, x = .bl c ∧ if c = true then Q (.bl true) H1 else tb σ H1 Q) : tOrV ta tb σ H Q := h
theorem x_notV {ta : TE} (h : ta σ H fun x H1 => ∃ c, x = .bl c ∧ Q (.bl (!c)) H1) : tNotV ta σ H Q := h
theorem x_blP {k : Bool} {P : Bool → Prop} (q : P k) : ∃ k', V.bl k = .bl k' ∧ P k' := ⟨k, rfl, q⟩
theorem x_nil (q : QA [] H) : tNil σ H QA := q
theorem x_cons {ta : TE} {tr : TA} (h : ta σ H fun x H1 => tr σ H1 fun xs H2 => QA (x :: xs) H2) : tCons ta tr σ H QA := h
theorem x_call {sp : Sp} {dvs : List V} {E : XK} {t : TA} (h : t σ H fun vs H1 => sp (vs ++ dvs) H1 Q E) : tCall sp dvs E t σ H Q := h
theorem x_CB {r : List V → Hp → VK → Prop} {t : TA} (h : t σ H fun vs H1 => r vs H1 Q) : tCB r t σ H Q := h
theorem x_BM {T : String} {r : V → List V → Hp → VK → Prop} {to : TE} {t : TA} (h : to σ H fun x H1 => tyV K T x H1 ∧ t σ H1 fun xs H2 => r x xs H2 Q) : tBM K T r to t σ H Q := h
theorem x_tup {t : TA} (h : t σ H fun xs H1 => xs.length ≤ sizeLine ∧ ∀ p, H1 p = none → Q (.ref p) (upd H1 p (.tup xs))) : tTup t σ H Q := h
theorem x_lst {t : TA} (h : t σ H fun xs H1 => xs.length ≤ sizeLine ∧ ∀ p, H1 p = none → Q (.ref p) (upd H1 p (.lst xs))) : tLst t σ H Q := h
theorem x_chain {r r' : R2} {ta tb tc : TE} (h : ta σ H fun x H1 => tb σ H1 fun y H2 => r x y H2 fun z H3 => ∃ k, z = .bl k ∧
  (if k = true then tc σ H3 fun w' H4 => r' y w' H4 Q else Q (.bl false) H3)) : tChain r r' ta tb tc σ H Q := h
theorem x_isi {x : V} {T S : String} {b : Bool} (ty : TyX K H x (.type S)) (h : kitB S T = some b) (q : Q (.bl b) H) : rIsi K [x, .ty T] H Q := ⟨x, .ty T, .type S, .type T, b, rfl, .ty T, ty, kit_ty h, q⟩
theorem x_iN {x : V} (q : Q (.bl (decide (x = .non))) H) : rIsN x .non H Q := ⟨rfl, q⟩
theorem x_nN {x : V} (q : Q (.bl (!decide (x = .non))) H) : rNotN x .non H Q := ⟨rfl, q⟩
theorem x_int1 {i : Int} (q : Q (.int i) H) : rInt1 [.int i] H Q := .inl ⟨i, rfl, q⟩
theorem x_min2 {i j : Int} (q : Q (.int (if j < i then j else i)) H) : rMin2 [.int i, .int j] H Q := ⟨i, j, rfl, q⟩
theorem x_max2 {i j : Int} (q : Q (.int (if j > i then j else i)) H) : rMax2 [.int i, .int j] H Q := ⟨i, j, rfl, q⟩
theorem x_listL {p : Addr} {xs : List V} (hp : SqL K H p xs) (q : ∀ l, H l = none → Q (.ref l) (upd H l (.lst xs))) : rListOf K [.ref p] H Q := ⟨p, xs, rfl, .inl hp, q⟩
theorem x_tupL {p : Addr} {xs : List V} (hp : SqL K H p xs) (q : ∀ l, H l = none → Q (.ref l) (upd H l (.tup xs))) : rTupOf K [.ref p] H Q := ⟨p, xs, rfl, .inl ⟨hp, q⟩⟩
theorem x_ite {p : Prop} [Decidable p] {A B : Prop} (h1 : p → A) (h2 : ¬ p → B) : if decide p = true then A else B := by
  by_cases h : p
  · rw [if_pos (decide_eq_true h)]; exact h1 h
  · rw [if_neg (by rw [decide_eq_false h]; exact Bool.false_ne_true)]; exact h2 h
theorem x_iteN {p : Prop} [Decidable p] {A B : Prop} (h1 : ¬ p → A) (h2 : p → B) : if (!decide p) = true then A else B := by
  by_cases h : p
  · rw [if_neg (by rw [decide_eq_true h]; decide)]; exact h2 h
  · rw [if_pos (by rw [decide_eq_false h]; rfl)]; exact h1 h
theorem x_iteB {b : Bool} {A B : Prop} (h1 : b = true → A) (h2 : b = false → B) : if b = true then A else B := by
  cases b with
  | true => rw [if_pos rfl]; exact h1 rfl
  | false => rw [if_neg Bool.false_ne_true]; exact h2 rfl
theorem x_iteBN {b : Bool} {A B : Prop} (h1 : b = false → A) (h2 : b = true → B) : if (!b) = true then A else B := by
  cases b with
  | true => rw [if_neg (by decide)]; exact h2 rfl
  | false => rw [if_pos (by decide)]; exact h1 rfl
theorem x_subL {i : Int} {x : V} {xs : List V} {p : Addr} {k : Nat} {q : Hp → Prop} (hp : H p = some (.lst xs)) (hk : ixN xs.length i = some k) (h : q (upd H p (.lst (xs.set k x)))) : rSetL (.ref p) (.int i) x H q :=
  ⟨p, xs, i, k, rfl, rfl, hp, hk, h⟩
theorem x_gSub {to ti : TE} {t : TSet} {v : V} {q : L2.St → Hp → Prop} (h : to σ H fun o H1 => ti σ H1 fun i H2 => t o i v H2 fun H3 => q σ H3) : gSub to ti t v σ H q := h
theorem x_for {wi : TI} {g : TG} {tb : TS} (h : wi σ H fun J H1 => ∃ W : Nat → Nat → L2.St → Hp → Prop, (∃ m, W 0 m σ H1) ∧ ∀ i m σ H, W i m σ H →
  (J.stop i H ∧ D.nx σ H) ∨ (J.go i H ∧ ∃ N : L2.St → Hp → Prop, (∀ σ' H', N σ' H' → ∃ m', m' < m ∧ W (i + 1) m' σ' H') ∧ ∀ x H', J.yld i H x H' → g x σ H' fun σ2 H2 => tb { D with nx := N, ct := N, bk := D.nx } σ2 H2)) : tFor wi g tb D σ H := h
theorem x_ixL {xs : List V} {i : Int} {v : V} {p : Addr} (hp : SqL K H p xs) (hi : atI xs i = some v) (q : Q v H) : rIxL K (.ref p) (.int i) H Q := ⟨p, xs, i, v, rfl, rfl, hp, hi, q⟩
theorem x_ixT {xs : List V} {i : Int} {v : V} {p : Addr} (hp : SqT K H p xs) (hi : atI xs i = some v) (q : Q v H) : rIxT K (.ref p) (.int i) H Q := ⟨p, xs, i, v, rfl, rfl, hp, hi, q⟩
/-- over a range from nought, of at most so many turns; the target a name -/
theorem x_forR1 {ta : TE} {j : Nat} {tb : TS} (n : Int) (P : Nat → L2.St → Hp → Prop) (hn : ∀ R : V → Hp → Prop, R (.int n) H → ta σ H R) (h1 : -(2 ^ 62) ≤ n) (h2 : n < 2 ^ 62) (h0 : P 0 σ H)
    (hs : ∀ (i : Nat) σ' H', (i : Int) < n → P i σ' H' → tb ⟨P (i + 1), D.rt, D.nx, P (i + 1)⟩ (σ'.set j (some (.int (i : Int)))) H') (hd : ∀ σ' H', P n.toNat σ' H' → D.nx σ' H') : tFor (iRng1 (tCons ta tNil)) (gName j) tb D σ H := by
  refine hn _ ⟨n, rfl, h1, h2, ?_⟩
  refine for_range (lo := 0) P h0 (fun i σ' H' hi p => ?_) hd
  have e : (0 : Int) + (i : Int) = (i : Int) := Int.zero_add _
  rw [e]
  exact hs i σ' H' (by omega) p
theorem x_forR2 {ta tc : TE} {j : Nat} {tb : TS} (lo n : Int) (P : Nat → L2.St → Hp → Prop) (hn : ∀ R : V → Hp → Prop, R (.int lo) H → ta σ H R) (hn2 : ∀ R : V → Hp → Prop, R (.int n) H → tc σ H R) (h1 : -(2 ^ 62) ≤ lo) (h2 : lo < 2 ^ 62) (h3 : -(2 ^ 62) ≤ n) (h4 : n < 2 ^ 62) (h0 : P 0 σ H)
    (hs : ∀ (i : Nat) σ' H', lo + (i : Int) < n → P i σ' H' → tb ⟨P (i + 1), D.rt, D.nx, P (i + 1)⟩ (σ'.set j (some (.int (lo + (i : Int))))) H') (hd : ∀ σ' H', P (n - lo).toNat σ' H' → D.nx σ' H') : tFor (iRng2 (tCons ta (tCons tc tNil))) (gName j) tb D σ H := by
  refine hn _ (hn2 _ ⟨lo, n, rfl, ⟨h1, h2, h3, h4⟩, ?_⟩)
  refine for_range (lo := lo) P h0 (fun i σ' H' hi p => ?_) hd
  exact hs i σ' H' (by omega) p
theorem rgC_up {i j c : Int} (hc : 0 < c) (hc2 : c < 1000000) (ha : 0 ≤ i) (ha' : i < 2 ^ 60) (hb : 0 ≤ j) (hb' : j < 2 ^ 60) : RgC i j c ((if i < j then (j - i - 1) / c + 1 else 0 : Int)).toNat := by
  have hd : 0 ≤ (j - i - 1) / c ∨ ¬ i < j := by
    by_cases h : i < j
    · exact .inl (Int.ediv_nonneg (by omega) (by omega))
    · exact .inr h
  have hd2 : i < j → (j - i - 1) / c * c ≤ j - i - 1 := fun _ => Int.ediv_mul_le _ (by omega)
  have hd3 : i < j → (j - i - 1) / c ≤ j - i - 1 := fun h => by
    have h0 : 0 ≤ (j - i - 1) / c := Int.ediv_nonneg (by omega) (by omega)
    have := hd2 h
    have h1 : (j - i - 1) / c * 1 ≤ (j - i - 1) / c * c := Int.mul_le_mul_of_nonneg_left (by omega) h0
    omega
  refine ⟨by omega, by omega, ?_, ?_⟩
  · unfold Builtin.Range.small Builtin.Range.rangeSize
    simp only [Builtin.Range.rangeFitsLong, Bool.and_eq_true, Bool.or_eq_true, decide_eq_true_eq, beq_iff_eq, show (c > 0) from hc, if_true]
    split
    · rename_i h
      have := hd3 h
      have h0 : 0 ≤ (j - i - 1) / c := Int.ediv_nonneg (by omega) (by omega)
      have := hd2 h
      generalize (j - i - 1) / c = q at *
      have e : (q + 1) * c = q * c + c := by rw [Int.add_mul, Int.one_mul]
      have e2 : (q + 1 - 1) * c = q * c := by rw [Int.add_sub_cancel]
      refine ⟨?_, ?_⟩ <;> (try rw [e]) <;> (try rw [e2]) <;> omega
    · omega
  · unfold Builtin.Range.rangeSize
    rw [if_pos hc]
    split
    · rcases hd with h | h
      · omega
      · omega
    · rfl
theorem x_forR3 {ta tc te : TE} {j : Nat} {tb : TS} (lo n c : Int) (P : Nat → L2.St → Hp → Prop) (hn : ∀ R : V → Hp → Prop, R (.int lo) H → ta σ H R) (hn2 : ∀ R : V → Hp → Prop, R (.int n) H → tc σ H R) (hn3 : ∀ R : V → Hp → Prop, R (.int c) H → te σ H R) (hc : 0 < c) (hc2 : c < 1000000) (h1 : 0 ≤ lo) (h2 : lo < 2 ^ 60) (h3 : 0 ≤ n) (h4 : n < 2 ^ 60) (h0 : P 0 σ H)
    (hs : ∀ (i : Nat) σ' H', lo + (i : Int) * c < n → P i σ' H' → tb ⟨P (i + 1), D.rt, D.nx, P (i + 1)⟩ (σ'.set j (some (.int (lo + (i : Int) * c)))) H') (hd : ∀ (i : Nat) σ' H', n ≤ lo + (i : Int) * c → P i σ' H' → D.nx σ' H') : tFor (iRng3 (tCons ta (tCons tc (tCons te tNil)))) (gName j) tb D σ H := by
  refine hn _ (hn2 _ (hn3 _ ⟨lo, n, c, _, rfl, rgC_up hc hc2 h1 h2 h3 h4, ?_⟩))
  refine for_rangeC (lo := lo) P h0 (fun i σ' H' hi p => hs i σ' H' ?_ p) (fun σ' H' p => hd _ σ' H' ?_ p)
  · split at hi
    · have hq : (i : Int) ≤ (n - lo - 1) / c := by omega
      have h5 : (n - lo - 1) / c * c ≤ n - lo - 1 := Int.ediv_mul_le _ (by omega)
      have h6 : (i : Int) * c ≤ (n - lo - 1) / c * c := Int.mul_le_mul_of_nonneg_right hq (by omega)
      omega
    · omega
  · split
    · have h5 : n - lo - 1 < ((n - lo - 1) / c + 1) * c := Int.lt_ediv_add_one_mul_self _ hc
      have h0 : 0 ≤ (n - lo - 1) / c := Int.ediv_nonneg (by omega) (by omega)
      rw [show ((((n - lo - 1) / c + 1).toNat : Nat) : Int) = (n - lo - 1) / c + 1 by omega]
      omega
    · have : (((0 : Int).toNat : Nat) : Int) * c = 0 := by simp
      omega
theorem isq_spec {i : Int} (h0 : 0 ≤ i) : ∃ r : Int, ((Float64.isqrt i.toNat : Nat) : Int) = r ∧ 0 ≤ r ∧ r * r ≤ i ∧ i < (r + 1) * (r + 1) := by
  refine ⟨_, rfl, Int.natCast_nonneg _, ?_, ?_⟩
  · have := (PySem.Float64.isqrt_spec i.toNat).1
    have e : ((Float64.isqrt i.toNat * Float64.isqrt i.toNat : Nat) : Int) ≤ (i.toNat : Int) := Int.ofNat_le.mpr this
    rw [Int.natCast_mul] at e
    omega
  · have := (PySem.Float64.isqrt_spec i.toNat).2
    have e : (i.toNat : Int) < (((Float64.isqrt i.toNat + 1) * (Float64.isqrt i.toNat + 1) : Nat) : Int) := Int.ofNat_lt.mpr this
    rw [Int.natCast_mul, Int.natCast_add] at e
    have e2 : ((1 : Nat) : Int) = 1 := rfl
    rw [e2] at e
    omega
theorem x_isqrt0 {i r : Int} (h0 : 0 ≤ i) (h1 : i < 2 ^ 64) (e : ((Float64.isqrt i.toNat : Nat) : Int) = r) (q : Q (.int r) H) : cr_isqrt_r [.int i] H Q := ⟨i, rfl, h0, h1, by rw [e]; exact q⟩
theorem x_forL {ta : TE} {g : TG} {tb : TS} {p : Addr} (xs : List V) (P : Nat → L2.St → Hp → Prop) (hn : ∀ R : V → Hp → Prop, R (.ref p) H → ta σ H R) (hp : SqL K H p xs) (h0 : P 0 σ H) (hl : ∀ i σ' H', i ≤ xs.length → P i σ' H' → SqL K H' p xs)
    (hs : ∀ i x σ' H', xs[i]? = some x → P i σ' H' → g x σ' H' fun σ2 H2 => tb ⟨P (i + 1), D.rt, D.nx, P (i + 1)⟩ σ2 H2) (hd : ∀ σ' H', P xs.length σ' H' → D.nx σ' H') : tFor (iList K ta) g tb D σ H :=
  hn _ ⟨p, rfl, ⟨xs, hp⟩, for_list (xs := xs) P h0 hl hs hd⟩
theorem x_app {p : Addr} {xs : List V} {y : V} (hp : H p = some (.lst xs)) (hl : xs.length < 1000000) (q : Q .non (upd H p (.lst (xs ++ [y])))) : rAppend (.ref p) [y] H Q :=
  ⟨p, xs, y, rfl, rfl, hp, Nat.lt_of_lt_of_le hl (by decide), q⟩
theorem x_tyL {p : Addr} {xs : List V} {R : Prop} (hp : H p = some (.lst xs)) (h : R) : tyV K "list" (.ref p) H ∧ R := ⟨.inl ⟨rfl, _, .inl (.inl hp)⟩, h⟩
theorem x_len {p : Addr} {xs : List V} (hp : SqL K H p xs) (q : Q (.int (xs.length : Int)) H) : rLen K [.ref p] H Q := ⟨p, xs, rfl, .inl hp, q⟩
theorem x_lenT {p : Addr} {xs : List V} (hp : SqT K H p xs) (q : Q (.int (xs.length : Int)) H) : rLen K [.ref p] H Q := ⟨p, xs, rfl, .inr hp, q⟩
theorem x_cat {p q : Addr} {xs ys : List V} (hp : H p = some (.lst xs)) (hq : H q = some (.lst ys)) (hl : xs.length + ys.length ≤ 1000000) (k : ∀ r, H r = none → Q (.ref r) (upd H r (.lst (xs ++ ys)))) : rCat (.ref p) (.ref q) H Q :=
  ⟨p, q, xs, ys, rfl, rfl, hp, hq, Nat.le_trans hl (by decide), k⟩
/-- while: a word by a measure -/
theorem x_while {c : TT} {tb : TS} (W : Nat → L2.St → Hp → Prop) (m0 : Nat) (h0 : W m0 σ H)
    (hs : ∀ m σ' H', W m σ' H' → ∃ b : Bool, (∀ R : Bool → Hp → Prop, R b H' → c σ' H' R) ∧ (b = true → tb ⟨fun σ2 H2 => ∃ m', m' < m ∧ W m' σ2 H2, D.rt, D.nx, fun σ2 H2 => ∃ m', m' < m ∧ W m' σ2 H2⟩ σ' H') ∧ (b = false → D.nx σ' H')) : tWhile c tb D σ H :=
  ⟨W, ⟨m0, h0⟩, fun m σ' H' w => by
    obtain ⟨b, h, h1, h2⟩ := hs m σ' H' w
    refine h _ ?_
    cases b with
    | true => exact iteT ⟨_, fun _ _ z => z, h1 rfl⟩
    | false => exact iteF (h2 rfl)⟩
theorem x_lcR1 {ta : TE} {j : Nat} {te : TE} {vs : List Nat} (n : Int) (P : Addr → Nat → Hp → Prop) (hn : ∀ R : V → Hp → Prop, R (.int n) H → ta σ H R) (h1 : -(2 ^ 62) ≤ n) (h2 : n < 2 ^ 62) (h0 : ∀ p, H p = none → P p 0 (upd H p (.lst [])))
    (hw : ∀ x, wipe ((wipe σ vs).set j (some x)) vs = wipe σ vs)
    (hs : ∀ p (i : Nat) H', H p = none → (i : Int) < n → P p i H' → te ((wipe σ vs).set j (some (.int (i : Int)))) H' fun y H4 => ∃ acc, H4 p = some (.lst acc) ∧ acc.length < sizeLine ∧ P p (i + 1) (upd H4 p (.lst (acc ++ [y]))))
    (hd : ∀ p H', H p = none → P p n.toNat H' → Q (.ref p) H') : tLc (iRng1 (tCons ta tNil)) (gName j) tYes te vs σ H Q := by
  refine hn _ ⟨n, rfl, h1, h2, fun p hp => ?_⟩
  refine lc_range (lo := 0) (Qd := fun H' => Q (.ref p) H') (P p) (h0 p hp) (fun i H' hi q => ?_) fun H' q => hd p H' hp q
  have e : (0 : Int) + (i : Int) = (i : Int) := Int.zero_add _
  rw [e]
  refine ⟨hw _, ?_⟩
  unfold tYes
  exact iteT (hs p i H' hp (by omega) q)
theorem x_lcL {ta : TE} {j : Nat} {te : TE} {vs : List Nat} {a : Addr} (xs : List V) (P : Addr → Nat → Hp → Prop) (hn : ∀ R : V → Hp → Prop, R (.ref a) H → ta σ H R) (ha : SqL K H a xs) (h0 : ∀ p, H p = none → P p 0 (upd H p (.lst [])))
    (hl : ∀ p i H', H p = none → i ≤ xs.length → P p i H' → SqL K H' a xs) (hw : ∀ x, wipe ((wipe σ vs).set j (some x)) vs = wipe σ vs)
    (hs : ∀ p (i : Nat) x H', H p = none → xs[i]? = some x → P p i H' → te ((wipe σ vs).set j (some x)) H' fun y H4 => ∃ acc, H4 p = some (.lst acc) ∧ acc.length < sizeLine ∧ P p (i + 1) (upd H4 p (.lst (acc ++ [y]))))
    (hd : ∀ p H', H p = none → P p xs.length H' → Q (.ref p) H') : tLc (iList K ta) (gName j) tYes te vs σ H Q := by
  refine hn _ ⟨a, rfl, ⟨xs, ha⟩, fun p hp => ?_⟩
  refine lc_list (xs := xs) (Qd := fun H' => Q (.ref p) H') (P p) (h0 p hp) (fun i H' hi q => hl p i H' hp hi q) (fun i x H' hi q => ?_) fun H' q => hd p H' hp q
  refine ⟨hw _, ?_⟩
  unfold tYes
  exact iteT (hs p i x H' hp hi q)
end
theorem x_gTup2 {K : PySem.W.Frag} {σ : L2.St} {H : Hp} {p : Addr} {x y : V} {i j : Nat} {R : L2.St → Hp → Prop} (hp : SqT K H p [x, y]) (h : R ((σ.set i (some x)).set j (some y)) H) : gTup K 2 (gCons (gName i) (gCons (gName j) gNil)) (.ref p) σ H R :=
  ⟨p, [x, y], rfl, hp, rfl, x, [y], rfl, y, [], rfl, rfl, h⟩
theorem sq_of {K : PySem.W.Frag} {H : Hp} {a : Addr} {xs : List V} (h : H a = some (.lst xs)) : SqL K H a xs := .inl (.inl h)
theorem st_of {K : PySem.W.Frag} {H : Hp} {a : Addr} {xs : List V} (h : H a = some (.tup xs)) : SqT K H a xs := .inl (.inl h)
theorem mul_r {i j : Int} (h1 : -(2 ^ 64) < j) (h2 : j < 2 ^ 64) : CMul i j := .inr ⟨h1, h2⟩
theorem mul_l {i j : Int} (h1 : -(2 ^ 64) < i) (h2 : i < 2 ^ 64) : CMul i j := .inl ⟨h1, h2⟩
theorem cr_isqrt {X : Cx} : CallR X (.builtin "math.isqrt") cr_isqrt_r := by
  intro pins s σ H vs us Q I r h
  obtain ⟨i, rfl, h0, h1, q⟩ := h
  cases r with
  | cons r1 rr =>
    cases rr
    obtain ⟨t, rfl⟩ := r1
    exact PySem.W.mg_isqrt h0 h1 ⟨.int _, H, I.tok _, ⟨_, rfl⟩, q⟩
/-- all but what stands at d is as it was -/
def Keep (d : Addr) (H H' : Hp) : Prop := ∀ b o, H b = some o → b ≠ d → H' b = some o
theorem Keep.refl (d : Addr) (H : Hp) : Keep d H H := fun _ _ h _ => h
theorem Keep.trans {d : Addr} {H H1 H2 : Hp} (a : Keep d H H1) (b : Keep d H1 H2) : Keep d H H2 := fun c o h n => b c o (a c o h n) n
theorem seqT {K : PySem.W.Frag} {H H' : Hp} {a : Addr} {xs : List V} (e : Same H H') (h : SqT K H a xs) : SqT K H' a xs := by
  rcases h with (h | ⟨o, h⟩) | h
  · exact .inl (.inl (e _ _ h))
  · exact .inl (.inr ⟨o, e _ _ h⟩)
  · exact .inr h
theorem sfree {H H' : Hp} (e : Same H H') {p : Addr} (h : H' p = none) : H p = none := e.free h
theorem sput {H H' : Hp} {p : Addr} {o : HO} (s : Same H H') (h : H p = none) : Same H (upd H' p o) := fun b x e => by
  rw [upd_ne (ne_of_none e h)]
  exact s b x e
theorem Same.tr {H H1 H2 : Hp} (a : Same H H1) (b : Same H1 H2) : Same H H2 := fun c o h => b c o (a c o h)
theorem Same.keep {d : Addr} {H H' : Hp} (a : Same H H') : Keep d H H' := fun c o h _ => a c o h
theorem same_upd {H : Hp} {p : Addr} {o : HO} (h : H p = none) : Same H (upd H p o) := fun b x e => by
  rw [upd_ne (ne_of_none e h)]
  exact e
theorem keep_upd {H : Hp} {p : Addr} {o : HO} : Keep p H (upd H p o) := fun b x e n => by
  rw [upd_ne n]
  exact e
/-- what is new may change -/
theorem Same.put {H H' : Hp} {p : Addr} {o : HO} (s : Same H H') (h : H p = none) : Same H (upd H' p o) := fun b x e => by
  rw [upd_ne (ne_of_none e h)]
  exact s b x e
theorem Keep.put {d : Addr} {H H' : Hp} {p : Addr} {o : HO} (s : Keep d H H') (h : H p = none) : Keep d H (upd H' p o) := fun b x e n => by
  rw [upd_ne (ne_of_none e h)]
  exact s b x e n
theorem Keep.seq {K : PySem.W.Frag} {d : Addr} {H H' : Hp} {a : Addr} {xs : List V} (e : Keep d H H') (n : a ≠ d) (h : SqL K H a xs) : SqL K H' a xs := by
  rcases h with (h | ⟨o, h⟩) | h
  · exact .inl (.inl (e _ _ h n))
  · exact .inl (.inr ⟨o, e _ _ h n⟩)
  · exact .inr h
/-- ints within bounds -/
def Rg (lo hi : Int) (ns : List Int) : Prop := ∀ z, z ∈ ns → lo ≤ z ∧ z < hi
theorem Rg.nil {lo hi : Int} : Rg lo hi [] := fun _ h => absurd h (by simp)
theorem Rg.app {lo hi : Int} {xs ys : List Int} (a : Rg lo hi xs) (b : Rg lo hi ys) : Rg lo hi (xs ++ ys) := fun z h => (List.mem_append.mp h).elim (a z) (b z)
theorem Rg.one {lo hi x : Int} (h1 : lo ≤ x) (h2 : x < hi) : Rg lo hi [x] := fun z h => by
  have e : z = x := by simpa using h
  subst e
  exact ⟨h1, h2⟩
theorem Rg.snoc {lo hi x : Int} {xs : List Int} (a : Rg lo hi xs) (h1 : lo ≤ x) (h2 : x < hi) : Rg lo hi (xs ++ [x]) := a.app (.one h1 h2)
theorem Rg.get {lo hi x : Int} {xs : List Int} {i : Nat} (a : Rg lo hi xs) (h : xs[i]? = some x) : lo ≤ x ∧ x < hi := a x (List.mem_of_getElem? h)
theorem map_get {ns : List Int} {i : Nat} {y : V} (h : (ns.map V.int)[i]? = some y) : ∃ z, ns[i]? = some z ∧ y = .int z := by
  rw [List.getElem?_map] at h
  cases e : ns[i]? with
  | none => rw [e] at h; cases h
  | some z => rw [e] at h; exact ⟨z, rfl, (Option.some.inj h).symm⟩
theorem gcd_step {a b : Int} : Int.gcd b (a % b) = Int.gcd a b := by
  rw [Int.emod_def, Int.gcd_sub_mul_left_right, Int.gcd_comm]
theorem half_step {a b : Int} (hb : 0 < b) (h : b < a) : b * (a % b) * 2 ≤ a * b := by
  have h1 := Int.emod_lt_of_pos a hb
  have h0 := Int.emod_nonneg a (show b ≠ 0 by omega)
  have h2 : b * (a / b) + a % b = a := Int.mul_ediv_add_emod a b
  have h3 : 1 ≤ a / b := (Int.le_ediv_iff_mul_le hb).mpr (by omega)
  have h4 : b * 1 ≤ b * (a / b) := Int.mul_le_mul_of_nonneg_left h3 (by omega)
  have h5 : a % b * 2 ≤ a := by omega
  have h6 : a % b * 2 * b ≤ a * b := Int.mul_le_mul_of_nonneg_right h5 (by omega)
  have e : b * (a % b) * 2 = a % b * 2 * b := by
    rw [Int.mul_comm b, Int.mul_assoc, Int.mul_assoc, Int.mul_comm b 2]
  omega
/-- an item of a written list -/
theorem at_lt {xs : List V} {i : Int} (h0 : 0 ≤ i) (h1 : i < (xs.length : Int)) : ∃ v, atI xs i = some v ∧ v ∈ xs := by
  obtain ⟨j, rfl⟩ : ∃ j : Nat, i = (j : Int) := ⟨i.toNat, by omega⟩
  have hj : j < xs.length := by omega
  exact ⟨xs[j], atI_nat (List.getElem?_eq_getElem hj), List.getElem_mem hj⟩
theorem map_getR {as : List Addr} {i : Nat} {v : V} (h : (as.map V.ref)[i]? = some v) : ∃ b, as[i]? = some b ∧ v = .ref b := by
  rw [List.getElem?_map] at h
  cases e : as[i]? with
  | none => rw [e] at h; cases h
  | some b => rw [e] at h; exact ⟨b, rfl, (Option.some.inj h).symm⟩
theorem kput {d : Addr} {H H' : Hp} {p : Addr} {o : HO} (s : Keep d H H') (h : H p = none) : Keep d H (upd H' p o) := s.put h
theorem snoc_at {α : Type} {xs : List α} {y z : α} {i j : Nat} (hl : xs.length = i) (h : (xs ++ [y])[j]? = some z) : (j < i ∧ xs[j]? = some z) ∨ (j = i ∧ z = y) := by
  by_cases hj : j < xs.length
  · rw [List.getElem?_append_left hj] at h
    exact .inl ⟨by omega, h⟩
  · have hlt := (List.getElem?_eq_some_iff.mp h).1
    rw [List.length_append] at hlt
    have e : j = xs.length := by simp at hlt; omega
    subst e
    rw [List.getElem?_append_right (Nat.le_refl _), Nat.sub_self] at h
    exact .inr ⟨hl, (Option.some.inj h).symm⟩
theorem lt_line {n : Nat} (h : n < 1000000) : n < sizeLine := Nat.lt_of_lt_of_le h (by decide)
/-- what is fresh may change -/
theorem same_keep {H H1 H2 : Hp} {l : Addr} (hl : H l = none) (s : Same H H1) (k : Keep l H1 H2) : Same H H2 := fun b o e => k b o (s b o e) (ne_of_none e hl)
theorem ixN_nat {n i : Nat} (h : i < n) : ixN n (i : Int) = some i := by
  unfold ixN
  grind
theorem cast_lt {x : Int} {c : Nat} (h0 : 0 ≤ x) (h1 : x < c) : ∃ t : Nat, x = (t : Int) ∧ t < c := ⟨x.toNat, by omega, by omega⟩
section
variable {σ : L2.St} {H : Hp} {Q : VK} {R : Option Int → Hp → Prop}
theorem x_sl2 {r : V → Option Int → Option Int → Hp → VK → Prop} {te : TE} {tl th : TO} (h : te σ H fun x H1 => tl σ H1 fun l H2 => th σ H2 fun u H3 => r x l u H3 Q) : tSl r te tl th σ H Q := h
theorem x_part0 (h : R none H) : tNoPart σ H R := h
theorem x_part1 {te : TE} (h : te σ H fun x H1 => ∃ i, x = .int i ∧ R (some i) H1) : tPart te σ H R := h
theorem x_cutL {K : PySem.W.Frag} {p : Addr} {xs : List V} {lo hi : Option Int} (hp : SqL K H p xs) (q : ∀ r, H r = none → Q (.ref r) (upd H r (.lst (cutV xs lo hi)))) : rSlL K (.ref p) lo hi H Q := ⟨p, xs, rfl, hp, q⟩
end
end Br

/-! ### zip of a list and a tuple -/
namespace Br
open PySem PySem.Spec PyProof.Rows L2
def ItzM (K : PySem.W.Frag) (a b : Addr) : It where
  go := fun i H => ∃ (xs ys : List V), SqL K H a xs ∧ SqT K H b ys ∧ i < xs.length ∧ i < ys.length
  yld := fun i H v H' => ∃ (p : Addr) (x y : V), v = .ref p ∧ H p = none ∧ H' = upd H p (.tup [x, y]) ∧ (∀ xs, SqL K H a xs → xs[i]? = some x) ∧ (∀ ys, SqT K H b ys → ys[i]? = some y)
  stop := fun i H => ∃ (xs ys : List V), SqL K H a xs ∧ SqT K H b ys ∧ i ≤ xs.length ∧ i ≤ ys.length ∧ (i = xs.length ∨ i = ys.length)
def MixSt (a b z p q i1 i2 : Addr) (i : Nat) (h : Heap) : Prop :=
  IsZip h z p q .none ∧ IsTupOf2 h p (.ref i1) (.ref i2) ∧ (∃ u v, IsTupOf2 h q u v) ∧ h.IsListIter i1 a i ∧ h.IsTupleIter i2 b i
theorem MixSt.sizes {a b z p q i1 i2 : Addr} {i : Nat} {h : Heap} (m : MixSt a b z p q i1 i2 i h) : z < h.objs.size ∧ p < h.objs.size ∧ q < h.objs.size ∧ i1 < h.objs.size ∧ i2 < h.objs.size := by
  obtain ⟨e1, e2, ⟨_, _, e3⟩, ⟨_, e4, _⟩, ⟨_, e5, _⟩⟩ := m
  exact ⟨Heap.lt_size e1, Heap.lt_size e2, Heap.lt_size e3, Heap.lt_size e4, Heap.lt_size e5⟩
theorem in5 {c z p q i1 i2 : Addr} (h : c ∈ [z, p, q, i1, i2]) : c = z ∨ c = p ∨ c = q ∨ c = i1 ∨ c = i2 := by simpa using h
theorem turn_mix {P : Program} {w : World} {K : PySem.W.Frag} {elts : List Expr} {kk : Nat} {tpos : Pos} {a b z p q i1 i2 : Addr} (S : ZipSep2 z p q i1 i2 [i1, a] [i2, b]) :
    Turn P w K (.Tuple elts kk tpos) (ItzM K a b) [z, p, q, i1, i2] z (MixSt a b z p q i1 i2) := by
  have ha : a ≠ i1 ∧ b ≠ i2 ∨ True := .inr trivial
  refine ⟨by simp, ?obj, ?keep, ?item, ?done, ?self⟩
  case obj =>
    intro i h st c hc
    obtain ⟨e1, e2, ⟨_, _, e3⟩, ⟨o4, e4, _, d4⟩, ⟨o5, e5, _, d5⟩⟩ := st
    rcases in5 hc with rfl | rfl | rfl | rfl | rfl
    · exact ⟨_, e1, fun _ z => nomatch z⟩
    · exact ⟨_, e2, fun _ z => nomatch z⟩
    · exact ⟨_, e3, fun _ z => nomatch z⟩
    · exact ⟨_, e4, fun _ z => by rw [d4] at z; cases z⟩
    · exact ⟨_, e5, fun _ z => by rw [d5] at z; cases z⟩
  case keep =>
    intro i h h' st k
    obtain ⟨e1, e2, ⟨u, v, e3⟩, e4, e5⟩ := st
    exact ⟨k _ (by simp) _ e1, k _ (by simp) _ e2, ⟨u, v, k _ (by simp) _ e3⟩, e4.at fun o => k _ (by simp) o, e5.at fun o => k _ (by simp) o⟩
  case item =>
    intro X hP hw hK hc i pins s σ H E I hf st hg
    subst hP hw hK
    have sz := st.sizes
    obtain ⟨e1, e2, ⟨u, v, e3⟩, e4, e5⟩ := st
    obtain ⟨xs, ys, hx, hy, lx, ly⟩ := hg
    obtain ⟨us, rx, p1, _⟩ := I.list hx
    obtain ⟨ws, ry, p2, _⟩ := I.tuple hy
    have nx := rx.length
    have ny := ry.length
    have hd : X.A.in1.handled = none := I.ok.hd hc
    have na : a ≠ i1 := fun e => by
      obtain ⟨o, eo, co, _⟩ := e4
      obtain ⟨o', _, eo', co', _⟩ := p1
      rw [e, eo] at eo'
      cases eo'
      rw [co] at co'
      simp at co'
    have nb : b ≠ i2 := fun e => by
      obtain ⟨o, eo, co, _⟩ := e5
      obtain ⟨o', eo', co', _⟩ := p2
      rw [e, eo] at eo'
      cases eo'
      rw [co] at co'
      simp at co'
    refine wpAny_pyNext_zipD2_item S (Draws.list hd i1 a na us.toArray) (Draws.tuple hd i2 b nb ws.toArray) e1 e2 e3 ⟨e4, p1.isList⟩ ⟨e5, p2⟩ (by simp; omega) (by simp; omega) ?_
    intro x1 x2 h1 tk q1 q2 z1 t1 s1 s2 nw hs hk
    refine ⟨_, rfl, wpAny_letOwnedTupleGo_zip (s := { s with heap := h1, toks := tk }) z1 fun h2 z2 sb => ?_⟩
    obtain ⟨x, gx⟩ : ∃ x, xs[i]? = some x := ⟨_, List.getElem?_eq_getElem lx⟩
    obtain ⟨y, gy⟩ : ∃ y, ys[i]? = some y := ⟨_, List.getElem?_eq_getElem ly⟩
    obtain ⟨ux, gux, rux⟩ := rx.get gx
    obtain ⟨uy, guy, ruy⟩ := ry.get gy
    have ex : x1 = ux := by
      rw [List.getElem?_toArray, gux] at q1
      exact (Option.some.inj q1).symm
    have ey : x2 = uy := by
      rw [List.getElem?_toArray, guy] at q2
      exact (Option.some.inj q2).symm
    subst ex ey
    have ne : ∀ {c : Addr}, c < s.heap.objs.size → s.heap.objs.size ≠ c := fun h => Nat.ne_of_gt h
    have new2 : h2.get? s.heap.objs.size = some { cls := .type "tuple", data := .seq #[x1, x2] } := (sb.2 _ (ne sz.1)).trans nw
    have kp : ∀ c o, c ∉ [z, p, q, i1, i2] → s.heap.get? c = some o → h2.get? c = some o := fun c o hc e => by
      have m : ∀ d, d ∈ [z, p, q, i1, i2] → c ≠ d := fun d hd e => hc (e ▸ hd)
      exact (sb.2 c (m z (by simp))).trans (hk c o (m z (by simp)) (m q (by simp)) (m i1 (by simp)) (m i2 (by simp)) e)
    have ok : ObjOk X.prog X.w (upd H s.heap.objs.size (.tup [x, y])) h2 s.heap.objs.size (.tup [x, y]) :=
      ⟨(show 2 ≤ sizeLine by decide), [x1, x2], .cons rux (.cons ruy .nil), ⟨_, new2, rfl, 0, rfl⟩⟩
    have J := I.turnedNew (t' := tk) kp hf (Nat.le_refl _) ok
    refine ⟨.ref s.heap.objs.size, _, J, rfl, ⟨_, x, y, rfl, I.hok.fresh (Nat.le_refl _), rfl, fun l hl => by rw [I.list_inj hl hx]; exact gx, fun l hl => by rw [I.tuple_inj hl hy]; exact gy⟩, ?_, fun c hcm => ?_⟩
    · refine ⟨z2, (sb.2 _ S.TIz).trans (hk _ _ S.TIz S.TITO S.TIi1 S.TIi2 e2), ⟨_, _, (sb.2 _ S.TOz).trans t1⟩, s1.1.at fun o e => (sb.2 _ S.zi1.symm).trans e, s2.1.at fun o e => (sb.2 _ S.zi2.symm).trans e⟩
    · rw [upd_ne]
      · exact (hf c hcm).1
      · rcases in5 hcm with rfl | rfl | rfl | rfl | rfl
        · exact (ne sz.1).symm
        · exact (ne sz.2.1).symm
        · exact (ne sz.2.2.1).symm
        · exact (ne sz.2.2.2.1).symm
        · exact (ne sz.2.2.2.2).symm
  case done =>
    intro X hP hw hK hc i pins s σ H E I hf st hg
    subst hP hw hK
    obtain ⟨e1, e2, ⟨u, v, e3⟩, e4, e5⟩ := st
    obtain ⟨xs, ys, hx, hy, lx, ly, hend⟩ := hg
    obtain ⟨us, rx, p1, _⟩ := I.list hx
    obtain ⟨ws, ry, p2, _⟩ := I.tuple hy
    have nx := rx.length
    have ny := ry.length
    have hd : X.A.in1.handled = none := I.ok.hd hc
    have na : a ≠ i1 := fun e => by
      obtain ⟨o, eo, co, _⟩ := e4
      obtain ⟨o', _, eo', co', _⟩ := p1
      rw [e, eo] at eo'
      cases eo'
      rw [co] at co'
      simp at co'
    have nb : b ≠ i2 := fun e => by
      obtain ⟨o, eo, co, _⟩ := e5
      obtain ⟨o', eo', co', _⟩ := p2
      rw [e, eo] at eo'
      cases eo'
      rw [co] at co'
      simp at co'
    refine wpAny_pyNext_zipD2_end S (Draws.list hd i1 a na us.toArray) (Draws.tuple hd i2 b nb ws.toArray) e1 e2 e3 ⟨e4, p1.isList⟩ ⟨e5, p2⟩ (by simp; omega) (by simp; omega) (by simp; omega) ?_
    intro h1 tk hk
    exact ⟨rfl, I.turnedL (t' := tk) (ch := [z, p, q, i1, i2]) (fun c o hc e => by
      have m : ∀ d, d ∈ [z, p, q, i1, i2] → c ≠ d := fun d hd e => hc (e ▸ hd)
      exact hk c o (m z (by simp)) (m q (by simp)) (m i1 (by simp)) (m i2 (by simp)) e) hf⟩
  case self => exact fun A i s Q E st h => wpAny_pyIter_zip st.1 h
def iZipM (K : PySem.W.Frag) (ta : TA) : TI := fun σ H R => ta σ H fun vs H1 => ∃ a b xs ys, vs = [.ref a, .ref b] ∧ SqL K H1 a xs ∧ SqT K H1 b ys ∧ R (ItzM K a b) H1
theorem pi_zipM {X : Cx} {e e2 : Expr} {ta : TA} {p pos tpos : Pos} {elts : List Expr} {kk : Nat} (hg : Gl X "zip") (hm : X.mg "zip" = none) (ha : PA X [e, e2] ta)
    (hs : starEach [e, e2] X.env = (false, eval e X.env) :: starEach [e2] X.env := by rfl) (hpl : (backTo pos (starEach [e2] X.env)).any (·.1) = false := by rfl) :
    PI X (.Tuple elts kk tpos) (.Call (.Name "zip" p) [e, e2] [] pos) (iZipM X.K ta) := by
  refine ⟨fun pins s σ H R I h => Call_ (ld_blt I hg hm PyProof.Rows.boot_zip (PyProof.Rows.callWith_type1 (thn (ha.run pos pins s σ H _ I h) ?_) hs hpl))⟩
  rintro us s1 ⟨vs, H1, I1, r1, a, b, xs, ys, rfl, hx, hy, go⟩
  obtain ⟨u1, u2, rfl, ra, rb⟩ : ∃ u1 u2, us = [u1, u2] ∧ RelV (.ref a) u1 ∧ RelV (.ref b) u2 := by
    cases r1 with
    | cons r rr =>
      cases rr with
      | cons r' rr =>
        cases rr
        exact ⟨_, _, rfl, r, r'⟩
  cases (show u1 = Value.ref a from ra)
  cases (show u2 = Value.ref b from rb)
  obtain ⟨us, rx, p1, _⟩ := I1.list hx
  obtain ⟨ws, ry, p2, _⟩ := I1.tuple hy
  have la : a < s1.heap.objs.size := p1.lt
  have lb : b < s1.heap.objs.size := by
    obtain ⟨_, e, _⟩ := id p2
    exact Heap.lt_size e
  refine zip_begins2 (begins_list a us.toArray) (begins_tuple b ws.toArray) p1.isList p2 ?_
  intro h1 hz hp hq g1 g2 hsz hk
  refine wpAny_pyIter_zip hz ?_
  have sep := zip_sep2 (N := s1.heap.objs.size) (fp1 := [a]) (fp2 := [b]) (fun c hc => by
    have e : c = a := by simpa using hc
    rw [e]; exact la) (fun c hc => by
    have e : c = b := by simpa using hc
    rw [e]; exact lb)
  refine ⟨_, _, _, _, H1, rfl, I1.kept (t' := s1.toks) hk, turn_mix sep, ⟨hz, hp, ⟨_, _, hq⟩, ⟨_, g1, rfl, rfl⟩, ⟨_, g2, rfl, rfl⟩⟩, fun c hc => ?_, go⟩
  have hle : s1.heap.objs.size ≤ c := by
    rcases in5 hc with e | e | e | e | e
    · rw [e]; exact Nat.le_add_right _ _
    · rw [e]; exact Nat.le_add_right _ _
    · rw [e]; exact Nat.le_add_right _ _
    · rw [e]; exact Nat.le_refl _
    · rw [e]; exact Nat.le_add_right _ _
  exact I1.fpOk hle (I1.hok.fresh hle)
theorem walk_mix {K : PySem.W.Frag} {a b : Addr} {xs ys : List V} {n : Nat} (h1 : xs.length = n) (h2 : ys.length = n) : Walk (ItzM K a b) n (fun H => SqL K H a xs ∧ SqT K H b ys) (YPair (fun i => xs[i]?) (fun i => ys[i]?)) := by
  refine ⟨fun i H hi q => ⟨xs, ys, q.1, q.2, by omega, by omega⟩, fun H q => ⟨xs, ys, q.1, q.2, by omega, by omega, by omega⟩, fun i H v H' hi q y => ?_⟩
  obtain ⟨p, x, y, e1, e2, e3, e4, e5⟩ := y
  exact ⟨p, x, y, e1, e2, e3, e4 _ q.1, e5 _ q.2⟩
/-- a for, a comprehension by a walk -/
theorem x_forI {wi : TI} {g : TG} {tb : TS} {D : Ends} {σ : L2.St} {H : Hp} {J : It} {n : Nat} {G : Hp → Prop} {Y : Nat → Hp → V → Hp → Prop} (hw : ∀ R : It → Hp → Prop, R J H → wi σ H R) (w : Walk J n G Y) (P : Nat → L2.St → Hp → Prop) (h0 : P 0 σ H)
    (hG : ∀ i σ' H', i ≤ n → P i σ' H' → G H') (hs : ∀ i x σ' H' H2, i < n → P i σ' H' → Y i H' x H2 → g x σ' H2 fun σ2 H3 => tb ⟨P (i + 1), D.rt, D.nx, P (i + 1)⟩ σ2 H3) (hd : ∀ σ' H', P n σ' H' → D.nx σ' H') : tFor wi g tb D σ H :=
  hw _ (for_it w P h0 hG hs hd)
theorem x_lcI {wi : TI} {g : TG} {te : TE} {vs : List Nat} {Q : VK} {σ : L2.St} {H : Hp} {J : It} {n : Nat} {G : Hp → Prop} {Y : Nat → Hp → V → Hp → Prop} (hw : ∀ R : It → Hp → Prop, R J H → wi σ H R) (w : Walk J n G Y) (P : Addr → Nat → Hp → Prop) (h0 : ∀ p, H p = none → P p 0 (upd H p (.lst [])))
    (hG : ∀ p i H', i ≤ n → H p = none → P p i H' → G H')
    (hs : ∀ p i x H' H2, i < n → H p = none → P p i H' → Y i H' x H2 → g x (wipe σ vs) H2 fun σ2 H3 => wipe σ2 vs = wipe σ vs ∧ te σ2 H3 fun y H4 => ∃ acc, H4 p = some (.lst acc) ∧ acc.length < sizeLine ∧ P p (i + 1) (upd H4 p (.lst (acc ++ [y]))))
    (hg : ∀ x σ' H' (R R' : L2.St → Hp → Prop), (∀ σ2 H2, R σ2 H2 → R' σ2 H2) → g x σ' H' R → g x σ' H' R') (hd : ∀ p H', H p = none → P p n H' → Q (.ref p) H') : tLc wi g tYes te vs σ H Q := by
  refine hw _ fun p hp => ?_
  refine lc_it w (Qd := fun H' => Q (.ref p) H') (P p) (h0 p hp) (fun i H' hi q => hG p i H' hi hp q) (fun i x H' H2 hi q y => ?_) fun H' q => hd p H' hp q
  refine hg _ _ _ _ _ (fun σ2 H3 z => ?_) (hs p i x H' H2 hi hp q y)
  refine ⟨z.1, ?_⟩
  unfold tYes
  exact iteT z.2
/-- a comprehension of truths, item by item -/
theorem x_lcB {wi : TI} {te : TE} {vs : List Nat} {j : Nat} {Q : VK} {σ : L2.St} {H : Hp} {J : It} {G : Hp → Prop} {xs : List V} (f : Nat → Bool) (hw : ∀ R : It → Hp → Prop, R J H → wi σ H R) (w : Walk J xs.length G (YAt xs)) (hn : xs.length ≤ 100000)
    (hG : ∀ H', Same H H' → G H') (hv : ∀ x, wipe ((wipe σ vs).set j (some x)) vs = wipe σ vs)
    (he : ∀ (i : Nat) x H', Same H H' → xs[i]? = some x → ∀ R : VK, (∀ H2, Same H' H2 → R (.bl (f i)) H2) → te ((wipe σ vs).set j (some x)) H' R)
    (hd : ∀ p H', H p = none → Same H H' → H' p = some (.lst (((List.range xs.length).map f).map V.bl)) → Q (.ref p) H') : tLc wi (gName j) tYes te vs σ H Q := by
  refine x_lcI hw w (fun p i H' => Same H H' ∧ H' p = some (.lst (((List.range i).map f).map V.bl))) (fun p hp => ⟨same_upd hp, upd_same⟩) (fun p i H' _ _ z => hG H' z.1) ?_ (fun x σ' H' R R' hr h => hr _ _ h) fun p H' hp z => hd p H' hp z.1 z.2
  rintro p i x H' H2 hi hp ⟨hs, hl⟩ ⟨rfl, hx⟩
  refine x_gName ⟨hv x, he i x _ hs hx _ fun H3 hs3 => ?_⟩
  refine ⟨_, hs3 _ _ hl, lt_line (by simp; omega), sput (hs.trans hs3) hp, ?_⟩
  rw [upd_same, List.range_succ, List.map_append, List.map_append]
  rfl
theorem x_all {K : PySem.W.Frag} {Q : VK} {H : Hp} {p : Addr} {bs : List Bool} (h : H p = some (.lst (bs.map V.bl))) (q : Q (.bl (bs.all id)) H) : rAll K [.ref p] H Q := ⟨p, bs, rfl, sq_of h, q⟩
theorem x_any {K : PySem.W.Frag} {Q : VK} {H : Hp} {p : Addr} {bs : List Bool} (h : H p = some (.lst (bs.map V.bl))) (q : Q (.bl (bs.any id)) H) : rAny K [.ref p] H Q := ⟨p, bs, rfl, sq_of h, q⟩
theorem all_range {n : Nat} {f : Nat → Bool} (h : ∀ i, i < n → f i = true) : ((List.range n).map f).all id = true := by
  rw [List.all_eq_true]
  intro b hb
  obtain ⟨i, hi, rfl⟩ := List.mem_map.mp hb
  exact h i (List.mem_range.mp hi)
/-- the same, over something made on the way -/
theorem x_lcB0 {wi : TI} {te : TE} {vs : List Nat} {j : Nat} {Q : VK} {σ : L2.St} {H : Hp} {xs : List V} (f : Nat → Bool) (hn : xs.length ≤ 100000)
    (hw : ∀ R : It → Hp → Prop, (∀ (J : It) (G : Hp → Prop) (H1 : Hp), Same H H1 → Walk J xs.length G (YAt xs) → (∀ H', Same H1 H' → G H') → R J H1) → wi σ H R) (hv : ∀ x, wipe ((wipe σ vs).set j (some x)) vs = wipe σ vs)
    (he : ∀ (i : Nat) x H', Same H H' → xs[i]? = some x → ∀ R : VK, (∀ H2, Same H' H2 → R (.bl (f i)) H2) → te ((wipe σ vs).set j (some x)) H' R)
    (hd : ∀ p H', Same H H' → H' p = some (.lst (((List.range xs.length).map f).map V.bl)) → Q (.ref p) H') : tLc wi (gName j) tYes te vs σ H Q := by
  refine hw _ fun J G H1 s1 w hG => ?_
  exact x_lcB (wi := fun _ H R => R J H) (H := H1) f (fun R r => r) w hn hG hv (fun i x H' s hx R hR => he i x H' (s1.trans s) hx R hR) fun p H' _ s h => hd p H' (s1.trans s) h
end Br

/-! ### match over tuples that begin with a word -/
namespace Br
open PySem PySem.Spec PyProof.Rows L2
/-- the values that captures bind, by name -/
def capB : List Pattern → List Value → List (Str × Value)
  | .MatchAs none (some x) _ :: ps, u :: us => (x, u) :: capB ps us
  | .MatchAs none none _ :: ps, _ :: us => capB ps us
  | _, _ => []
def isCaps : List Pattern → Bool
  | [] => true
  | .MatchAs none _ _ :: ps => isCaps ps
  | _ => false
/-- the slots behind captures -/
def bindS : List (Option Nat) → List V → L2.St → L2.St
  | some i :: is, v :: vs, σ => bindS is vs (σ.set i (some v))
  | none :: is, _ :: vs, σ => bindS is vs σ
  | _, _, σ => σ
theorem each_caps {M : Model} {A : Around} {E : Value → Shared → Prop} {s : Shared} {env : Env} : ∀ {ps : List Pattern} {us : List Value} {Q : Option (List (Str × Value)) → Shared → Prop}, isCaps ps = true → us.length = ps.length → Q (some (capB ps us)) s → wpAny M A (matchEach ps env us) Q E s
  | [], us, Q, _, _, h => by
    have e : capB [] us = [] := by cases us <;> rfl
    rw [e] at h
    exact wpAny_matchEach_nil h
  | .MatchAs none nm pos :: ps, u :: us, Q, hc, hl, h => by
    refine wpAny_matchEach_cons (wpAny_matchPattern_Capture (each_caps (ps := ps) hc (by simpa using hl) ?_)) rfl
    cases nm with
    | none => exact h
    | some x => exact h
  | .MatchAs none nm pos :: ps, [], Q, hc, hl, h => by simp at hl
  | .MatchAs (some p) nm pos :: ps, us, Q, hc, hl, h => by simp [isCaps] at hc
  | .MatchValue .. :: ps, us, Q, hc, hl, h => by simp [isCaps] at hc
  | .MatchSingleton .. :: ps, us, Q, hc, hl, h => by simp [isCaps] at hc
  | .MatchSequence .. :: ps, us, Q, hc, hl, h => by simp [isCaps] at hc
  | .MatchMapping .. :: ps, us, Q, hc, hl, h => by simp [isCaps] at hc
  | .MatchClass .. :: ps, us, Q, hc, hl, h => by simp [isCaps] at hc
  | .MatchStar .. :: ps, us, Q, hc, hl, h => by simp [isCaps] at hc
  | .MatchOr .. :: ps, us, Q, hc, hl, h => by simp [isCaps] at hc
/-- captures into slots -/
structure PCap (X : Cx) (ps : List Pattern) (is : List (Option Nat)) : Prop where
  caps : isCaps ps = true
  run : ∀ (pins : List (Addr × Obj)) (s : Shared) (σ : L2.St) (H : Hp) (vs : List V) (us : List Value), Inv X pins σ H s → Vals vs us → us.length = ps.length →
    wpAny (model X.prog X.w) X.A (assignInOrder ((capB ps us).map fun (n, _) => bindName X.env n) ((capB ps us).map (·.2))) (fun _ s' => Inv X pins (bindS is vs σ) H s') X.xe s
section
variable {X : Cx}
theorem pcap_nil : PCap X [] [] := ⟨rfl, fun pins s σ H vs us I r hl => by
  have e : us = [] := List.length_eq_zero_iff.mp hl
  subst e
  cases r
  exact wpAny_assignInOrder_none I⟩
theorem pcap_name (i : Nat) {x : Str} {pos : Pos} {ps : List Pattern} {is : List (Option Nat)} (hN : X.N.Nodup) (hi : X.N[i]? = some x) (hx : Loc X.env.scope x) (h : PCap X ps is) (hf : X.fn x = true ∨ X.env.scope.names.lookup x = some .local := by first | exact .inl rfl | exact .inr rfl) :
    PCap X (.MatchAs none (some x) pos :: ps) (some i :: is) := ⟨h.caps, fun pins s σ H vs us I r hl => by
  cases r with
  | nil => simp at hl
  | cons rv rr =>
    refine wpAny_assignInOrder_more (wpAny_bindName (store_ok I hN hi hx rv (fun s' I' => ?_) hf))
    exact h.run pins s' _ H _ _ I' rr (by simpa using hl)⟩
theorem pcap_wild {pos : Pos} {ps : List Pattern} {is : List (Option Nat)} (h : PCap X ps is) : PCap X (.MatchAs none none pos :: ps) (none :: is) := ⟨h.caps, fun pins s σ H vs us I r hl => by
  cases r with
  | nil => simp at hl
  | cons rv rr => exact h.run pins s _ H _ _ I rr (by simpa using hl)⟩
/-- the cases of a match, asked of a value -/
structure PCs (X : Cx) (cs : List MatchCase) (t : V → TS) : Prop where
  run : ∀ (first : Bool) (pins : List (Addr × Obj)) (s : Shared) (σ : L2.St) (H : Hp) (D : Ends) (v : V) (u : Value), Inv X pins σ H s → RelV v u → t v D σ H → wpAny (model X.prog X.w) X.A (matchCases cs X.env u first) (SP X pins D) X.xe s
def tMatch (te : TE) (t : V → TS) : TS := fun D σ H => te σ H fun v H1 => t v D σ H1
theorem ps_match {e : Expr} {te : TE} {cs : List MatchCase} {t : V → TS} {pos : Pos} (he : PE X e te) (hc : PCs X cs t) : PS X (.Match e cs pos) (tMatch te t) :=
  ⟨fun pins s σ H D I h => wpAny_Match (thn (he.run pins s σ H _ I h) fun u s1 ⟨v, H1, I1, r, q⟩ => hc.run true pins s1 σ H1 D v u I1 r q)⟩
def tNoCase : V → TS := fun _ D σ H => D.nx σ H
theorem pcs_nil : PCs X [] tNoCase := ⟨fun _ _ _ σ H _ _ _ I _ h => wpAny_matchCases_nil ⟨σ, H, I, h⟩⟩
def tElse (t : TS) : V → TS := fun _ => t
theorem pcs_else {pos : Pos} {body : List Stmt} {rest : List MatchCase} {t : TS} (hb : PSs X body t) : PCs X (⟨.MatchAs none none pos, none, body⟩ :: rest) (tElse t) :=
  ⟨fun _ pins s σ H D v u I r h => wpAny_matchCases_cons (wpAny_matchPattern_Capture (wpAny_assignInOrder_none (hb.run pins s σ H D I h)))⟩
/-- a tuple of n parts that begins with the word -/
def tSeqW (K : PySem.W.Frag) (r : R2) (n : Nat) (word : Str) (is : List (Option Nat)) (body : TS) (rest : V → TS) : V → TS := fun v D σ H => ∃ (a : Addr) (xs : List V), v = .ref a ∧ SqT K H a xs ∧
  ((xs.length ≠ n ∧ rest v D σ H) ∨ ∃ y ys, xs = y :: ys ∧ xs.length = n ∧ r y (.str word) H fun z H1 => ∃ k, z = .bl k ∧ if k = true then body D (bindS is ys σ) H1 else rest v D σ H1)
theorem pcs_seq {r : R2} {n : Nat} {word : Str} {j : Nat} {p1 p2 p3 : Pos} {ps : List Pattern} {is : List (Option Nat)} {body : List Stmt} {rest : List MatchCase} {tb : TS} {tr : V → TS} (hc : X.calm = true) (ho : OpR X (compareOp .Eq) r) (hp : PCap X ps is) (hb : PSs X body tb) (hr : PCs X rest tr) (hn : ps.length + 1 = n := by rfl)
    (hs : (Pattern.MatchValue (.Constant (.str word) j p1) p2 :: ps).findIdx? (·.isStar) = none := by rfl) (hw : ((Pattern.MatchValue (.Constant (.str word) j p1) p2 :: ps).all fun p => p.isWildcard || (p.isStar && p.names.isEmpty)) = false := by rfl) :
    PCs X (⟨.MatchSequence (.MatchValue (.Constant (.str word) j p1) p2 :: ps) p3, none, body⟩ :: rest) (tSeqW X.K r n word is tb tr) := by
  refine ⟨fun first pins s σ H D v u I rv h => ?_⟩
  obtain ⟨a, xs, rfl, hx, h⟩ := h
  cases (show u = Value.ref a from rv)
  obtain ⟨its, ri, ht, hz⟩ := I.tuple hx
  have hl := ri.length
  have hfit : ((its.toArray.size : Nat) : Int) < 2 ^ 63 := by
    have h1 : its.length ≤ sizeLine := by rw [← hl]; exact hz
    have h2 : sizeLine < 2 ^ 63 := by decide
    have h3 : its.toArray.size < 2 ^ 63 := Nat.lt_of_le_of_lt (by simpa using h1) h2
    omega
  rcases h with ⟨hne, q⟩ | ⟨y, ys, rfl, hxl, q⟩
  · refine wpAny_matchCases_cons (matchSeq_tuple_miss ht hfit (by simp; omega) ?_ hs hw)
    exact hr.run false pins _ σ H D (.ref a) _ (I.tok _) rfl q
  · cases ri with
    | cons ry rys =>
      rename_i uy uys
      have hly := rys.length
      have sz : (uy :: uys).toArray.size = ps.length + 1 := by simp at hxl ⊢; omega
      refine wpAny_matchCases_cons (matchSeq_tuple_hit ht hfit (by simpa using sz) ?_ hs hw)
      have e : (Pattern.MatchValue (.Constant (.str word) j p1) p2 :: ps).length = (uy :: uys).toArray.size := sz.symm
      rw [e]
      refine unpackItems_tuple (I.ok.hd hc) ht fun h' hk => ?_
      have I2 : Inv X pins σ H { s with heap := h', toks := s.toks + 1 + 1 } := I.kept fun b o e => hk b o (Nat.ne_of_lt (Heap.lt_size e)) e
      refine wpAny_matchEach_cons (wpAny_matchPattern_Value ?_) rfl
      refine Calls.Constant_str ?_
      refine thn (ho pins _ σ H y (.str word) uy _ _ (I2.tok _) ry ⟨_, rfl⟩ q) fun c s3 ⟨z, H3, I3, rz, k, ez, q3⟩ => ?_
      subst ez
      cases rz
      refine wpAny_truthy_bool ?_
      cases k with
      | false =>
        rw [if_neg Bool.false_ne_true] at q3 ⊢
        exact hr.run false pins s3 σ H3 D (.ref a) _ I3 rfl q3
      | true =>
        rw [if_pos rfl] at q3 ⊢
        refine each_caps hp.caps (by simp at sz; exact sz) ?_
        refine thn (hp.run pins s3 σ H3 ys uys I3 rys (by simp at sz; exact sz)) fun _ s4 I4 => ?_
        exact hb.run pins s4 _ H3 D I4 q3
end
/-! ### steps of the reading -/
section
variable {σ : L2.St} {H : Hp} {D : Ends} {K : PySem.W.Frag} {v : V} {te : TE} {t : V → TS}
theorem x_match (h : te σ H fun v H1 => t v D σ H1) : tMatch te t D σ H := h
theorem x_else {t : TS} (h : t D σ H) : tElse t v D σ H := h
theorem x_noCase (h : D.nx σ H) : tNoCase v D σ H := h
theorem x_caseNo {r : R2} {n : Nat} {word : Str} {is : List (Option Nat)} {body : TS} {a : Addr} {xs : List V} (ha : SqT K H a xs) (hl : xs.length ≠ n) (h : t (.ref a) D σ H) : tSeqW K r n word is body t (.ref a) D σ H :=
  ⟨a, xs, rfl, ha, .inl ⟨hl, h⟩⟩
theorem x_caseW {n : Nat} {word w : Str} {is : List (Option Nat)} {body : TS} {a : Addr} {ys : List V} (ha : SqT K H a (.str w :: ys)) (hl : ys.length + 1 = n) (hw : w ≠ word) (h : t (.ref a) D σ H) : tSeqW K rEq n word is body t (.ref a) D σ H :=
  ⟨a, _, rfl, ha, .inr ⟨_, ys, rfl, hl, rfl, false, by rw [decide_eq_false (fun e => hw (V.str.inj e))], iteF h⟩⟩
theorem x_caseY {n : Nat} {word : Str} {is : List (Option Nat)} {body : TS} {a : Addr} {ys : List V} (ha : SqT K H a (.str word :: ys)) (hl : ys.length + 1 = n) (h : body D (bindS is ys σ) H) : tSeqW K rEq n word is body t (.ref a) D σ H :=
  ⟨a, _, rfl, ha, .inr ⟨_, ys, rfl, hl, rfl, true, by rw [decide_eq_true rfl], iteT h⟩⟩
end
end Br

/-! ### what `_law_equal` finds alike -/
namespace Br
open PySem PySem.Spec PyProof.Rows L2
/-- alike up to a depth -/
def Eqv (K : PySem.W.Frag) (H : Hp) : Nat → V → V → Prop
  | 0, _, _ => False
  | n + 1, v, u => (∃ i : Int, v = .int i ∧ u = .int i) ∨ (∃ x : Str, v = .str x ∧ u = .str x) ∨ (∃ b : Bool, v = .bl b ∧ u = .bl b) ∨ (v = .non ∧ u = .non) ∨
      (∃ (a b : Addr) (xs ys : List V), v = .ref a ∧ u = .ref b ∧ ((H a = some (.lst xs) ∧ H b = some (.lst ys)) ∨ (H a = some (.tup xs) ∧ H b = some (.tup ys))) ∧ xs.length = ys.length ∧ ys.length ≤ 100000 ∧ ∀ (i : Nat) x y, xs[i]? = some x → ys[i]? = some y → Eqv K H n x y)
theorem Eqv.mono {K : PySem.W.Frag} {H : Hp} : ∀ {n m : Nat} {v u : V}, n ≤ m → Eqv K H n v u → Eqv K H m v u
  | 0, _, _, _, _, h => h.elim
  | n + 1, m, v, u, hm, h => by
    obtain ⟨k, rfl⟩ : ∃ k, m = k + 1 := ⟨m - 1, by omega⟩
    rcases h with h | h | h | h | ⟨a, b, xs, ys, e1, e2, e3, e4, e5, e6⟩
    · exact .inl h
    · exact .inr (.inl h)
    · exact .inr (.inr (.inl h))
    · exact .inr (.inr (.inr (.inl h)))
    · exact .inr (.inr (.inr (.inr ⟨a, b, xs, ys, e1, e2, e3, e4, e5, fun i x y h1 h2 => Eqv.mono (by omega) (e6 i x y h1 h2)⟩)))
theorem Eqv.int {K : PySem.W.Frag} {H : Hp} {n : Nat} {i : Int} : Eqv K H (n + 1) (.int i) (.int i) := .inl ⟨i, rfl, rfl⟩
theorem Eqv.str {K : PySem.W.Frag} {H : Hp} {n : Nat} {x : Str} : Eqv K H (n + 1) (.str x) (.str x) := .inr (.inl ⟨x, rfl, rfl⟩)
theorem Eqv.bl {K : PySem.W.Frag} {H : Hp} {n : Nat} {b : Bool} : Eqv K H (n + 1) (.bl b) (.bl b) := .inr (.inr (.inl ⟨b, rfl, rfl⟩))
theorem Eqv.non {K : PySem.W.Frag} {H : Hp} {n : Nat} : Eqv K H (n + 1) .non .non := .inr (.inr (.inr (.inl ⟨rfl, rfl⟩)))
theorem Eqv.tup {K : PySem.W.Frag} {H : Hp} {n : Nat} {a b : Addr} {xs ys : List V} (h1 : H a = some (.tup xs)) (h2 : H b = some (.tup ys)) (hl : xs.length = ys.length) (hz : ys.length ≤ 100000) (h : ∀ (i : Nat) x y, xs[i]? = some x → ys[i]? = some y → Eqv K H n x y) : Eqv K H (n + 1) (.ref a) (.ref b) :=
  .inr (.inr (.inr (.inr ⟨a, b, xs, ys, rfl, rfl, .inr ⟨h1, h2⟩, hl, hz, h⟩)))
theorem Eqv.lst {K : PySem.W.Frag} {H : Hp} {n : Nat} {a b : Addr} {xs ys : List V} (h1 : H a = some (.lst xs)) (h2 : H b = some (.lst ys)) (hl : xs.length = ys.length) (hz : ys.length ≤ 100000) (h : ∀ (i : Nat) x y, xs[i]? = some x → ys[i]? = some y → Eqv K H n x y) : Eqv K H (n + 1) (.ref a) (.ref b) :=
  .inr (.inr (.inr (.inr ⟨a, b, xs, ys, rfl, rfl, .inl ⟨h1, h2⟩, hl, hz, h⟩)))
theorem Eqv.ints {K : PySem.W.Frag} {H : Hp} {n : Nat} {a b : Addr} {xs : List Int} (h1 : H a = some (.lst (xs.map V.int))) (h2 : H b = some (.lst (xs.map V.int))) (hz : xs.length ≤ 100000) : Eqv K H (n + 2) (.ref a) (.ref b) :=
  Eqv.lst h1 h2 rfl (by rw [List.length_map]; exact hz) fun i x y e1 e2 => by
    rw [e1] at e2
    cases e2
    obtain ⟨z, _, rfl⟩ := map_get e1
    exact .int
/-- a tuple of few parts is alike to itself -/
theorem Eqv.self2 {K : PySem.W.Frag} {H : Hp} {n : Nat} {a : Addr} {xs : List V} (h1 : H a = some (.tup xs)) (hz : xs.length ≤ 100000) (h : ∀ x, x ∈ xs → Eqv K H n x x) : Eqv K H (n + 1) (.ref a) (.ref a) :=
  Eqv.tup h1 h1 rfl hz fun i x y e1 e2 => by
    rw [e1] at e2
    cases e2
    exact h x (List.mem_of_getElem? e1)
end Br

/-! ### max(xs, default=d) -/
namespace Br
open PySem PySem.Spec PyProof.Rows L2
theorem max_rawD {prog : Program} {w : World} {A : Around} {E : Value → Shared → Prop} {s : Shared} {l : Addr} {its : List Value} {ns : List Int} {d : Value} {Q : Value → Shared → Prop} (hh : A.handled = none) (hl : s.heap.IsList l its.toArray) (hi : IntsAre its ns)
    (h0 : ns = [] → ∀ h' tk, (∀ b o, s.heap.get? b = some o → h'.get? b = some o) → Q d { s with heap := h', toks := tk })
    (h : ∀ h' tk M t', (∀ b o, s.heap.get? b = some o → h'.get? b = some o) → M ∈ ns → (∀ a, a ∈ ns → a ≤ M) → Q (.int M t') { s with heap := h', toks := tk }) : wpAny (model prog w) A (call (.builtin "max") [.ref l] [(Str.ofString "default", d)]) Q E s := by
  obtain ⟨xs, e⟩ := hi.allInts.items
  have hn : numsOf (intItems xs).toList = ns := by rw [← e]; exact hi.numsOf
  rw [nums_intItems] at hn
  subst hn
  rw [e] at hl
  refine call_max_walkD (iter_intList hl fun s₂ e2 st hfp hlI => ?_)
  have keep : ∀ {s' : Shared}, Moved [s.heap.objs.size] (fun a b => b = a) s₂ s' → (∀ b o, s.heap.get? b = some o → s'.heap.get? b = some o) ∧ s' = { s with heap := s'.heap, toks := s'.toks } := by
    intro s' m
    subst e2
    refine ⟨fun b o eb => m.heap b o (fun hb => ?_) (Heap.get?_push_of_some _ eb), ?_⟩
    · have : b = s.heap.objs.size := by simpa using hb
      exact absurd (Heap.lt_size eb) (by rw [this]; exact Nat.lt_irrefl _)
    · have h1 := m.gens
      have h2 := m.drawn
      have h3 := m.os
      cases s'
      cases s
      simp at h1 h2 h3 ⊢
      exact ⟨h1, h2, h3⟩
  refine ⟨_, _, _, _, _, _, _, s.heap, fun i j => decide (numAt xs i > numAt xs j), rfl, (Walks.list (A := A.in1) hh _ l hlI (intItems xs)).toS, st, hfp, ?_, ?_, ?_, ?_⟩
  · intro b o eb hb
    have : b = s.heap.objs.size := by simpa using hb
    exact absurd (Heap.lt_size eb) (by rw [this]; exact Nat.lt_irrefl _)
  · intro b o eb
    subst e2
    exact Heap.get?_push_of_some _ eb
  · intro hz s' m
    obtain ⟨k1, k2⟩ := keep m
    rw [k2]
    refine h0 ?_ _ _ k1
    have : xs.size = 0 := by simpa [intItems] using hz
    have : xs = #[] := Array.eq_empty_of_size_eq_zero this
    rw [this]
    rfl
  · intro hz
    have hsz : 0 < xs.size := by simpa [intItems] using hz
    refine ⟨fun i j vi vj s' Q' E' _ h1 h2 h3 => CmpOf.ints_gt (numAt xs) (fun _ _ => intItems_at) i j vi vj s' Q' E' h1 h2 h3, fun v s' hP m => ?_⟩
    obtain ⟨k1, k2⟩ := keep m
    rw [k2]
    have hP : (intItems xs)[argBest (fun i j => decide (numAt xs i > numAt xs j)) (xs.size - 1)]? = some v := by simpa [intItems] using hP
    obtain ⟨t, rfl⟩ := intItems_at hP
    obtain ⟨h1, h2⟩ := argBest_gt (numAt xs) (xs.size - 1)
    refine h _ _ _ t k1 ?_ fun a ha => ?_
    · rw [numAt_eq]; exact PySem.getD_mem (by rw [List.length_map, Array.length_toList]; omega)
    · obtain ⟨j, hj, rfl⟩ := mem_getD ha
      rw [List.length_map, Array.length_toList] at hj
      rw [← numAt_eq]; exact h2 j (by omega)
/-- max(xs, default=z): z the default -/
def rMaxDf (K : PySem.W.Frag) : List V → List V → Hp → VK → Prop := fun vs zs H Q => ∃ (a : Addr) (ns : List Int) (d : Int), vs = [V.ref a] ∧ zs = [.int d] ∧ SqL K H a (ns.map V.int) ∧ (ns = [] → Q (.int d) H) ∧ ∀ m, m ∈ ns → (∀ y, y ∈ ns → y ≤ m) → Q (.int m) H
theorem cr_maxDf {X : Cx} (hc : X.calm = true) : CallRK X (.builtin "max") [Str.ofString "default"] (rMaxDf X.K) := by
  intro pins s σ H xs zs us ws Q I r1 r2 h
  obtain ⟨a, ns, d, rfl, rfl, hs, q0, q⟩ := h
  obtain ⟨its, rv, hl, _⟩ := I.list hs
  rw [Vals.ref1 r1]
  cases r2 with
  | cons rz rr =>
    cases rr
    exact max_rawD (I.ok.hd hc) hl.isList rv.ints (fun e h' tk hk => ⟨.int d, H, I.kept hk, rz, q0 e⟩) fun h' tk m t' hk h1 h2 => ⟨.int _, H, I.kept hk, ⟨_, rfl⟩, q m h1 h2⟩
theorem x_maxDf {K : PySem.W.Frag} {σ : L2.St} {H : Hp} {Q : VK} {t tk : TA} (h : t σ H fun vs H1 => tk σ H1 fun zs H2 => rMaxDf K vs zs H2 Q) : tCKw (rMaxDf K) t tk σ H Q := h
/-- what is walked within a comprehension, the written part named -/
theorem pi_tupK {X : Cx} {tg : Expr} {K2 : PySem.W.Frag} {l : Expr} {tl : TE} (hK : X.K = K2) (hl : PE X l tl) : PI X tg l (iTup K2 tl) := by
  subst hK
  exact pi_tup hl
theorem pi_listK {X : Cx} {tg : Expr} {K2 : PySem.W.Frag} {l : Expr} {tl : TE} (hK : X.K = K2) (hl : PE X l tl) : PI X tg l (iList K2 tl) := by
  subst hK
  exact pi_list hl
theorem x_maxDfP {K : PySem.W.Frag} {H : Hp} {Q : VK} {a : Addr} {ns : List Int} {d : Int} (hs : SqL K H a (ns.map V.int)) (h : ∀ m, (ns = [] ∧ m = d) ∨ (m ∈ ns ∧ ∀ y, y ∈ ns → y ≤ m) → Q (.int m) H) : rMaxDf K [.ref a] [.int d] H Q :=
  ⟨a, ns, d, rfl, rfl, hs, fun e => h d (.inl ⟨e, rfl⟩), fun m h1 h2 => h m (.inr ⟨h1, h2⟩)⟩
end Br

/-! ### data of any kind in the heap, apart from one list -/
namespace Br
open PySem PySem.Spec PyProof.Rows L2
mutual
inductive DAt (d : Addr) (H : Hp) : V → PyData → Prop
  | non : DAt d H .non .none
  | bl (b : Bool) : DAt d H (.bl b) (.bool b)
  | int (i : Int) : DAt d H (.int i) (.int i)
  | str (x : Str) : DAt d H (.str x) (.str x)
  | lst {a : Addr} {xs : List V} {ds : List PyData} (hd : a ≠ d) (h : H a = some (.lst xs)) (hs : DAts d H xs ds) : DAt d H (.ref a) (.list ds)
  | tup {a : Addr} {xs : List V} {ds : List PyData} (h : H a = some (.tup xs)) (hs : DAts d H xs ds) : DAt d H (.ref a) (.tuple ds)
inductive DAts (d : Addr) (H : Hp) : List V → List PyData → Prop
  | nil : DAts d H [] []
  | cons {v : V} {vs : List V} {e : PyData} {es : List PyData} (h : DAt d H v e) (hs : DAts d H vs es) : DAts d H (v :: vs) (e :: es)
end
section
variable {d : Addr} {H H' : Hp}
theorem DAts.len : ∀ {xs : List V} {ds : List PyData}, DAts d H xs ds → xs.length = ds.length
  | [], _, h => by cases h; rfl
  | _ :: xs, _, h => by
    cases h with
    | cons h hs => exact congrArg (· + 1) hs.len
theorem DAts.get : ∀ {xs : List V} {ds : List PyData}, DAts d H xs ds → ∀ {i : Nat} {x : V}, xs[i]? = some x → ∃ e, ds[i]? = some e ∧ DAt d H x e
  | [], _, _, i, x, e => by simp at e
  | v :: xs, _, h, i, x, e => by
    cases h with
    | cons h hs =>
      cases i with
      | zero => cases e; exact ⟨_, rfl, h⟩
      | succ i => exact hs.get (i := i) (by simpa using e)
theorem DAts.of : ∀ {xs : List V} {ds : List PyData}, xs.length = ds.length → (∀ (i : Nat) x e, xs[i]? = some x → ds[i]? = some e → DAt d H x e) → DAts d H xs ds
  | [], [], _, _ => .nil
  | v :: xs, e :: ds, hl, h => .cons (h 0 v e rfl rfl) (DAts.of (by simpa using hl) fun i x f h1 h2 => h (i + 1) x f (by simpa using h1) (by simpa using h2))
  | [], _ :: _, hl, _ => by simp at hl
  | _ :: _, [], hl, _ => by simp at hl
theorem DAts.snoc : ∀ {xs : List V} {ds : List PyData} {v : V} {e : PyData}, DAts d H xs ds → DAt d H v e → DAts d H (xs ++ [v]) (ds ++ [e])
  | [], _, v, e, h, h1 => by cases h; exact .cons h1 .nil
  | _ :: xs, _, v, e, h, h1 => by
    cases h with
    | cons h hs => exact .cons h (hs.snoc h1)
theorem DAts.app : ∀ {xs ys : List V} {ds es : List PyData}, DAts d H xs ds → DAts d H ys es → DAts d H (xs ++ ys) (ds ++ es)
  | [], _, _, _, h, h1 => by cases h; exact h1
  | _ :: xs, _, _, _, h, h1 => by
    cases h with
    | cons h hs => exact .cons h (hs.app h1)
mutual
theorem DAt.keep (hd : ∃ ys, H d = some (.lst ys)) (k : Keep d H H') : ∀ (e : PyData) {v : V}, DAt d H v e → DAt d H' v e
  | .none, _, h => by cases h; exact .non
  | .bool b, _, h => by cases h; exact .bl b
  | .int i, _, h => by cases h; exact .int i
  | .str x, _, h => by cases h; exact .str x
  | .list ds, _, h => by
    cases h with
    | lst hn h hs => exact .lst hn (k _ _ h hn) (DAts.keep hd k ds hs)
  | .tuple ds, _, h => by
    obtain ⟨ys, hd'⟩ := id hd
    cases h with
    | tup h hs => exact .tup (k _ _ h (ne_of h hd' (by intro z; cases z))) (DAts.keep hd k ds hs)
  | .dict _, _, h => by cases h
theorem DAts.keep (hd : ∃ ys, H d = some (.lst ys)) (k : Keep d H H') : ∀ (es : List PyData) {vs : List V}, DAts d H vs es → DAts d H' vs es
  | [], _, h => by cases h; exact .nil
  | e :: es, _, h => by
    cases h with
    | cons h hs => exact .cons (DAt.keep hd k e h) (DAts.keep hd k es hs)
end
mutual
theorem DAt.same (k : Same H H') : ∀ (e : PyData) {v : V}, DAt d H v e → DAt d H' v e
  | .none, _, h => by cases h; exact .non
  | .bool b, _, h => by cases h; exact .bl b
  | .int i, _, h => by cases h; exact .int i
  | .str x, _, h => by cases h; exact .str x
  | .list ds, _, h => by
    cases h with
    | lst hn h hs => exact .lst hn (k _ _ h) (DAts.same k ds hs)
  | .tuple ds, _, h => by
    cases h with
    | tup h hs => exact .tup (k _ _ h) (DAts.same k ds hs)
  | .dict _, _, h => by cases h
theorem DAts.same (k : Same H H') : ∀ (es : List PyData) {vs : List V}, DAts d H vs es → DAts d H' vs es
  | [], _, h => by cases h; exact .nil
  | e :: es, _, h => by
    cases h with
    | cons h hs => exact .cons (DAt.same k e h) (DAts.same k es hs)
end
theorem DAts.ints : ∀ {ns : List Int}, DAts d H (ns.map V.int) (ns.map PyData.int)
  | [] => .nil
  | i :: ns => .cons (.int i) DAts.ints
theorem DAts.bls : ∀ {bs : List Bool}, DAts d H (bs.map V.bl) (bs.map PyData.bool)
  | [] => .nil
  | b :: bs => .cons (.bl b) DAts.bls
/-- is it an integer from 0 to b - 1 -/
def isBD (b : Int) : PyData → Bool
  | .int i => decide (0 ≤ i) && decide (i < b)
  | _ => false
theorem isBD_iff {b : Int} {e : PyData} : isBD b e = true ↔ ∃ i, e = .int i ∧ 0 ≤ i ∧ i < b := by
  cases e with
  | int i =>
    show (decide (0 ≤ i) && decide (i < b)) = true ↔ _
    rw [Bool.and_eq_true, decide_eq_true_iff, decide_eq_true_iff]
    exact ⟨fun h => ⟨i, rfl, h⟩, fun ⟨j, e, h⟩ => by cases e; exact h⟩
  | _ => exact ⟨fun h => (by cases h), fun h => (by obtain ⟨_, h, _⟩ := h; cases h)⟩
def isBlD : PyData → Bool
  | .bool _ => true
  | _ => false
end
end Br

/-! ### gates as data, and what they do -/
namespace Br
open PySem PySem.Spec PyProof.Rows L2
abbrev Gt := Nat × List Nat
def perfG (bs : List Bool) (g : Gt) : List Bool := if g.2.all (fun c => bs.getD c false) then bs.set g.1 (!bs.getD g.1 false) else bs
def perfF (gs : List Gt) (bs : List Bool) : List Bool := gs.foldl perfG bs
structure GtOk (n : Nat) (g : Gt) : Prop where
  t : g.1 < n
  c : ∀ x, x ∈ g.2 → x < n
  ne : g.1 ∉ g.2
  up : g.2.Pairwise (· < ·)
theorem GtOk.mono {n m : Nat} {g : Gt} (h : GtOk n g) (l : n ≤ m) : GtOk m g := ⟨Nat.lt_of_lt_of_le h.t l, fun x hx => Nat.lt_of_lt_of_le (h.c x hx) l, h.ne, h.up⟩
theorem perfG_len {bs : List Bool} {g : Gt} : (perfG bs g).length = bs.length := by
  unfold perfG
  split
  · rw [List.length_set]
  · rfl
theorem perfF_len : ∀ {gs : List Gt} {bs : List Bool}, (perfF gs bs).length = bs.length
  | [], _ => rfl
  | g :: gs, bs => (perfF_len (gs := gs) (bs := perfG bs g)).trans perfG_len
theorem perfF_snoc {gs : List Gt} {g : Gt} {bs : List Bool} : perfF (gs ++ [g]) bs = perfG (perfF gs bs) g := by
  unfold perfF
  rw [List.foldl_append]
  rfl
theorem getD_setB {bs : List Bool} {i j : Nat} {b : Bool} (h : i ≠ j) : (bs.set i b).getD j false = bs.getD j false := by
  rw [List.getD_eq_getElem?_getD, List.getD_eq_getElem?_getD, List.getElem?_set_ne h]
theorem perfG_twice {n : Nat} {bs : List Bool} {g : Gt} (ok : GtOk n g) (hn : n ≤ bs.length) : perfG (perfG bs g) g = bs := by
  have ht := Nat.lt_of_lt_of_le ok.t hn
  by_cases h : g.2.all (fun c => bs.getD c false) = true
  · have e : perfG bs g = bs.set g.1 (!bs.getD g.1 false) := by unfold perfG; rw [if_pos h]
    rw [e]
    unfold perfG
    rw [if_pos]
    · apply List.ext_getElem?
      intro j
      by_cases hj : g.1 = j
      · subst hj
        have h1 : g.1 < (bs.set g.1 (!bs.getD g.1 false)).length := by rw [List.length_set]; exact ht
        rw [List.getElem?_set_self h1, List.getD_eq_getElem?_getD (l := bs.set _ _), List.getElem?_set_self ht, List.getD_eq_getElem?_getD, List.getElem?_eq_getElem ht]
        simp
      · rw [List.getElem?_set_ne hj, List.getElem?_set_ne hj]
    · rw [List.all_eq_true] at h ⊢
      intro c hc
      rw [getD_setB (fun e => ok.ne (by rw [e]; exact hc))]
      exact h c hc
  · have e : perfG bs g = bs := by unfold perfG; rw [if_neg h]
    rw [e, e]
theorem perfF_rev {n : Nat} : ∀ {gs : List Gt} {bs : List Bool}, (∀ g, g ∈ gs → GtOk n g) → n ≤ bs.length → perfF gs.reverse (perfF gs bs) = bs
  | [], _, _, _ => rfl
  | g :: gs, bs, ok, hn => by
    rw [List.reverse_cons, perfF_snoc]
    show perfG (perfF gs.reverse (perfF gs (perfG bs g))) g = bs
    rw [perfF_rev (fun x hx => ok x (List.mem_cons_of_mem _ hx)) (by rw [perfG_len]; exact hn)]
    exact perfG_twice (ok g List.mem_cons_self) hn
def cInts (cs : List Nat) : List V := cs.map fun (c : Nat) => V.int (c : Int)
def GtAt (H : Hp) (a : Addr) (g : Gt) : Prop := ∃ c : Addr, H a = some (.tup [.int (g.1 : Int), .ref c]) ∧ H c = some (.tup (cInts g.2))
def gtD (g : Gt) : PyData := .tuple [.int (g.1 : Int), .tuple (g.2.map fun (c : Nat) => PyData.int (c : Int))]
theorem GtAt.tups {H H' : Hp} {a : Addr} {g : Gt} (h : GtAt H a g) (k : ∀ b xs, H b = some (.tup xs) → H' b = some (.tup xs)) : GtAt H' a g := by
  obtain ⟨c, h1, h2⟩ := h
  exact ⟨c, k _ _ h1, k _ _ h2⟩
theorem cInts_at {d : Addr} {H : Hp} : ∀ {cs : List Nat}, DAts d H (cInts cs) (cs.map fun (c : Nat) => PyData.int (c : Int))
  | [] => .nil
  | c :: cs => .cons (.int _) cInts_at
theorem GtAt.dat {d a : Addr} {H : Hp} {g : Gt} (h : GtAt H a g) : DAt d H (.ref a) (gtD g) := by
  obtain ⟨c, h1, h2⟩ := h
  exact .tup h1 (.cons (.int _) (.cons (.tup h2 cInts_at) .nil))
/-- rising bits below 120, behind the last one -/
def risF : Int → List PyData → Bool
  | _, [] => true
  | l, .int i :: es => (decide (0 ≤ i) && decide (i < 120)) && (decide (l < i) && risF i es)
  | _, _ :: _ => false
def risD : PyData → Bool
  | .tuple es => risF (-1) es
  | _ => false
def hasD (e : PyData) (es : List PyData) : Bool := es.any fun x => match x, e with | .int i, .int j => decide (i = j) | _, _ => false
def gateD : PyData → Bool
  | .tuple [t, .tuple es] => isBD 120 t && (risF (-1) es && !hasD t es)
  | _ => false
def gatesD : PyData → Bool
  | .list es => decide (es.length ≤ 60000) && es.all gateD
  | _ => false
theorem risF_ok : ∀ {cs : List Nat} {l : Int}, cs.Pairwise (· < ·) → (∀ c, c ∈ cs → c < 120 ∧ l < (c : Int)) → risF l (cs.map fun (c : Nat) => PyData.int (c : Int)) = true
  | [], _, _, _ => rfl
  | c :: cs, l, hp, h => by
    obtain ⟨h1, h2⟩ := h c List.mem_cons_self
    show ((decide (0 ≤ (c : Int)) && decide ((c : Int) < 120)) && (decide (l < (c : Int)) && _)) = true
    rw [decide_eq_true (by omega), decide_eq_true (by omega), decide_eq_true h2]
    rw [List.pairwise_cons] at hp
    exact risF_ok hp.2 fun x hx => ⟨(h x (List.mem_cons_of_mem _ hx)).1, by have := hp.1 x hx; omega⟩
theorem gateD_ok {g : Gt} (ok : GtOk 120 g) : gateD (gtD g) = true := by
  show (isBD 120 (.int (g.1 : Int)) && (risF (-1) (g.2.map fun (c : Nat) => PyData.int (c : Int)) && !hasD (.int (g.1 : Int)) (g.2.map fun (c : Nat) => PyData.int (c : Int)))) = true
  have h1 : isBD 120 (.int (g.1 : Int)) = true := isBD_iff.mpr ⟨_, rfl, by omega, by have := ok.t; omega⟩
  have h2 := risF_ok (l := -1) ok.up fun c hc => ⟨ok.c c hc, by omega⟩
  have h3 : hasD (.int (g.1 : Int)) (g.2.map fun (c : Nat) => PyData.int (c : Int)) = false := by
    unfold hasD
    rw [List.any_eq_false]
    intro x hx
    obtain ⟨c, hc, rfl⟩ := List.mem_map.mp hx
    have hne : (c : Int) ≠ (g.1 : Int) := fun e => ok.ne (by have : c = g.1 := by omega
                                                             rw [← this]; exact hc)
    show ¬ decide ((c : Int) = (g.1 : Int)) = true
    rw [decide_eq_false hne]
    decide
  rw [h1, h2, h3]
  rfl
/-- the bits that a gate touches -/
def topG (g : Gt) : Nat := g.2.foldr max g.1 + 1
theorem foldr_max {cs : List Nat} {t : Nat} : t ≤ cs.foldr max t ∧ (∀ c, c ∈ cs → c ≤ cs.foldr max t) ∧ (cs.foldr max t = t ∨ cs.foldr max t ∈ cs) := by
  induction cs with
  | nil => exact ⟨Nat.le_refl _, fun c h => by simp at h, .inl rfl⟩
  | cons c cs ih =>
    obtain ⟨h1, h2, h3⟩ := ih
    show t ≤ max c _ ∧ _ ∧ _
    refine ⟨by omega, fun x hx => ?_, ?_⟩
    · rcases List.mem_cons.mp hx with rfl | hx
      · exact Nat.le_max_left _ _
      · exact Nat.le_trans (h2 x hx) (Nat.le_max_right _ _)
    · show max c _ = t ∨ max c _ ∈ _
      rcases Nat.le_total c (cs.foldr max t) with h | h
      · rw [Nat.max_eq_right h]
        rcases h3 with h3 | h3
        · exact .inl h3
        · exact .inr (List.mem_cons_of_mem _ h3)
      · rw [Nat.max_eq_left h]
        exact .inr List.mem_cons_self
theorem topG_le {n : Nat} {g : Gt} (ok : GtOk n g) : topG g ≤ n := by
  unfold topG
  rcases (foldr_max (cs := g.2) (t := g.1)).2.2 with h | h
  · rw [h]; exact ok.t
  · exact ok.c _ h
theorem up_len {n : Nat} : ∀ {cs : List Nat} {l : Nat}, cs.Pairwise (· < ·) → (∀ c, c ∈ cs → l ≤ c ∧ c < n) → cs.length ≤ n - l
  | [], _, _, _ => Nat.zero_le _
  | c :: cs, l, hp, h => by
    rw [List.pairwise_cons] at hp
    obtain ⟨h1, h2⟩ := h c List.mem_cons_self
    have := up_len (l := c + 1) hp.2 fun x hx => ⟨hp.1 x hx, (h x (List.mem_cons_of_mem _ hx)).2⟩
    rw [List.length_cons]
    omega
theorem GtOk.len {n : Nat} {g : Gt} (h : GtOk n g) : g.2.length ≤ n := by
  have := up_len (l := 0) h.up fun c hc => ⟨Nat.zero_le _, h.c c hc⟩
  omega
theorem cInts_get {cs : List Nat} {i : Nat} {x : V} (hx : (cInts cs)[i]? = some x) : ∃ m : Nat, cs[i]? = some m ∧ x = .int (m : Int) := by
  unfold cInts at hx
  rw [List.getElem?_map] at hx
  cases e : cs[i]? with
  | none => rw [e] at hx; cases hx
  | some n => rw [e] at hx; exact ⟨n, rfl, (Option.some.inj hx).symm⟩
end Br

/-! ### bits, many gates; comprehensions with a test -/
namespace Br
open PySem PySem.Spec PyProof.Rows L2
theorem x_max {σ : L2.St} {H : Hp} {Q : VK} {K : PySem.W.Frag} {p : Addr} {ns : List Int} (hp : SqL K H p (ns.map V.int)) (h0 : 0 < ns.length) (q : ∀ m, m ∈ ns → (∀ y, y ∈ ns → y ≤ m) → Q (.int m) H) : rMax K [.ref p] H Q := ⟨p, ns, rfl, hp, h0, q⟩
theorem cInts_eq {cs : List Nat} : cInts cs = (cs.map fun (c : Nat) => (c : Int)).map V.int := by
  unfold cInts
  rw [List.map_map]
  rfl
theorem x_listT {K : PySem.W.Frag} {H : Hp} {Q : VK} {p : Addr} {xs : List V} (hp : SqT K H p xs) (q : ∀ l, H l = none → Q (.ref l) (L2.upd H l (.lst xs))) : rListOf K [.ref p] H Q := ⟨p, xs, rfl, .inr hp, q⟩
def bls (bs : List Bool) : List V := bs.map V.bl
theorem bls_get {bs : List Bool} {i : Nat} (h : i < bs.length) : (bls bs)[i]? = some (.bl (bs.getD i false)) := by
  unfold bls
  rw [List.getElem?_map, List.getElem?_eq_getElem h, List.getD_eq_getElem?_getD, List.getElem?_eq_getElem h]
  rfl
theorem bls_set {bs : List Bool} {i : Nat} {b : Bool} : (bls bs).set i (.bl b) = bls (bs.set i b) := by
  unfold bls
  rw [List.map_set]
theorem bls_len {bs : List Bool} : (bls bs).length = bs.length := by unfold bls; rw [List.length_map]
/-- many gates -/
def GtsAt (H : Hp) (as : List Addr) (gs : List Gt) : Prop := as.length = gs.length ∧ ∀ (i : Nat) x b, gs[i]? = some x → as[i]? = some b → GtAt H b x
theorem GtsAt.tups {H H' : Hp} {as : List Addr} {gs : List Gt} (h : GtsAt H as gs) (k : ∀ b xs, H b = some (.tup xs) → H' b = some (.tup xs)) : GtsAt H' as gs := ⟨h.1, fun i x b e1 e2 => (h.2 i x b e1 e2).tups k⟩
theorem GtsAt.get {H : Hp} {as : List Addr} {gs : List Gt} (h : GtsAt H as gs) {i : Nat} {b : Addr} (e : as[i]? = some b) : ∃ x, gs[i]? = some x ∧ GtAt H b x := by
  have hl := (List.getElem?_eq_some_iff.mp e).1
  have hl2 : i < gs.length := by rw [← h.1]; exact hl
  exact ⟨_, List.getElem?_eq_getElem hl2, h.2 i _ b (List.getElem?_eq_getElem hl2) e⟩
theorem take_snocG {α : Type} {ss : List α} {i : Nat} {s : α} (h : ss[i]? = some s) : ss.take (i + 1) = ss.take i ++ [s] := by rw [List.take_add_one, h]; rfl
/-- a comprehension over a tuple, with a test, that keeps the items that meet it -/
theorem x_lcTT {K : PySem.W.Frag} {σ : L2.St} {H : Hp} {Q : VK} {ta : TE} {tt : TT} {te : TE} {j : Nat} {vs : List Nat} {a : Addr} (xs : List V) (P : Addr → Nat → Hp → Prop) (hn : ∀ R : V → Hp → Prop, R (.ref a) H → ta σ H R) (ha : SqT K H a xs) (h0 : ∀ p, H p = none → P p 0 (L2.upd H p (.lst [])))
    (hl : ∀ p i H', H p = none → i ≤ xs.length → P p i H' → SqT K H' a xs) (hw : ∀ x, wipe ((wipe σ vs).set j (some x)) vs = wipe σ vs)
    (hs : ∀ p (i : Nat) x H', H p = none → xs[i]? = some x → P p i H' → tt ((wipe σ vs).set j (some x)) H' fun b H3 => if b = true then te ((wipe σ vs).set j (some x)) H3 fun y H4 => ∃ acc, H4 p = some (.lst acc) ∧ acc.length < sizeLine ∧ P p (i + 1) (L2.upd H4 p (.lst (acc ++ [y]))) else P p (i + 1) H3)
    (hd : ∀ p H', H p = none → P p xs.length H' → Q (.ref p) H') : tLc (iTup K ta) (gName j) tt te vs σ H Q := by
  refine hn _ ⟨a, rfl, ⟨xs, ha⟩, fun p hp => ?_⟩
  refine lc_tup (xs := xs) (Qd := fun H' => Q (.ref p) H') (P p) (h0 p hp) (fun i H' hi q => hl p i H' hp hi q) (fun i x H' hi q => ?_) fun H' q => hd p H' hp q
  exact ⟨hw _, hs p i x H' hp hi q⟩
theorem x_lcPreT {σ : L2.St} {H : Hp} {Q : VK} {ta : TE} {j : Nat} {tt : TT} {te : TE} {vs : List Nat} (h : ta σ H fun v H1 => tLc (iRng1 (tCons (tC v) tNil)) (gName j) tt te vs σ H1 Q) : tLc (iRng1 (tCons ta tNil)) (gName j) tt te vs σ H Q := h
/-- a comprehension over a range, with a test -/
theorem x_lcRT {σ : L2.St} {H : Hp} {Q : VK} {ta : TE} {tt : TT} {j : Nat} {te : TE} {vs : List Nat} (n : Int) (P : Addr → Nat → Hp → Prop) (hn : ∀ R : V → Hp → Prop, R (.int n) H → ta σ H R) (h1 : -(2 ^ 62) ≤ n) (h2 : n < 2 ^ 62) (h0 : ∀ p, H p = none → P p 0 (L2.upd H p (.lst [])))
    (hw : ∀ x, wipe ((wipe σ vs).set j (some x)) vs = wipe σ vs)
    (hs : ∀ p (i : Nat) H', H p = none → (i : Int) < n → P p i H' → tt ((wipe σ vs).set j (some (.int (i : Int)))) H' fun b H3 => if b = true then te ((wipe σ vs).set j (some (.int (i : Int)))) H3 fun y H4 => ∃ acc, H4 p = some (.lst acc) ∧ acc.length < sizeLine ∧ P p (i + 1) (L2.upd H4 p (.lst (acc ++ [y]))) else P p (i + 1) H3)
    (hd : ∀ p H', H p = none → P p n.toNat H' → Q (.ref p) H') : tLc (iRng1 (tCons ta tNil)) (gName j) tt te vs σ H Q := by
  refine hn _ ⟨n, rfl, h1, h2, fun p hp => ?_⟩
  refine lc_range (lo := 0) (Qd := fun H' => Q (.ref p) H') (P p) (h0 p hp) (fun i H' hi q => ?_) fun H' q => hd p H' hp q
  have e : (0 : Int) + (i : Int) = (i : Int) := Int.zero_add _
  rw [e]
  exact ⟨hw _, hs p i H' hp (by omega) q⟩
theorem up_snoc {cs : List Nat} {i : Nat} (h : cs.Pairwise (· < ·)) (hc : ∀ c, c ∈ cs → c < i) : (cs ++ [i]).Pairwise (· < ·) := by
  rw [List.pairwise_append]
  exact ⟨h, List.pairwise_singleton _ _, fun a ha b hb => by rw [List.mem_singleton.mp hb]; exact hc a ha⟩
theorem cInts_snoc {cs : List Nat} {i : Nat} : cInts cs ++ [.int (i : Int)] = cInts (cs ++ [i]) := by unfold cInts; rw [List.map_append]; rfl
theorem cInts_len {cs : List Nat} : (cInts cs).length = cs.length := by unfold cInts; rw [List.length_map]
theorem bls_snoc {bs : List Bool} {b : Bool} : bls bs ++ [.bl b] = bls (bs ++ [b]) := by unfold bls; rw [List.map_append]; rfl
/-- a comprehension of values, item by item -/
theorem x_lcV {wi : TI} {te : TE} {vs : List Nat} {j : Nat} {Q : VK} {σ : L2.St} {H : Hp} {J : It} {G : Hp → Prop} {xs : List V} (f : Nat → V) (hw : ∀ R : It → Hp → Prop, R J H → wi σ H R) (w : Walk J xs.length G (YAt xs)) (hn : xs.length ≤ 100000)
    (hG : ∀ H', Same H H' → G H') (hv : ∀ x, wipe ((wipe σ vs).set j (some x)) vs = wipe σ vs)
    (he : ∀ (i : Nat) x H', Same H H' → xs[i]? = some x → ∀ R : VK, (∀ H2, Same H' H2 → R (f i) H2) → te ((wipe σ vs).set j (some x)) H' R)
    (hd : ∀ p H', H p = none → Same H H' → H' p = some (.lst ((List.range xs.length).map f)) → Q (.ref p) H') : tLc wi (gName j) tYes te vs σ H Q := by
  refine x_lcI hw w (fun p i H' => Same H H' ∧ H' p = some (.lst ((List.range i).map f))) (fun p hp => ⟨same_upd hp, upd_same⟩) (fun p i H' _ _ z => hG H' z.1) ?_ (fun x σ' H' R R' hr h => hr _ _ h) fun p H' hp z => hd p H' hp z.1 z.2
  rintro p i x H' H2 hi hp ⟨hs, hl⟩ ⟨rfl, hx⟩
  refine x_gName ⟨hv x, he i x _ hs hx _ fun H3 hs3 => ?_⟩
  refine ⟨_, hs3 _ _ hl, lt_line (by simp; omega), sput (hs.trans hs3) hp, ?_⟩
  rw [upd_same, List.range_succ, List.map_append]
  rfl
theorem range_map {α β : Type} {ds : List α} {f : α → β} {d : α} : ((List.range ds.length).map fun i => f (ds.getD i d)) = ds.map f := by
  apply List.ext_getElem?
  intro i
  rw [List.getElem?_map, List.getElem?_map]
  by_cases h : i < ds.length
  · rw [List.getElem?_range h, List.getElem?_eq_getElem h]
    show some (f (ds.getD i d)) = some (f ds[i])
    rw [List.getD_eq_getElem?_getD, List.getElem?_eq_getElem h]; rfl
  · rw [List.getElem?_eq_none (by simpa using h), List.getElem?_eq_none (by simpa using h)]
    rfl
theorem getDT {α : Type} {ds : List α} {i : Nat} {e d : α} (h : ds[i]? = some e) : ds.getD i d = e := by rw [List.getD_eq_getElem?_getD, h]; rfl
theorem GtsAt.snoc {H : Hp} {as : List Addr} {gs : List Gt} {b : Addr} {x : Gt} (h : GtsAt H as gs) (hx : GtAt H b x) : GtsAt H (as ++ [b]) (gs ++ [x]) := by
  refine ⟨by rw [List.length_append, List.length_append, h.1]; rfl, fun i y c e1 e2 => ?_⟩
  rcases snoc_at rfl e1 with ⟨h1, e1⟩ | ⟨h1, rfl⟩
  · rcases snoc_at rfl e2 with ⟨h2, e2⟩ | ⟨h2, rfl⟩
    · exact h.2 i y c e1 e2
    · have := h.1; omega
  · rcases snoc_at rfl e2 with ⟨h2, e2⟩ | ⟨h2, rfl⟩
    · have := h.1; omega
    · exact hx
theorem x_lcPreLT {K : PySem.W.Frag} {σ : L2.St} {H : Hp} {Q : VK} {te : TE} {ta : TE} {tt : TT} {j : Nat} {vs : List Nat} (h : ta σ H fun v H1 => tLc (iList K (tC v)) (gName j) tt te vs σ H1 Q) : tLc (iList K ta) (gName j) tt te vs σ H Q := h
/-- a comprehension over a list, with a test -/
theorem x_lcLT {K : PySem.W.Frag} {σ : L2.St} {H : Hp} {Q : VK} {ta : TE} {tt : TT} {te : TE} {j : Nat} {vs : List Nat} {a : Addr} (xs : List V) (P : Addr → Nat → Hp → Prop) (hn : ∀ R : V → Hp → Prop, R (.ref a) H → ta σ H R) (ha : SqL K H a xs) (h0 : ∀ p, H p = none → P p 0 (L2.upd H p (.lst [])))
    (hl : ∀ p i H', H p = none → i ≤ xs.length → P p i H' → SqL K H' a xs) (hw : ∀ x, wipe ((wipe σ vs).set j (some x)) vs = wipe σ vs)
    (hs : ∀ p (i : Nat) x H', H p = none → xs[i]? = some x → P p i H' → tt ((wipe σ vs).set j (some x)) H' fun b H3 => if b = true then te ((wipe σ vs).set j (some x)) H3 fun y H4 => ∃ acc, H4 p = some (.lst acc) ∧ acc.length < sizeLine ∧ P p (i + 1) (L2.upd H4 p (.lst (acc ++ [y]))) else P p (i + 1) H3)
    (hd : ∀ p H', H p = none → P p xs.length H' → Q (.ref p) H') : tLc (iList K ta) (gName j) tt te vs σ H Q := by
  refine hn _ ⟨a, rfl, ⟨xs, ha⟩, fun p hp => ?_⟩
  refine lc_list (xs := xs) (Qd := fun H' => Q (.ref p) H') (P p) (h0 p hp) (fun i H' hi q => hl p i H' hp hi q) (fun i x H' hi q => ?_) fun H' q => hd p H' hp q
  exact ⟨hw _, hs p i x H' hp hi q⟩
def bitsD (n : Int) : PyData → Bool
  | .list es => decide (n ≤ (es.length : Int)) && es.all isBlD
  | _ => false
def blsD (bs : List Bool) : PyData := .list (bs.map PyData.bool)
theorem bitsD_iff {n : Int} {e : PyData} : bitsD n e = true ↔ ∃ bs : List Bool, e = blsD bs ∧ n ≤ (bs.length : Int) := by
  constructor
  · intro h
    cases e with
    | list es =>
      have h : (decide (n ≤ (es.length : Int)) && es.all isBlD) = true := h
      rw [Bool.and_eq_true, decide_eq_true_iff] at h
      have : ∀ es : List PyData, es.all isBlD = true → ∃ bs : List Bool, es = bs.map PyData.bool := by
        intro es
        induction es with
        | nil => intro _; exact ⟨[], rfl⟩
        | cons e es ih =>
          intro h
          rw [List.all_cons, Bool.and_eq_true] at h
          obtain ⟨bs, rfl⟩ := ih h.2
          cases e with
          | bool b => exact ⟨b :: bs, rfl⟩
          | _ => cases h.1
      obtain ⟨bs, rfl⟩ := this es h.2
      exact ⟨bs, rfl, by have := h.1; rw [List.length_map] at this; exact this⟩
    | _ => cases h
  · rintro ⟨bs, rfl, h⟩
    show (decide (n ≤ ((bs.map PyData.bool).length : Int)) && (bs.map PyData.bool).all isBlD) = true
    rw [List.length_map, decide_eq_true h, Bool.true_and, List.all_eq_true]
    intro e he
    obtain ⟨b, _, rfl⟩ := List.mem_map.mp he
    rfl
theorem blsD_at {d : Addr} {H : Hp} {v : V} {bs : List Bool} (h : DAt d H v (blsD bs)) : ∃ a, v = .ref a ∧ H a = some (.lst (bls bs)) := by
  unfold blsD at h
  cases h with
  | lst hd h hs =>
    rename_i a xs
    refine ⟨a, rfl, ?_⟩
    have : ∀ {bs : List Bool} {xs : List V}, DAts d H xs (bs.map PyData.bool) → xs = bls bs := by
      intro bs
      induction bs with
      | nil => intro xs h; cases h; rfl
      | cons b bs ih =>
        intro xs h
        cases h with
        | cons h hs =>
          cases h
          rw [ih hs]
          rfl
    rw [h, this hs]
end Br

/-! ### words as data, and what they do -/
namespace Br
open PySem PySem.Spec PyProof.Rows L2
theorem cutV_to {xs : List V} {k : Nat} (h : k ≤ xs.length) : cutV xs none (some (k : Int)) = xs.take k := by
  unfold cutV
  rw [HT.sIx_none, HT.sIx_nat, Nat.min_eq_left h, List.drop_zero, Nat.sub_zero]
theorem cutV_from {xs : List V} {k : Nat} (h : k ≤ xs.length) : cutV xs (some (k : Int)) none = xs.drop k := by
  unfold cutV
  rw [HT.sIx_none, HT.sIx_nat, Nat.min_eq_left h]
  exact List.take_of_length_le (by rw [List.length_drop]; exact Nat.le_refl _)
/-! slices -/
section
variable {σ : L2.St} {H : Hp} {Q : VK} {R : Option Int → Hp → Prop}
theorem x_gTup3 {K : PySem.W.Frag} {σ : L2.St} {H : Hp} {p : Addr} {x y z : V} {i j k : Nat} {R : L2.St → Hp → Prop} (hp : SqT K H p [x, y, z]) (h : R (((σ.set i (some x)).set j (some y)).set k (some z)) H) : gTup K 3 (gCons (gName i) (gCons (gName j) (gCons (gName k) gNil))) (.ref p) σ H R :=
  ⟨p, [x, y, z], rfl, hp, rfl, x, [y, z], rfl, y, [z], rfl, z, [], rfl, rfl, h⟩
end
structure PmOk (p : List Nat) : Prop where
  len : p.length = 5
  lt : ∀ x, x ∈ p → x < 5
  nd : p.Nodup
abbrev Tr := Nat × List Nat × List Nat
def TrOk (t : Tr) : Prop := t.1 < 60 ∧ PmOk t.2.1 ∧ PmOk t.2.2
def pmD (p : List Nat) : PyData := .tuple (p.map fun (c : Nat) => PyData.int (c : Int))
def trD (t : Tr) : PyData := .tuple [.int (t.1 : Int), pmD t.2.1, pmD t.2.2]
def TrAt (H : Hp) (a : Addr) (t : Tr) : Prop := ∃ z o : Addr, H a = some (.tup [.int (t.1 : Int), .ref z, .ref o]) ∧ H z = some (.tup (cInts t.2.1)) ∧ H o = some (.tup (cInts t.2.2))
theorem TrAt.tups {H H' : Hp} {a : Addr} {t : Tr} (h : TrAt H a t) (k : ∀ b xs, H b = some (.tup xs) → H' b = some (.tup xs)) : TrAt H' a t := by
  obtain ⟨z, o, h1, h2, h3⟩ := h
  exact ⟨z, o, k _ _ h1, k _ _ h2, k _ _ h3⟩
theorem TrAt.dat {d a : Addr} {H : Hp} {t : Tr} (h : TrAt H a t) : DAt d H (.ref a) (trD t) := by
  obtain ⟨z, o, h1, h2, h3⟩ := h
  exact .tup h1 (.cons (.int _) (.cons (.tup h2 cInts_at) (.cons (.tup h3 cInts_at) .nil)))
/-- back from data -/
theorem cInts_of {d : Addr} {H : Hp} : ∀ {xs : List V} {cs : List Nat}, DAts d H xs (cs.map fun (c : Nat) => PyData.int (c : Int)) → xs = cInts cs
  | [], [], _ => rfl
  | v :: xs, c :: cs, h => by
    cases h with
    | cons h hs =>
      cases h
      rw [cInts_of hs]
      rfl
  | [], _ :: _, h => by cases h
  | _ :: _, [], h => by cases h
theorem pmD_at {d : Addr} {H : Hp} {v : V} {p : List Nat} (h : DAt d H v (pmD p)) : ∃ z, v = .ref z ∧ H z = some (.tup (cInts p)) := by
  unfold pmD at h
  cases h with
  | tup h hs =>
    rename_i a xs
    refine ⟨a, rfl, ?_⟩
    rw [h, cInts_of hs]
theorem trD_at {d : Addr} {H : Hp} {v : V} {t : Tr} (h : DAt d H v (trD t)) : ∃ a, v = .ref a ∧ TrAt H a t := by
  unfold trD at h
  cases h with
  | tup h hs =>
    rename_i a xs
    cases hs with
    | cons h1 hs =>
      cases h1
      cases hs with
      | cons h2 hs =>
        cases hs with
        | cons h3 hs =>
          cases hs
          obtain ⟨z, rfl, e2⟩ := pmD_at h2
          obtain ⟨o, rfl, e3⟩ := pmD_at h3
          exact ⟨a, rfl, z, o, h, e2, e3⟩
/-- the checks -/
def intD : PyData → Int
  | .int i => i
  | _ => 0
def permD : PyData → Bool
  | .tuple es => decide (es.length = 5) && (es.all (isBD 5) && decide (es.map intD).Nodup)
  | _ => false
def tripD : PyData → Bool
  | .tuple [k, z, o] => isBD 60 k && (permD z && permD o)
  | _ => false
def wordD : PyData → Bool
  | .list es => decide (es.length ≤ 20000) && es.all tripD
  | _ => false
theorem ints_nat : ∀ {es : List PyData} {b : Nat}, es.all (isBD (b : Int)) = true → ∃ cs : List Nat, es = cs.map (fun (c : Nat) => PyData.int (c : Int)) ∧ ∀ c, c ∈ cs → c < b
  | [], _, _ => ⟨[], rfl, fun c h => by simp at h⟩
  | e :: es, b, h => by
    rw [List.all_cons, Bool.and_eq_true] at h
    obtain ⟨i, rfl, i0, i1⟩ := isBD_iff.mp h.1
    obtain ⟨cs, rfl, hc⟩ := ints_nat h.2
    refine ⟨i.toNat :: cs, ?_, fun c hc' => ?_⟩
    · rw [List.map_cons]
      congr 2
      omega
    · rcases List.mem_cons.mp hc' with rfl | hc'
      · omega
      · exact hc c hc'
theorem map_intD {cs : List Nat} : (cs.map fun (c : Nat) => PyData.int (c : Int)).map intD = cs.map fun (c : Nat) => (c : Int) := by rw [List.map_map]; rfl
theorem nodup_cast {cs : List Nat} : (cs.map fun (c : Nat) => (c : Int)).Nodup ↔ cs.Nodup := by
  unfold List.Nodup
  rw [List.pairwise_map]
  exact ⟨fun h => h.imp fun hh e => hh (by rw [e]), fun h => h.imp fun hh e => hh (Int.ofNat.inj e)⟩
theorem permD_iff {e : PyData} : permD e = true ↔ ∃ p, e = pmD p ∧ PmOk p := by
  constructor
  · intro h
    cases e with
    | tuple es =>
      have h : (decide (es.length = 5) && (es.all (isBD 5) && decide (es.map intD).Nodup)) = true := h
      rw [Bool.and_eq_true, Bool.and_eq_true (es.all _), decide_eq_true_iff, decide_eq_true_iff] at h
      obtain ⟨h1, h2, h3⟩ := h
      obtain ⟨cs, rfl, hc⟩ := ints_nat (b := 5) h2
      rw [map_intD, nodup_cast] at h3
      exact ⟨cs, rfl, by rw [List.length_map] at h1; exact h1, hc, h3⟩
    | _ => cases h
  · rintro ⟨p, rfl, h⟩
    show (decide ((p.map _).length = 5) && ((p.map _).all (isBD 5) && decide ((p.map _).map intD).Nodup)) = true
    rw [map_intD, List.length_map, decide_eq_true h.len, decide_eq_true (nodup_cast.mpr h.nd), Bool.and_true, Bool.true_and, List.all_eq_true]
    intro x hx
    obtain ⟨c, hc, rfl⟩ := List.mem_map.mp hx
    exact isBD_iff.mpr ⟨_, rfl, by omega, by have := h.lt c hc; omega⟩
theorem tripD_iff {e : PyData} : tripD e = true ↔ ∃ t, e = trD t ∧ TrOk t := by
  constructor
  · intro h
    match e, h with
    | .tuple [k, z, o], h =>
      have h : (isBD 60 k && (permD z && permD o)) = true := h
      rw [Bool.and_eq_true, Bool.and_eq_true (permD z)] at h
      obtain ⟨i, rfl, i0, i1⟩ := isBD_iff.mp h.1
      obtain ⟨p, rfl, hp⟩ := permD_iff.mp h.2.1
      obtain ⟨p2, rfl, hp2⟩ := permD_iff.mp h.2.2
      refine ⟨(i.toNat, p, p2), ?_, by show i.toNat < 60; omega, hp, hp2⟩
      show PyData.tuple _ = .tuple [.int ((i.toNat : Nat) : Int), _, _]
      rw [show ((i.toNat : Nat) : Int) = i by omega]
  · rintro ⟨t, rfl, h1, h2, h3⟩
    show (isBD 60 (.int (t.1 : Int)) && (permD (pmD t.2.1) && permD (pmD t.2.2))) = true
    rw [isBD_iff.mpr ⟨_, rfl, by omega, by omega⟩, permD_iff.mpr ⟨_, rfl, h2⟩, permD_iff.mpr ⟨_, rfl, h3⟩]
    rfl
theorem trips_of : ∀ {es : List PyData}, es.all tripD = true → ∃ ws : List Tr, es = ws.map trD ∧ ∀ t, t ∈ ws → TrOk t
  | [], _ => ⟨[], rfl, fun t h => by simp at h⟩
  | e :: es, h => by
    rw [List.all_cons, Bool.and_eq_true] at h
    obtain ⟨t, rfl, ht⟩ := tripD_iff.mp h.1
    obtain ⟨ws, rfl, hw⟩ := trips_of h.2
    refine ⟨t :: ws, rfl, fun x hx => ?_⟩
    rcases List.mem_cons.mp hx with rfl | hx
    · exact ht
    · exact hw x hx
theorem wordD_iff {e : PyData} : wordD e = true ↔ ∃ ws : List Tr, e = .list (ws.map trD) ∧ ws.length ≤ 20000 ∧ ∀ t, t ∈ ws → TrOk t := by
  constructor
  · intro h
    cases e with
    | list es =>
      have h : (decide (es.length ≤ 20000) && es.all tripD) = true := h
      rw [Bool.and_eq_true, decide_eq_true_iff] at h
      obtain ⟨ws, rfl, hw⟩ := trips_of h.2
      exact ⟨ws, rfl, by have := h.1; rw [List.length_map] at this; exact this, hw⟩
    | _ => cases h
  · rintro ⟨ws, rfl, hl, hw⟩
    show (decide ((ws.map trD).length ≤ 20000) && (ws.map trD).all tripD) = true
    rw [List.length_map, decide_eq_true hl, Bool.true_and, List.all_eq_true]
    intro x hx
    obtain ⟨t, ht, rfl⟩ := List.mem_map.mp hx
    exact tripD_iff.mpr ⟨t, rfl, hw t ht⟩
/-- what a word does -/
def stepW (bs : List Bool) (p : Nat) (t : Tr) : Nat := (if bs.getD t.1 false then t.2.2 else t.2.1).getD p 0
def effF (ws : List Tr) (bs : List Bool) (p : Nat) : Nat := ws.foldl (stepW bs) p
theorem effF_snoc {ws : List Tr} {t : Tr} {bs : List Bool} {p : Nat} : effF (ws ++ [t]) bs p = stepW bs (effF ws bs p) t := by
  unfold effF
  rw [List.foldl_append]
  rfl
theorem pm_get {p : List Nat} (h : PmOk p) {i : Nat} (hi : i < 5) : p[i]? = some (p.getD i 0) ∧ p.getD i 0 < 5 := by
  have hl : i < p.length := by rw [h.len]; exact hi
  have e : p.getD i 0 = p[i] := by rw [List.getD_eq_getElem?_getD, List.getElem?_eq_getElem hl]; rfl
  rw [e]
  exact ⟨List.getElem?_eq_getElem hl, h.lt _ (List.getElem_mem hl)⟩
theorem effF_lt {bs : List Bool} : ∀ {ws : List Tr} {p : Nat}, (∀ t, t ∈ ws → TrOk t) → p < 5 → effF ws bs p < 5
  | [], _, _, hp => hp
  | t :: ws, p, h, hp => by
    have ht := h t List.mem_cons_self
    refine effF_lt (p := stepW bs p t) (fun x hx => h x (List.mem_cons_of_mem _ hx)) ?_
    unfold stepW
    split
    · exact (pm_get ht.2.2 hp).2
    · exact (pm_get ht.2.1 hp).2
/-- the bits that a word needs -/
def needW (ws : List Tr) : Nat := (ws.map fun t => t.1 + 1).foldr max 0
theorem needW_le {ws : List Tr} {t : Tr} (h : t ∈ ws) : t.1 + 1 ≤ needW ws := (foldr_max (cs := ws.map fun t => t.1 + 1) (t := 0)).2.1 _ (List.mem_map.mpr ⟨t, h, rfl⟩)
theorem needW_max {ws : List Tr} {m : Int} (h : (ws = [] ∧ m = 0) ∨ (m ∈ ws.map (fun t => ((t.1 : Int) + 1)) ∧ ∀ y, y ∈ ws.map (fun t => ((t.1 : Int) + 1)) → y ≤ m)) : m = (needW ws : Nat) := by
  rcases h with ⟨rfl, rfl⟩ | ⟨h1, h2⟩
  · rfl
  · obtain ⟨t, ht, rfl⟩ := List.mem_map.mp h1
    have k1 := needW_le ht
    have k2 : (needW ws : Int) ≤ (t.1 : Int) + 1 := by
      rcases (foldr_max (cs := ws.map fun t => t.1 + 1) (t := 0)).2.2 with e | e
      · have : needW ws = 0 := e
        omega
      · obtain ⟨u, hu, e⟩ := List.mem_map.mp e
        have := h2 _ (List.mem_map.mpr ⟨u, hu, rfl⟩)
        have e : u.1 + 1 = needW ws := e
        omega
    omega
theorem needW_60 {ws : List Tr} (h : ∀ t, t ∈ ws → TrOk t) : needW ws ≤ 60 := by
  rcases (foldr_max (cs := ws.map fun t => t.1 + 1) (t := 0)).2.2 with e | e
  · have : needW ws = 0 := e
    omega
  · obtain ⟨u, hu, e⟩ := List.mem_map.mp e
    have := (h u hu).1
    have e : u.1 + 1 = needW ws := e
    omega
end Br

/-! ### exceptions of the program: what a suite asks of the one it holds -/
namespace Br
open PySem PySem.Spec PyProof.Rows L2
theorem kit_ref {K : PySem.W.Frag} {D Y : Addr} {b : Bool} (hd : PySem.W.hasDictIn K Y = true) (ht : PySem.W.typeIn K (.ref Y) = some (.type "type")) (h : PySem.W.subIn K (.ref D) (.ref Y) = some b) (hs : PySem.W.subIn K (.ref Y) (.ref Y) = some true) : PySem.W.kitOne K (.ref D) (.ref Y) = some b := by
  unfold PySem.W.kitOne
  by_cases e : D = Y
  · subst e
    rw [h] at hs
    cases hs
    rw [if_pos (by simp)]
  · have hne : ((Value.ref D : Value) == Value.ref Y) = false := by
      rw [beq_eq_false_iff_ne]
      intro z
      cases z
      exact e rfl
    rw [hne, if_neg Bool.false_ne_true]
    obtain ⟨cd, hc, _⟩ := PySem.W.any_some hd
    have e2 : ((PySem.W.clsIn K Y).isSome && PySem.W.typeIn K (.ref Y) == some (.type "type")) = true := by rw [hc, ht]; rfl
    show (if ((PySem.W.clsIn K Y).isSome && PySem.W.typeIn K (.ref Y) == some (.type "type")) = true then PySem.W.subIn K (.ref D) (.ref Y) else none) = some b
    rw [if_pos e2]
    exact h
/-- isinstance(e, c), e what the suite holds, of whatever class -/
def rIsEQ (K : PySem.W.Frag) (a : Addr) (cls : Value) (d : Option Addr) : List V → Hp → VK → Prop := fun xs H Q => ∃ (D : Addr) (C : Addr) (b : Bool), cls = .ref D ∧ d = none ∧ ExcC K D ∧ xs = [.ref a, .ref C] ∧ PySem.W.kitOne K (.ref D) (.ref C) = some b ∧ Q (.bl b) H
theorem call_isEQ {X : Cx} {a : Addr} {oe : Obj} {cls : Value} {d : Option Addr} {pn : List (Addr × Obj)} {K : PySem.W.Frag} (hK : X.K = K) (hz : Zc cls d oe) (hf : ∃ vs, oe.data = .fields vs) : CallR (X.suite a ((a, oe) :: pn)) (.builtin "isinstance") (rIsEQ K a cls d) := by
  subst hK
  intro pins s σ H xs us Q I r h
  obtain ⟨D, C, b, rfl, rfl, hC, rfl, hk, q⟩ := h
  exact call_isE hC hz hf pins s σ H _ us Q I r ⟨.ref C, .ref C, b, rfl, fun u hu => hu, hk, q⟩
section
variable {σ : L2.St} {H : Hp} {D : Ends}
theorem x_callS {sp : Sp} {E : L2.St → XK} {t : TA} {Q : VK} (h : t σ H fun vs H1 => sp vs H1 Q (E σ)) : tCallS sp E t σ H Q := h
end
/-- a method's call within a try: what it raises is wished for at the slots as they stand -/
def tMethX (C : Addr) (m : Str) (sp : Sp) (E : L2.St → XK) (ta : TE) (t : TA) : TE := fun σ H Q => ta σ H fun x H1 => ∃ a dx fs, x = .ref a ∧ H1 a = some (.ins C dx fs) ∧ fs.lookup m = none ∧ t σ H1 fun vs H2 => sp (x :: vs) H2 Q (E σ)
theorem pe_methX {X : Cx} {CX : CXT} {k : Nat} {f C : Addr} {fd : FuncData} {ps : List Str} {sp : Sp} {E : L2.St → XK} {m : Str} {pos apos : Pos} {e o : Expr} {es : List Expr} {ta : TE} {t : TA} {pl : Sem Bool} (he : PE X o ta) (c : Cls X.K C) (hm : Meth X.K C m f)
    (F : FnOk X.prog X.w X.K X.mg X.base CX k f fd ps sp) (hr : Room k X.A) (hb : Binds X.K fd ps []) (hx : ∀ σ, PassesAt CX X σ (E σ)) (ha : PA X (e :: es) t)
    (hst : starEach (e :: es) X.env = (false, eval e X.env) :: starEach es X.env := by rfl) (hpl : (backTo pos (starEach es X.env)).any (·.1) = false := by rfl)
    (ht : eval (.Call (.Attribute o m apos) (e :: es) [] pos) X.env = (do
      let ov ← eval o X.env
      standAt apos.atName
      let (f, first) ← holding [ov] (getMethod ov m pl)
      callWith pos f first (backTo pos (starEach (e :: es) X.env)) (backToKw pos (keywordEach [] X.env))) := by rfl) :
    PE X (.Call (.Attribute o m apos) (e :: es) [] pos) (tMethX C m sp E ta t) := by
  refine ⟨fun pins s σ H Q I h => ?_⟩
  refine PySem.W.methodCall_KW (pl := pl) (thn (he.run pins s σ H _ I h) fun u s1 ⟨x, H1, I1, rx, a, dx, fs, ex, ea, l, q⟩ => ?_) ht
  subst ex
  obtain rfl : u = Value.ref a := rx
  refine getmeth_ok I1 ea c hm l ?_
  refine PySem.W.callWith_K (first := [.ref a]) (h₀ := X.base) I.ok.mod.kin hm.kp (thn (ha.run pos pins s1 σ H1 _ I1 q) fun us s2 ⟨vs, H2, I2, r, q2⟩ => ⟨I2.kIn, ?_⟩) hst hpl
  exact run_fnS (us := .ref a :: us) (vs := .ref a :: vs) F hr hb (hx σ) I2 (.cons rfl r) q2
theorem x_methX {C : Addr} {m : Str} {sp : Sp} {E : L2.St → XK} {ta : TE} {t : TA} {σ : L2.St} {H : Hp} {Q : VK} (h : ta σ H fun x H1 => ∃ a dx fs, x = .ref a ∧ H1 a = some (.ins C dx fs) ∧ fs.lookup m = none ∧ t σ H1 fun vs H2 => sp (x :: vs) H2 Q (E σ)) : tMethX C m sp E ta t σ H Q := h
/-! texts with numbers -/
theorem x_fmt {te : TE} {σ : L2.St} {H : Hp} {Q : VK} (h : te σ H fun x H1 => (∃ y : Str, x = .str y ∧ y.length ≤ sizeLine ∧ Q (.str y) H1) ∨ ∃ i : Int, x = .int i ∧ i.natAbs.log2 < 1920 ∧ Q (.str (toString i)) H1) : tFmt te σ H Q := h
theorem len_nat {n : Nat} (h : n < 10 ^ 10) : (Str.ofString (toString (n : Int))).length ≤ 10 := toString_length_le (Int.natCast_nonneg n) (by decide) (by exact_mod_cast h)
theorem log_nat {n : Nat} (h : n < 2 ^ 64) : ((n : Int)).natAbs.log2 < 1920 := by
  rw [Int.natAbs_natCast]
  by_cases h0 : n = 0
  · subst h0; decide
  · have := (Nat.log2_lt h0).mpr h
    omega
end Br
/-! isinstance(e, (C1, C2, ..)), e what the suite holds -/
namespace Br
open PySem PySem.Spec PyProof.Rows L2
def rIsEQT (K : PySem.W.Frag) (a : Addr) (cls : Value) (d : Option Addr) : List V → Hp → VK → Prop := fun xs H Q => ∃ (D tp : Addr) (cs : List V) (us : List Value) (b : Bool), cls = .ref D ∧ d = none ∧ ExcC K D ∧ xs = [.ref a, .ref tp] ∧ H tp = some (.tup cs) ∧ Paired ClsV cs us ∧ PySem.W.kitAny K (.ref D) us = some b ∧ Q (.bl b) H
theorem call_isEQT {X : Cx} {a : Addr} {oe : Obj} {cls : Value} {d : Option Addr} {pn : List (Addr × Obj)} {K : PySem.W.Frag} (hK : X.K = K) (hz : Zc cls d oe) (hf : ∃ vs, oe.data = .fields vs) : CallR (X.suite a ((a, oe) :: pn)) (.builtin "isinstance") (rIsEQT K a cls d) := by
  subst hK
  intro pins s σ H xs us Q I r h
  obtain ⟨D, tp, cs, ws, b, rfl, rfl, C, rfl, hT, k, e, q⟩ := h
  obtain ⟨u1, u2, rfl, rx, rt⟩ := vals2 r
  cases (show u2 = Value.ref tp from rt)
  cases (show u1 = Value.ref a from rx)
  obtain ⟨hget, _⟩ := I.pin (a, oe) (List.mem_append.mpr (.inl List.mem_cons_self))
  obtain ⟨vs, hv⟩ := hf
  have J : PySem.W.InstAt s.heap a oe D none := by
    obtain ⟨oc, od, oda, osl⟩ := oe
    obtain ⟨h1, h2⟩ := hz
    dsimp only at h1 h2 hv
    subst h1 h2 hv
    exact ⟨hget, rfl, rfl, trivial⟩
  obtain ⟨_, its, rv, o, h1, h2, n, h3⟩ := (show ObjOk _ _ H s.heap tp (.tup cs) from I.hok tp _ hT)
  have e3 := ClsV.all k rv
  subst e3
  obtain ⟨oc, od, dt, sl⟩ := o
  simp only at h2 h3
  subst h2 h3
  exact PySem.W.kia_tup (PySem.W.handS_kitx_exc C.hg C.hk C.hs C.hd C.ha C.hn C.ht C.hm) I.kIn J h1 e (fun z => nomatch z) fun tk => ⟨.bl b, H, I.kept (t' := tk) fun _ _ z => z, rfl, q⟩
end Br
namespace Br
open PySem PySem.Spec PyProof.Rows L2
/-! isinstance(e, ValueError), e what the suite holds -/
def rIsEV (K : PySem.W.Frag) (a : Addr) (cls : Value) (d : Option Addr) : List V → Hp → VK → Prop := fun xs H Q => ∃ (D : Addr) (T : String) (b : Bool), cls = .ref D ∧ d = none ∧ ExcC K D ∧ xs = [.ref a, .ty T] ∧ PySem.W.kitOne K (.ref D) (.type T) = some b ∧ Q (.bl b) H
theorem call_isEV {X : Cx} {a : Addr} {oe : Obj} {cls : Value} {d : Option Addr} {pn : List (Addr × Obj)} {K : PySem.W.Frag} (hK : X.K = K) (hz : Zc cls d oe) (hf : ∃ vs, oe.data = .fields vs) : CallR (X.suite a ((a, oe) :: pn)) (.builtin "isinstance") (rIsEV K a cls d) := by
  subst hK
  intro pins s σ H xs us Q I r h
  obtain ⟨D, T, b, rfl, rfl, hC, rfl, hk, q⟩ := h
  exact call_isE hC hz hf pins s σ H _ us Q I r ⟨.ty T, .type T, b, rfl, fun u hu => hu, hk, q⟩
theorem kit_val {K : PySem.W.Frag} {D : Addr} (h : PySem.W.subIn K (.ref D) (.type "ValueError") = some true) : PySem.W.kitOne K (.ref D) (.type "ValueError") = some true := by
  unfold PySem.W.kitOne
  rw [if_neg (by rw [show ((Value.ref D : Value) == Value.type "ValueError") = false from rfl]; decide)]
  show (if PySem.W.kitMeta "ValueError" = true then PySem.W.subIn K (.ref D) (.type "ValueError") else none) = some true
  rw [if_pos (by decide +kernel)]
  exact h
end Br

/-! ### data: changes elsewhere, changes of an item -/
namespace Br
open PySem PySem.Spec PyProof.Rows L2
section
variable {d c : Addr} {H H' : Hp}
mutual
theorem DAt.keep2 (hc : ∃ ys, H c = some (.lst ys)) (k : Keep c H H') : ∀ (e : PyData) {v : V}, DAt c H v e → DAt d H v e → DAt d H' v e
  | .none, _, _, h => by cases h; exact .non
  | .bool b, _, _, h => by cases h; exact .bl b
  | .int i, _, _, h => by cases h; exact .int i
  | .str x, _, _, h => by cases h; exact .str x
  | .list ds, _, h1, h => by
    cases h1 with
    | lst hn1 h1 hs1 =>
      cases h with
      | lst hn h hs =>
        rw [h] at h1
        cases h1
        exact .lst hn (k _ _ h hn1) (DAts.keep2 hc k ds hs1 hs)
  | .tuple ds, _, h1, h => by
    obtain ⟨ys, hc'⟩ := id hc
    cases h1 with
    | tup h1 hs1 =>
      cases h with
      | tup h hs =>
        rw [h] at h1
        cases h1
        exact .tup (k _ _ h (ne_of h hc' (by intro z; cases z))) (DAts.keep2 hc k ds hs1 hs)
  | .dict _, _, _, h => by cases h
theorem DAts.keep2 (hc : ∃ ys, H c = some (.lst ys)) (k : Keep c H H') : ∀ (es : List PyData) {vs : List V}, DAts c H vs es → DAts d H vs es → DAts d H' vs es
  | [], _, _, h => by cases h; exact .nil
  | e :: es, _, h1, h => by
    cases h1 with
    | cons h1 hs1 =>
      cases h with
      | cons h hs => exact .cons (DAt.keep2 hc k e h1 h) (DAts.keep2 hc k es hs1 hs)
end
theorem DAts.set : ∀ {xs : List V} {es : List PyData} {i : Nat} {v : V} {e : PyData}, DAts d H xs es → DAt d H v e → DAts d H (xs.set i v) (es.set i e)
  | [], _, _, _, _, h, _ => by cases h; exact .nil
  | x :: xs, _, i, v, e, h, h1 => by
    cases h with
    | cons h hs =>
      cases i with
      | zero => exact .cons h1 hs
      | succ i => exact .cons h (hs.set h1)
theorem DAts.take : ∀ {xs : List V} {es : List PyData} {n : Nat}, DAts d H xs es → DAts d H (xs.take n) (es.take n)
  | [], _, n, h => by cases h; cases n <;> exact .nil
  | x :: xs, _, 0, h => by cases h; exact .nil
  | x :: xs, _, n + 1, h => by
    cases h with
    | cons h hs => exact .cons h hs.take
theorem DAts.drop : ∀ {xs : List V} {es : List PyData} {n : Nat}, DAts d H xs es → DAts d H (xs.drop n) (es.drop n)
  | [], _, n, h => by cases h; cases n <;> exact .nil
  | x :: xs, _, 0, h => h
  | x :: xs, _, n + 1, h => by
    cases h with
    | cons h hs => exact hs.drop
/-- a value that needs no object -/
def FlatD (v : V) (e : PyData) : Prop := ∀ d H, DAt d H v e
/-- data apart from every list that stood before -/
def DNew (H0 H : Hp) (v : V) (e : PyData) : Prop := ∀ p, H0 p ≠ none → DAt p H v e
theorem FlatD.new {H0 H : Hp} {v : V} {e : PyData} (h : FlatD v e) : DNew H0 H v e := fun p _ => h p H
end
theorem x_andP {t u : TT} {σ : L2.St} {H : Hp} {QT : Bool → Hp → Prop} (b1 b2 : Bool) (h1 : ∀ R : Bool → Hp → Prop, R b1 H → t σ H R) (h2 : b1 = true → ∀ R : Bool → Hp → Prop, R b2 H → u σ H R) (h : QT (b1 && b2) H) : tAnd t u σ H QT := by
  refine h1 _ ?_
  cases b1 with
  | true => exact iteT (h2 rfl _ h)
  | false => exact iteF h
theorem x_orI {u : TT} {σ : L2.St} {H : Hp} {QT : Bool → Hp → Prop} {b1 : Bool} (b2 : Bool) (h2 : b1 = false → ∀ R : Bool → Hp → Prop, R b2 H → u σ H R) (h : QT (b1 || b2) H) : if b1 = true then QT true H else u σ H QT := by
  cases b1 with
  | true => exact iteT h
  | false => exact iteF (h2 rfl _ h)
theorem x_andI {u : TT} {σ : L2.St} {H : Hp} {QT : Bool → Hp → Prop} {b1 : Bool} (b2 : Bool) (h2 : b1 = true → ∀ R : Bool → Hp → Prop, R b2 H → u σ H R) (h : QT (b1 && b2) H) : if b1 = true then u σ H QT else QT false H := by
  cases b1 with
  | true => exact iteT (h2 rfl _ h)
  | false => exact iteF h
end Br

/-! ### what is a list of gates, read back -/
namespace Br
open PySem PySem.Spec PyProof.Rows L2
theorem risF_nat : ∀ {es : List PyData} {l : Int}, -1 ≤ l → risF l es = true → ∃ cs : List Nat, es = cs.map (fun (c : Nat) => PyData.int (c : Int)) ∧ cs.Pairwise (· < ·) ∧ ∀ c, c ∈ cs → c < 120 ∧ l < (c : Int)
  | [], _, _, _ => ⟨[], rfl, .nil, fun c h => by simp at h⟩
  | .int i :: es, l, hl, hr => by
    have hr : ((decide (0 ≤ i) && decide (i < 120)) && (decide (l < i) && risF i es)) = true := hr
    rw [Bool.and_eq_true, Bool.and_eq_true (decide (l < i)), Bool.and_eq_true, decide_eq_true_iff, decide_eq_true_iff, decide_eq_true_iff] at hr
    obtain ⟨⟨h0, h1⟩, h2, h3⟩ := hr
    obtain ⟨cs, rfl, hp, hc⟩ := risF_nat (by omega) h3
    obtain ⟨c, rfl⟩ : ∃ c : Nat, i = (c : Int) := ⟨i.toNat, by omega⟩
    refine ⟨c :: cs, rfl, List.pairwise_cons.mpr ⟨fun x hx => by have := (hc x hx).2; omega, hp⟩, fun x hx => ?_⟩
    rcases List.mem_cons.mp hx with rfl | hx
    · omega
    · have := hc x hx
      omega
  | .none :: _, _, _, hr => by cases hr
  | .bool _ :: _, _, _, hr => by cases hr
  | .str _ :: _, _, _, hr => by cases hr
  | .list _ :: _, _, _, hr => by cases hr
  | .tuple _ :: _, _, _, hr => by cases hr
  | .dict _ :: _, _, _, hr => by cases hr
theorem gateD_iff {e : PyData} : gateD e = true ↔ ∃ g, e = gtD g ∧ GtOk 120 g := by
  constructor
  · intro h
    match e, h with
    | .tuple [t, .tuple es], h =>
      have h : (isBD 120 t && (risF (-1) es && !hasD t es)) = true := h
      rw [Bool.and_eq_true, Bool.and_eq_true] at h
      obtain ⟨h1, h2, h3⟩ := h
      obtain ⟨i, rfl, i0, i1⟩ := isBD_iff.mp h1
      obtain ⟨cs, rfl, hp, hc⟩ := risF_nat (by decide) h2
      obtain ⟨t, rfl⟩ : ∃ c : Nat, i = (c : Int) := ⟨i.toNat, by omega⟩
      refine ⟨(t, cs), rfl, ⟨by show t < 120; omega, fun c hc2 => (hc c hc2).1, fun hm => ?_, hp⟩⟩
      have hf : hasD (.int (t : Int)) (cs.map fun (c : Nat) => PyData.int (c : Int)) = false := by simpa using h3
      unfold hasD at hf
      rw [List.any_eq_false] at hf
      exact hf (.int (t : Int)) (List.mem_map.mpr ⟨t, hm, rfl⟩) (by show decide ((t : Int) = (t : Int)) = true; exact decide_eq_true rfl)
  · rintro ⟨g, rfl, ok⟩
    exact gateD_ok ok
theorem gatesD_iff {e : PyData} : gatesD e = true ↔ ∃ gs : List Gt, e = .list (gs.map gtD) ∧ gs.length ≤ 60000 ∧ ∀ g, g ∈ gs → GtOk 120 g := by
  constructor
  · intro h
    cases e with
    | list es =>
      have h : (decide (es.length ≤ 60000) && es.all gateD) = true := h
      rw [Bool.and_eq_true, decide_eq_true_iff] at h
      have : ∀ es : List PyData, es.all gateD = true → ∃ gs : List Gt, es = gs.map gtD ∧ ∀ g, g ∈ gs → GtOk 120 g := by
        intro es
        induction es with
        | nil => intro _; exact ⟨[], rfl, fun g h => by simp at h⟩
        | cons e es ih =>
          intro h
          rw [List.all_cons, Bool.and_eq_true] at h
          obtain ⟨gs, rfl, hg⟩ := ih h.2
          obtain ⟨g, rfl, ok⟩ := gateD_iff.mp h.1
          refine ⟨g :: gs, rfl, fun x hx => ?_⟩
          rcases List.mem_cons.mp hx with rfl | hx
          · exact ok
          · exact hg x hx
      obtain ⟨gs, rfl, hg⟩ := this es h.2
      exact ⟨gs, rfl, by have := h.1; rw [List.length_map] at this; exact this, hg⟩
    | _ => cases h
  · rintro ⟨gs, rfl, hl, ok⟩
    show (decide ((gs.map gtD).length ≤ 60000) && (gs.map gtD).all gateD) = true
    rw [List.length_map, decide_eq_true hl, Bool.true_and, List.all_eq_true]
    intro e he
    obtain ⟨g, hg, rfl⟩ := List.mem_map.mp he
    exact gateD_ok (ok g hg)
/-- the bits that gates need -/
def needG (gs : List Gt) : Nat := (gs.map topG).foldr max 0
theorem needG_max {gs : List Gt} {m : Int} (h : (gs.map fun g => ((topG g : Nat) : Int)) = [] ∧ m = 0 ∨ m ∈ (gs.map fun g => ((topG g : Nat) : Int)) ∧ ∀ y, y ∈ (gs.map fun g => ((topG g : Nat) : Int)) → y ≤ m) : m = ((needG gs : Nat) : Int) := by
  obtain ⟨f1, f2, f3⟩ := foldr_max (cs := gs.map topG) (t := 0)
  rcases h with ⟨h, rfl⟩ | ⟨h, hle⟩
  · rw [List.map_eq_nil_iff.mp h]; rfl
  · obtain ⟨g, hg, rfl⟩ := List.mem_map.mp h
    have k1 := f2 _ (List.mem_map.mpr ⟨g, hg, rfl⟩)
    have k2 : ((needG gs : Nat) : Int) ≤ ((topG g : Nat) : Int) := by
      rcases f3 with f3 | f3
      · unfold needG; rw [f3]; omega
      · obtain ⟨g2, hg2, e2⟩ := List.mem_map.mp f3
        have := hle _ (List.mem_map.mpr ⟨g2, hg2, rfl⟩)
        unfold needG
        rw [← e2]
        exact this
    have k3 : topG g ≤ needG gs := k1
    omega
theorem needG_le {gs : List Gt} {n : Nat} (h : ∀ g, g ∈ gs → GtOk n g) : needG gs ≤ n := by
  rcases (foldr_max (cs := gs.map topG) (t := 0)).2.2 with e | e
  · unfold needG; rw [e]; exact Nat.zero_le _
  · obtain ⟨g, hg, e2⟩ := List.mem_map.mp e
    unfold needG
    rw [← e2]
    exact topG_le (h g hg)
theorem needG_ge {gs : List Gt} {g : Gt} (h : g ∈ gs) : topG g ≤ needG gs := (foldr_max (cs := gs.map topG) (t := 0)).2.1 _ (List.mem_map.mpr ⟨g, h, rfl⟩)
theorem GtOk.top {n m : Nat} {g : Gt} (ok : GtOk n g) (h : topG g ≤ m) : GtOk m g := by
  obtain ⟨f1, f2, _⟩ := foldr_max (cs := g.2) (t := g.1)
  have h : g.2.foldr max g.1 + 1 ≤ m := h
  exact ⟨by omega, fun c hc => by have := f2 c hc; omega, ok.ne, ok.up⟩
theorem gtD_inj : Function.Injective gtD := fun a b hab => by
  obtain ⟨t, cs⟩ := a
  obtain ⟨u, ds⟩ := b
  have h := PyData.tuple.inj hab
  obtain ⟨h1, h2⟩ := List.cons.inj h
  have h2 := PyData.tuple.inj (List.cons.inj h2).1
  have h1 : (t : Int) = (u : Int) := PyData.int.inj h1
  have h2 : cs = ds := (List.map_inj_right (fun _ _ z => Int.ofNat.inj (PyData.int.inj z))).mp h2
  rw [h2, Int.ofNat.inj h1]
theorem gts_inj {a b : List Gt} (h : a.map gtD = b.map gtD) : a = b := (List.map_inj_right gtD_inj).mp h
theorem gtD_at {d : Addr} {H : Hp} {v : V} {g : Gt} (h : DAt d H v (gtD g)) : ∃ a, v = .ref a ∧ GtAt H a g := by
  unfold gtD at h
  cases h with
  | tup h hs =>
    rename_i a xs
    cases hs with
    | cons h1 hs =>
      cases hs with
      | cons h2 hs =>
        cases hs
        cases h1
        cases h2 with
        | tup h2 hs2 =>
          rename_i c ys
          have : ∀ {cs : List Nat} {ys : List V}, DAts d H ys (cs.map fun (c : Nat) => PyData.int (c : Int)) → ys = cInts cs := by
            intro cs
            induction cs with
            | nil => intro ys h; cases h; rfl
            | cons c cs ih =>
              intro ys h
              cases h with
              | cons h hs => cases h; rw [ih hs]; rfl
          exact ⟨a, rfl, c, h, by rw [h2, this hs2]⟩
theorem DAts.gts {d : Addr} {H : Hp} {xs : List V} {gs : List Gt} (h : DAts d H xs (gs.map gtD)) : ∃ as : List Addr, xs = as.map V.ref ∧ GtsAt H as gs := by
  induction gs generalizing xs with
  | nil => cases h; exact ⟨[], rfl, rfl, fun i x b h _ => by simp at h⟩
  | cons g gs ih =>
    cases h with
    | cons h hs =>
      obtain ⟨a, rfl, ha⟩ := gtD_at h
      obtain ⟨as, rfl, hl, hat⟩ := ih hs
      refine ⟨a :: as, rfl, congrArg (· + 1) hl, fun i x b h1 h2 => ?_⟩
      cases i with
      | zero => cases h1; cases h2; exact ha
      | succ i => exact hat i x b (by simpa using h1) (by simpa using h2)
theorem GtsAt.dats {d : Addr} {H : Hp} {as : List Addr} {gs : List Gt} (h : GtsAt H as gs) : DAts d H (as.map V.ref) (gs.map gtD) := by
  refine DAts.of (by rw [List.length_map, List.length_map, h.1]) fun i x e h1 h2 => ?_
  obtain ⟨b, hb, rfl⟩ := map_getR h1
  obtain ⟨g, hg, hat⟩ := h.get hb
  rw [List.getElem?_map, hg] at h2
  cases h2
  exact hat.dat
/-- what is no list of rising bits -/
theorem risF_bad : ∀ {es : List PyData} {l : Int} {e : PyData}, e ∈ es → isBD 120 e = false → risF l es = false
  | [], _, _, h, _ => by simp at h
  | .int i :: es, l, e, h, hb => by
    show ((decide (0 ≤ i) && decide (i < 120)) && (decide (l < i) && risF i es)) = false
    rcases List.mem_cons.mp h with rfl | h
    · rw [show (decide (0 ≤ i) && decide (i < 120)) = false from hb]; rfl
    · rw [risF_bad h hb, Bool.and_false, Bool.and_false]
  | .none :: _, _, _, _, _ => rfl
  | .bool _ :: _, _, _, _, _ => rfl
  | .str _ :: _, _, _, _, _ => rfl
  | .list _ :: _, _, _, _, _ => rfl
  | .tuple _ :: _, _, _, _, _ => rfl
  | .dict _ :: _, _, _, _, _ => rfl
theorem risF_two : ∀ {xs ys : List PyData} {l a b : Int}, b ≤ a → risF l (xs ++ .int a :: .int b :: ys) = false
  | [], ys, l, a, b, h => by
    show ((decide (0 ≤ a) && decide (a < 120)) && (decide (l < a) && ((decide (0 ≤ b) && decide (b < 120)) && (decide (a < b) && risF b ys)))) = false
    rw [decide_eq_false (show ¬ a < b by omega), Bool.false_and, Bool.and_false, Bool.and_false, Bool.and_false]
  | .int i :: xs, ys, l, a, b, h => by
    show ((decide (0 ≤ i) && decide (i < 120)) && (decide (l < i) && risF i (xs ++ .int a :: .int b :: ys))) = false
    rw [risF_two h, Bool.and_false, Bool.and_false]
  | .none :: _, _, _, _, _, _ => rfl
  | .bool _ :: _, _, _, _, _, _ => rfl
  | .str _ :: _, _, _, _, _, _ => rfl
  | .list _ :: _, _, _, _, _, _ => rfl
  | .tuple _ :: _, _, _, _, _, _ => rfl
  | .dict _ :: _, _, _, _, _, _ => rfl
theorem gateD_ris {t : PyData} {es : List PyData} (h : risF (-1) es = false) : gateD (.tuple [t, .tuple es]) = false := by
  show (isBD 120 t && (risF (-1) es && _)) = false
  rw [h, Bool.false_and, Bool.and_false]
theorem gateD_tgt {t c : PyData} (h : isBD 120 t = false) : gateD (.tuple [t, c]) = false := by
  cases c with
  | tuple es =>
    show (isBD 120 t && _) = false
    rw [h, Bool.false_and]
  | _ => rfl
theorem gateD_has {t : Int} {es : List PyData} (h : PyData.int t ∈ es) : gateD (.tuple [.int t, .tuple es]) = false := by
  show (isBD 120 (.int t) && (risF (-1) es && !hasD (.int t) es)) = false
  have : hasD (.int t) es = true := by
    unfold hasD
    rw [List.any_eq_true]
    exact ⟨_, h, decide_eq_true rfl⟩
  rw [this, Bool.not_true, Bool.and_false, Bool.and_false]
theorem mem_setI {α : Type} {xs : List α} {i : Nat} {e : α} (h : i < xs.length) : e ∈ xs.set i e := List.mem_of_getElem? (List.getElem?_set_self h)
theorem gatesD_set {gs : List Gt} {i : Nat} {e : PyData} (hi : i < gs.length) (h : gateD e = false) : gatesD (.list ((gs.map gtD).set i e)) = false := by
  show (decide _ && ((gs.map gtD).set i e).all gateD) = false
  have : ((gs.map gtD).set i e).all gateD = false := List.all_eq_false.mpr ⟨e, mem_setI (by rw [List.length_map]; exact hi), by rw [h]; decide⟩
  rw [this, Bool.and_false]
theorem bitsD_set {bs : List Bool} {i : Nat} {e : PyData} {n : Int} (hi : i < bs.length) (h : isBlD e = false) : bitsD n (.list ((bs.map PyData.bool).set i e)) = false := by
  show (decide _ && ((bs.map PyData.bool).set i e).all isBlD) = false
  have : ((bs.map PyData.bool).set i e).all isBlD = false := List.all_eq_false.mpr ⟨e, mem_setI (by rw [List.length_map]; exact hi), by rw [h]; decide⟩
  rw [this, Bool.and_false]
theorem bitsD_short {bs : List Bool} {n : Int} (h : (bs.length : Int) < n) : bitsD n (blsD bs) = false := by
  show (decide (n ≤ ((bs.map PyData.bool).length : Int)) && _) = false
  rw [List.length_map, decide_eq_false (by omega), Bool.false_and]
end Br

/-! ### gates that are spread -/
namespace Br
open PySem PySem.Spec PyProof.Rows L2
theorem atI_back {α : Type} {xs : List α} {j : Nat} {v : α} (hj : j < xs.length) (h : xs[xs.length - 1 - j]? = some v) : atI xs (-1 - (j : Int)) = some v := by
  unfold atI ixN
  rw [if_neg (by omega), if_pos (by omega)]
  show xs[(-1 - (j : Int) + (xs.length : Int)).toNat]? = some v
  rw [show (-1 - (j : Int) + (xs.length : Int)).toNat = xs.length - 1 - j by omega]
  exact h
theorem atI_m1 {α : Type} {xs : List α} {v : α} (hj : 0 < xs.length) (h : xs[xs.length - 1]? = some v) : atI xs (-1) = some v := atI_back (j := 0) hj h
def two (t a b : Nat) : Gt := (t, if a < b then [a, b] else [b, a])
/-- what the borrowed bits must be -/
def borD (ns : List Int) (n : Int) : PyData → Bool
  | .list es => decide ((es.length : Int) = n) && (es.all (isBD 120) && decide ((ns ++ es.map intD).Nodup))
  | _ => false
def natsD (cs : List Nat) : List PyData := cs.map fun (c : Nat) => PyData.int (c : Int)
theorem natsD_of : ∀ {es : List PyData}, es.all (isBD 120) = true → ∃ bs : List Nat, es = natsD bs ∧ ∀ b, b ∈ bs → b < 120
  | [], _ => ⟨[], rfl, fun b h => by simp at h⟩
  | e :: es, h => by
    rw [List.all_cons, Bool.and_eq_true] at h
    obtain ⟨i, rfl, i0, i1⟩ := isBD_iff.mp h.1
    obtain ⟨bs, rfl, hb⟩ := natsD_of h.2
    obtain ⟨b, rfl⟩ : ∃ b : Nat, i = (b : Int) := ⟨i.toNat, by omega⟩
    refine ⟨b :: bs, rfl, fun x hx => ?_⟩
    rcases List.mem_cons.mp hx with rfl | hx
    · omega
    · exact hb x hx
theorem natsD_int {bs : List Nat} : (natsD bs).map intD = bs.map fun (c : Nat) => (c : Int) := by unfold natsD; rw [List.map_map]; rfl
theorem natsD_all {bs : List Nat} (h : ∀ b, b ∈ bs → b < 120) : (natsD bs).all (isBD 120) = true := by
  rw [List.all_eq_true]
  intro e he
  obtain ⟨b, hb, rfl⟩ := List.mem_map.mp he
  have := h b hb
  exact isBD_iff.mpr ⟨_, rfl, by omega, by omega⟩
theorem nodup_nat {ns : List Nat} : (ns.map fun (c : Nat) => (c : Int)).Nodup ↔ ns.Nodup := by
  constructor
  · intro h
    exact (List.pairwise_map.mp h).imp fun h e => h (by rw [e])
  · intro h
    exact List.pairwise_map.mpr (h.imp fun h e => h (by omega))
theorem borD_iff {t n : Nat} {cs : List Nat} {e : PyData} : borD ((t : Int) :: cs.map fun (c : Nat) => (c : Int)) (n : Int) e = true ↔ ∃ bs : List Nat, e = .list (natsD bs) ∧ bs.length = n ∧ (∀ b, b ∈ bs → b < 120) ∧ (t :: cs ++ bs).Nodup := by
  constructor
  · intro h
    cases e with
    | list es =>
      have h : (decide ((es.length : Int) = n) && (es.all (isBD 120) && decide ((((t : Int) :: cs.map fun (c : Nat) => (c : Int)) ++ es.map intD).Nodup))) = true := h
      rw [Bool.and_eq_true, Bool.and_eq_true, decide_eq_true_iff, decide_eq_true_iff] at h
      obtain ⟨h1, h2, h3⟩ := h
      obtain ⟨bs, rfl, hb⟩ := natsD_of h2
      rw [natsD_int] at h3
      refine ⟨bs, rfl, by unfold natsD at h1; rw [List.length_map] at h1; omega, hb, nodup_nat.mp ?_⟩
      rw [List.map_append]
      exact h3
    | _ => cases h
  · rintro ⟨bs, rfl, hl, hb, hn⟩
    show (decide (((natsD bs).length : Int) = n) && ((natsD bs).all (isBD 120) && decide ((((t : Int) :: cs.map fun (c : Nat) => (c : Int)) ++ (natsD bs).map intD).Nodup))) = true
    rw [natsD_all hb, natsD_int, Bool.true_and]
    have h1 : (natsD bs).length = n := by unfold natsD; rw [List.length_map]; exact hl
    have h2 := nodup_nat.mpr hn
    rw [List.map_append] at h2
    have h2 : (((t : Int) :: cs.map fun (c : Nat) => (c : Int)) ++ bs.map fun (c : Nat) => (c : Int)).Nodup := h2
    rw [decide_eq_true (by omega), decide_eq_true h2]
    rfl
def turnF (t : Nat) (bs : List Nat) : List Nat := t :: bs.reverse
def downF (t : Nat) (cs bs : List Nat) : List Gt := (List.range bs.length).map fun j => two ((turnF t bs).getD j 0) ((turnF t bs).getD (j + 1) 0) (cs.getD (cs.length - 1 - j) 0)
def lastF (t : Nat) (cs bs : List Nat) : Gt := ((turnF t bs).getD bs.length 0, cs.take 2)
def spreadF (t : Nat) (cs bs : List Nat) : List Gt := if bs = [] then [(t, cs)] else downF t cs bs ++ [lastF t cs bs] ++ (downF t cs bs).reverse ++ (downF t cs bs).drop 1 ++ [lastF t cs bs] ++ ((downF t cs bs).drop 1).reverse
theorem turn_len {t : Nat} {bs : List Nat} : (turnF t bs).length = bs.length + 1 := by unfold turnF; rw [List.length_cons, List.length_reverse]
theorem down_len {t : Nat} {cs bs : List Nat} : (downF t cs bs).length = bs.length := by unfold downF; rw [List.length_map, List.length_range]
theorem down_get {t k : Nat} {cs bs : List Nat} (h : k < bs.length) : (downF t cs bs)[k]? = some (two ((turnF t bs).getD k 0) ((turnF t bs).getD (k + 1) 0) (cs.getD (cs.length - 1 - k) 0)) := by
  unfold downF
  rw [List.getElem?_map, List.getElem?_range h]
  rfl
theorem cInts_at2 {cs : List Nat} {i : Nat} (h : i < cs.length) : (cInts cs)[i]? = some (.int ((cs.getD i 0 : Nat) : Int)) := by
  unfold cInts
  rw [List.getElem?_map, List.getElem?_eq_getElem h, List.getD_eq_getElem?_getD, List.getElem?_eq_getElem h]
  rfl
theorem cInts_rev {cs : List Nat} : (cInts cs).reverse = cInts cs.reverse := by unfold cInts; rw [List.map_reverse]
theorem cInts_app {cs ds : List Nat} : cInts cs ++ cInts ds = cInts (cs ++ ds) := by unfold cInts; rw [List.map_append]
theorem cInts_take {cs : List Nat} {n : Nat} : (cInts cs).take n = cInts (cs.take n) := by unfold cInts; rw [List.map_take]
theorem GtsAt.rev {H : Hp} {as : List Addr} {gs : List Gt} (h : GtsAt H as gs) : GtsAt H as.reverse gs.reverse := by
  refine ⟨by rw [List.length_reverse, List.length_reverse, h.1], fun i x b e1 e2 => ?_⟩
  have h1 := (List.getElem?_eq_some_iff.mp e1).1
  have h2 := (List.getElem?_eq_some_iff.mp e2).1
  rw [List.length_reverse] at h1 h2
  rw [List.getElem?_reverse h1] at e1
  rw [List.getElem?_reverse h2, h.1] at e2
  exact h.2 _ x b e1 e2
theorem GtsAt.app {H : Hp} {as bs : List Addr} {gs hs : List Gt} (h : GtsAt H as gs) (h2 : GtsAt H bs hs) : GtsAt H (as ++ bs) (gs ++ hs) := by
  refine ⟨by rw [List.length_append, List.length_append, h.1, h2.1], fun i x b e1 e2 => ?_⟩
  by_cases hi : i < gs.length
  · rw [List.getElem?_append_left hi] at e1
    rw [List.getElem?_append_left (by rw [h.1]; exact hi)] at e2
    exact h.2 i x b e1 e2
  · rw [List.getElem?_append_right (by omega)] at e1
    rw [List.getElem?_append_right (by rw [h.1]; omega), h.1] at e2
    exact h2.2 _ x b e1 e2
theorem GtsAt.drop {H : Hp} {as : List Addr} {gs : List Gt} (h : GtsAt H as gs) {n : Nat} : GtsAt H (as.drop n) (gs.drop n) :=
  ⟨by rw [List.length_drop, List.length_drop, h.1], fun i x b e1 e2 => h.2 (n + i) x b (by rw [← List.getElem?_drop]; exact e1) (by rw [← List.getElem?_drop]; exact e2)⟩
theorem GtsAt.one {H : Hp} {a : Addr} {g : Gt} (h : GtAt H a g) : GtsAt H [a] [g] := ⟨rfl, fun i x b e1 e2 => by
  cases i with
  | zero => cases e1; cases e2; exact h
  | succ i => simp at e1⟩
end Br

/-! ### len(set(xs)), any ints -/
namespace Br
open PySem PySem.Spec PyProof.Rows L2
theorem nodup_le : ∀ {ks ns : List Int}, ks.Nodup → (∀ k, k ∈ ks → k ∈ ns) → ks.length ≤ ns.length
  | [], _, _, _ => Nat.zero_le _
  | k :: ks, ns, hn, hs => by
    rw [List.nodup_cons] at hn
    have hk := hs k List.mem_cons_self
    have h := nodup_le (ns := ns.erase k) hn.2 fun x hx => by
      have hx2 := hs x (List.mem_cons_of_mem _ hx)
      exact (List.mem_erase_of_ne (fun e => hn.1 (by rw [← e]; exact hx))).mpr hx2
    rw [List.length_erase_of_mem hk] at h
    have := List.length_pos_of_mem hk
    rw [List.length_cons]
    omega
theorem dup_at : ∀ {ns : List Int}, ¬ ns.Nodup → ∃ x, x ∈ ns ∧ x ∈ ns.erase x
  | [], h => absurd List.nodup_nil h
  | x :: r, h => by
    by_cases hx : x ∈ r
    · exact ⟨x, List.mem_cons_self, by rw [List.erase_cons_head]; exact hx⟩
    · have hr : ¬ r.Nodup := fun hr => h (List.nodup_cons.mpr ⟨hx, hr⟩)
      obtain ⟨y, h1, h2⟩ := dup_at hr
      have hne : x ≠ y := fun e => hx (by rw [e]; exact h1)
      refine ⟨y, List.mem_cons_of_mem _ h1, ?_⟩
      rw [List.erase_cons_tail (by simpa using hne)]
      exact List.mem_cons_of_mem _ h2
theorem card_iff {ks ns : List Int} (hn : ks.Nodup) (h : ∀ k, k ∈ ks ↔ k ∈ ns) : (ks.length = ns.length ↔ ns.Nodup) ∧ ks.length ≤ ns.length := by
  have hle := nodup_le hn fun k hk => (h k).mp hk
  refine ⟨⟨fun e => ?_, fun hs => ?_⟩, hle⟩
  · by_cases hd : ns.Nodup
    · exact hd
    · exfalso
      obtain ⟨x, h1, h2⟩ := dup_at hd
      have := nodup_le (ns := ns.erase x) hn fun k hk => by
        by_cases e : k = x
        · rw [e]; exact h2
        · exact (List.mem_erase_of_ne e).mpr ((h k).mp hk)
      rw [List.length_erase_of_mem h1] at this
      have := List.length_pos_of_mem h1
      omega
  · have := nodup_le hs fun k hk => (h k).mpr hk
    omega
theorem step_nodup {ks : List Int} {k : Int} (h : ks.Nodup) : (step_dedup ks k).Nodup ∧ ∀ x, x ∈ step_dedup ks k ↔ x ∈ ks ∨ x = k := by
  unfold step_dedup
  split
  · rename_i hb
    obtain ⟨y, hy, e⟩ := List.any_eq_true.mp hb
    have : y = k := by simpa using e
    subst this
    refine ⟨h, fun x => ⟨.inl, fun z => z.elim id fun e => by rw [e]; exact hy⟩⟩
  · rename_i hb
    have hk : k ∉ ks := fun hk => hb (List.any_eq_true.mpr ⟨k, hk, by simp⟩)
    refine ⟨List.nodup_append.mpr ⟨h, by simp, fun a ha b hb e => hk (by rw [← List.mem_singleton.mp hb, ← e]; exact ha)⟩, fun x => by simp⟩
theorem firstMet_spec {ns : List Int} : ∀ i, i ≤ ns.length → (firstMet (fun i => ns.getD i 0) i).Nodup ∧ ∀ x, x ∈ firstMet (fun i => ns.getD i 0) i ↔ x ∈ ns.take i
  | 0, _ => ⟨List.nodup_nil, fun x => by show x ∈ [] ↔ x ∈ ns.take 0; simp⟩
  | i + 1, hi => by
    obtain ⟨h1, h2⟩ := firstMet_spec (ns := ns) i (Nat.le_of_lt hi)
    obtain ⟨k1, k2⟩ := step_nodup (k := ns.getD i 0) h1
    rw [firstMet_succ]
    refine ⟨k1, fun x => ?_⟩
    have e : ns.getD i 0 = ns[i] := by rw [List.getD_eq_getElem?_getD, List.getElem?_eq_getElem hi]; rfl
    have e2 : ns.take (i + 1) = ns.take i ++ [ns[i]] := by rw [List.take_add_one, List.getElem?_eq_getElem hi]; rfl
    rw [k2, h2, e, e2, List.mem_append, List.mem_singleton]
def tLenSet (K : PySem.W.Frag) (ta : TE) : TE := fun σ H Q => ta σ H fun x H1 => ∃ (l : Addr) (ns : List Int), x = V.ref l ∧ (SqL K H1 l (ns.map V.int) ∨ SqT K H1 l (ns.map V.int)) ∧ ns.length ≤ 4000 ∧ ∀ c : Nat, (c = ns.length ↔ ns.Nodup) → c ≤ ns.length → Q (.int (c : Nat)) H1
theorem pe_lenSetA {X : Cx} {a : Expr} {ta : TE} {p p2 q pos : Pos} (hg : Gl X "len") (hm : X.mg "len" = none) (hg2 : Gl X "set") (hm2 : X.mg "set" = none) (ha : PE X a ta) (hc : X.calm = true := by rfl)
    (na : starEach [a] X.env = (false, eval a X.env) :: starEach [] X.env := by rfl) : PE X (.Call (.Name "len" p) [.Call (.Name "set" p2) [a] [] q] [] pos) (tLenSet X.K ta) := by
  refine ⟨fun pins s σ H Q I h => ?_⟩
  refine Call_ (ld_blt I hg hm PySem.boot_len ?_)
  refine PyProof.Rows.callWith_builtin1 (PyProof.Rows.args_cons ?_ rfl) rfl rfl
  refine Call_ (ld_blt I hg2 hm2 PyProof.Rows.boot_set ?_)
  refine PyProof.Rows.callWith_type1 (PyProof.Rows.args_cons (thn (ha.run pins s σ H _ I h) fun v s1 ⟨x, H1, I1, r1, q1⟩ => PyProof.Rows.args_nil ?_) na) na rfl
  obtain ⟨l, ns, rfl, hq, hl, q1⟩ := q1
  cases r1
  rcases hq with hq | hq
  · obtain ⟨its, r, pl, hz⟩ := I1.list hq
    have hlen : its.toArray.size = ns.length := by rw [List.size_toArray, ← r.length, List.length_map]
    refine call_set_list (I1.ok.hd hc) pl.isList (ns := ns) (by simpa using r.ints) (by rw [hlen]; unfold scanBound; omega) fun h' tk hS hk => ?_
    rw [hlen] at hS
    obtain ⟨f1, f2⟩ := firstMet_spec (ns := ns) ns.length (Nat.le_refl _)
    rw [List.take_length] at f2
    obtain ⟨c1, c2⟩ := card_iff f1 f2
    refine PyProof.Rows.args_nil ?_
    obtain ⟨o, es, ep, t, ho, hex, hd, _, _, _, hf, hn⟩ := hS
    have I2 : Inv X pins σ H1 { s1 with heap := h', toks := tk } := I1.kept fun b o e => hk b o (Heap.lt_size e) e
    refine call_len_set ho hex hd hf (by rw [hn]; omega) ⟨.int ((es.size : Nat) : Int), H1, I2.tok _, ⟨_, rfl⟩, by rw [hn]; exact q1 _ c1 c2⟩
  · obtain ⟨its, r, pl, hz⟩ := I1.tuple hq
    refine call_set_tupI ns (I1.ok.hd hc) pl (by simpa using r.ints) (by unfold scanBound; omega) fun h' tk c hS _ hk => ?_
    refine PyProof.Rows.args_nil ?_
    obtain ⟨o, es, ep, t, ho, hex, hd, _, hnd, hS, _, hf, hn, _⟩ := hS
    obtain ⟨c1, c2⟩ := card_iff (ns := ns) hnd fun k => by rw [← hS k]; simp
    have hsz : (es.toList.map keyOf).length = c := by rw [List.length_map, Array.length_toList, hn]
    rw [hsz] at c1 c2
    have I2 : Inv X pins σ H1 { s1 with heap := h', toks := tk } := I1.kept hk
    refine call_len_set ho hex hd hf (by rw [hn]; omega) ⟨.int ((es.size : Nat) : Int), H1, I2.tok _, ⟨_, rfl⟩, by rw [hn]; exact q1 c c1 c2⟩
end Br

/-! ### a def that takes the rest of its arguments; cases of other forms; data in a match -/
namespace Br
open PySem PySem.Spec PyProof.Rows L2
def StarB (fd : FuncData) (ps : List Str) (pv : Str) : Prop := ∀ us rest : List Value, us.length = ps.length → bindArgs fd ⟨us ++ rest, []⟩ = (newTuple rest >>= fun t => pure (ps.zip us ++ [(pv, t)]))
def spStar (n : Nat) (sp : Sp) : Sp := fun vs H Q E => ∃ ws rest, vs = ws ++ rest ∧ ws.length = n ∧ rest.length ≤ sizeLine ∧ ∀ p, H p = Option.none → sp (ws ++ [V.ref p]) (L2.upd H p (.tup rest)) Q E
section
variable {P : Program} {w : World} {K : PySem.W.Frag} {mg : Str → Option Value} {base : Heap}
theorem star_ok {x qual : Str} {st : Stmt} {f : Addr} {fd : FuncData} {N ps : List Str} {pv : Str} {k : Nat} {sp : Sp} (F : Fun K x qual st f fd) (B : StarB fd ps pv) (S : FnScope N (ps ++ [pv]) (defScope st))
    (hbody : ∀ (cdv : Value) (A : Around) (outer : List Env) (s : Shared) (H : Hp) (vs : List V) (Q : VK) (E : XK), Room k (A.deeper (envOfC qual (defScope st) s.heap.objs.size f cdv)) → sp vs H Q E →
      ∃ t, PSs (cxOf CX0 P w K mg base N qual (defScope st) f cdv A outer s H E).nox (defBody st) t ∧ t { nx := fun _ H' => Q .non H', rt := Q } (start N vs) H) : FnR P w K mg base CX0 (k + 1) f (spStar ps.length sp) := by
  obtain ⟨oc, od, kV, doc, pm, an, cdv, ct, osl, rfl, lk, hcd⟩ := F.ex
  refine StX.fn_star lk hcd S StX.cxUp_none B fun A outer s H vs Q E hr hsp => ?_
  obtain ⟨t, h, q⟩ := hbody cdv A outer s H vs Q E hr hsp
  exact ⟨t, h.nox, q⟩
end
def tCallR (sp : Sp) (E : XK) (t : TA) : TE := fun σ H Q => t σ H fun vs H1 => sp vs H1 Q E
theorem x_callR {sp : Sp} {E : XK} {t : TA} {σ : L2.St} {H : Hp} {Q : VK} (h : t σ H fun vs H1 => sp vs H1 Q E) : tCallR sp E t σ H Q := h
section
variable {X : Cx}
theorem pe_callR {CX : CXT} {k : Nat} {f : Addr} {sp : Sp} {E : XK} {x : Str} {e : Expr} {es : List Expr} {t : TA} {p pos : Pos} (F : FnR X.prog X.w X.K X.mg X.base CX k f sp) (hr : Room k X.A) (hk : PySem.W.keepIn X.K (.ref f) = true) (hg : Gl X x) (hm : X.mg x = some (.ref f)) (hx : Passes CX X E)
    (ha : PA X (e :: es) t) (hdb : (x == ("__debug__" : Str)) = false := by decide) (he : starEach (e :: es) X.env = (false, eval e X.env) :: starEach es X.env := by rfl) (hpl : (backTo pos (starEach es X.env)).any (·.1) = false := by rfl) :
    PE X (.Call (.Name x p) (e :: es) [] pos) (tCallR sp E t) := by
  refine ⟨fun pins s σ H Q I h => ?_⟩
  refine wpAny_Call_Name_kw (ld_glob I hg hm ?_ hdb)
  refine PySem.W.callWith_K (h₀ := X.base) I.ok.mod.kin hk (thn (ha.run pos pins s σ H _ I h) fun us s1 ⟨vs, H1, I1, r, q⟩ => ⟨I1.kIn, ?_⟩) he hpl
  exact wpAny_call (run_fnR F hr hx I1 r q)
/-- a tuple of n parts, whatever they are -/
def tSeqA (K : PySem.W.Frag) (n : Nat) (is : List (Option Nat)) (body : TS) (rest : V → TS) : V → TS := fun v D σ H => ∃ (a : Addr) (xs : List V), v = .ref a ∧ SqT K H a xs ∧
  ((xs.length ≠ n ∧ rest v D σ H) ∨ (xs.length = n ∧ body D (bindS is xs σ) H))
theorem pcs_tup {n : Nat} {p3 : Pos} {ps : List Pattern} {is : List (Option Nat)} {body : List Stmt} {rest : List MatchCase} {tb : TS} {tr : V → TS} (hc : X.calm = true) (hp : PCap X ps is) (hb : PSs X body tb) (hr : PCs X rest tr) (hn : ps.length = n := by rfl)
    (hs : ps.findIdx? (·.isStar) = none := by rfl) (hw : (ps.all fun p => p.isWildcard || (p.isStar && p.names.isEmpty)) = false := by rfl) :
    PCs X (⟨.MatchSequence ps p3, none, body⟩ :: rest) (tSeqA X.K n is tb tr) := by
  refine ⟨fun first pins s σ H D v u I rv h => ?_⟩
  obtain ⟨a, xs, rfl, hx, h⟩ := h
  cases (show u = Value.ref a from rv)
  obtain ⟨its, ri, ht, hz⟩ := I.tuple hx
  have hl := ri.length
  have hfit : ((its.toArray.size : Nat) : Int) < 2 ^ 63 := by
    have h1 : its.length ≤ sizeLine := by rw [← hl]; exact hz
    have h2 : sizeLine < 2 ^ 63 := by decide
    have h3 : its.toArray.size < 2 ^ 63 := Nat.lt_of_le_of_lt (by simpa using h1) h2
    omega
  rcases h with ⟨hne, q⟩ | ⟨hxl, q⟩
  · refine wpAny_matchCases_cons (matchSeq_tuple_miss ht hfit (by simp; omega) ?_ hs hw)
    exact hr.run false pins _ σ H D (.ref a) _ (I.tok _) rfl q
  · have sz : its.toArray.size = ps.length := by simp at hxl ⊢; omega
    refine wpAny_matchCases_cons (matchSeq_tuple_hit ht hfit (by simpa using sz) ?_ hs hw)
    rw [show ps.length = its.toArray.size from sz.symm]
    refine unpackItems_tuple (I.ok.hd hc) ht fun h' hk => ?_
    have I2 : Inv X pins σ H { s with heap := h', toks := s.toks + 1 + 1 } := I.kept fun b o e => hk b o (Nat.ne_of_lt (Heap.lt_size e)) e
    refine each_caps hp.caps (by simpa using sz) ?_
    refine thn (hp.run pins _ σ H xs its I2 ri (by simpa using sz)) fun _ s4 I4 => ?_
    exact hb.run pins s4 _ H D I4 q
/-- any value, by a name -/
def tNameC (i : Nat) (body : TS) : V → TS := fun v D σ H => body D (σ.set i (some v)) H
theorem pcs_name {i : Nat} {x : Str} {pos : Pos} {body : List Stmt} {rest : List MatchCase} {t : TS} (hN : X.N.Nodup) (hi : X.N[i]? = some x) (hx : Loc X.env.scope x) (hb : PSs X body t) (hf : X.fn x = true ∨ X.env.scope.names.lookup x = some .local := by first | exact .inl rfl | exact .inr rfl) :
    PCs X (⟨.MatchAs none (some x) pos, none, body⟩ :: rest) (tNameC i t) :=
  ⟨fun _ pins s σ H D v u I r h => wpAny_matchCases_cons (wpAny_matchPattern_Capture (wpAny_assignInOrder_more (wpAny_bindName (store_ok I hN hi hx r (fun s' I' => wpAny_assignInOrder_none (hb.run pins s' _ H D I' h)) hf))))⟩
end
section
variable {σ : L2.St} {H : Hp} {D : Ends} {K : PySem.W.Frag} {v : V} {t : V → TS}
theorem x_caseA {n : Nat} {is : List (Option Nat)} {body : TS} {a : Addr} {xs : List V} (ha : SqT K H a xs) (hl : xs.length = n) (h : body D (bindS is xs σ) H) : tSeqA K n is body t (.ref a) D σ H := ⟨a, xs, rfl, ha, .inr ⟨hl, h⟩⟩
theorem x_caseAN {n : Nat} {is : List (Option Nat)} {body : TS} {a : Addr} {xs : List V} (ha : SqT K H a xs) (hl : xs.length ≠ n) (h : t (.ref a) D σ H) : tSeqA K n is body t (.ref a) D σ H := ⟨a, xs, rfl, ha, .inl ⟨hl, h⟩⟩
theorem x_nameC {i : Nat} {body : TS} (h : body D (σ.set i (some v)) H) : tNameC i body v D σ H := h
end
/-! data that may be compared -/
def Sh (e : PyData) : Prop := e.canLay0 = true ∧ e.depth ≤ 60
theorem Sh.shaped {e : PyData} (h : Sh e) : SeqAt.shaped e = true := by
  unfold SeqAt.shaped
  rw [h.1, Bool.true_and]
  exact decide_eq_true (by have := h.2; omega)
theorem canLayAll_mem : ∀ {es : List PyData}, PyData.canLayAll0 es = true ↔ ∀ e, e ∈ es → e.canLay0 = true
  | [] => ⟨fun _ e h => by simp at h, fun _ => rfl⟩
  | x :: es => by
    show (PyData.canLay0 x && PyData.canLayAll0 es) = true ↔ _
    rw [Bool.and_eq_true, canLayAll_mem (es := es)]
    exact ⟨fun h e he => (List.mem_cons.mp he).elim (fun e1 => by rw [e1]; exact h.1) (h.2 e), fun h => ⟨h x List.mem_cons_self, fun e he => h e (List.mem_cons_of_mem _ he)⟩⟩
theorem depthAll_mem : ∀ {es : List PyData} {n : Nat}, PyData.depthAll es ≤ n ↔ ∀ e, e ∈ es → e.depth ≤ n
  | [], n => ⟨fun _ e h => by simp at h, fun _ => by show PyData.depthAll [] ≤ n; rw [PyData.depthAll]; exact Nat.zero_le _⟩
  | x :: es, n => by
    have e : PyData.depthAll (x :: es) = max x.depth (PyData.depthAll es) := by rw [PyData.depthAll]
    rw [e, Nat.max_le, depthAll_mem (es := es)]
    exact ⟨fun h y hy => (List.mem_cons.mp hy).elim (fun e1 => by rw [e1]; exact h.1) (h.2 y), fun h => ⟨h x List.mem_cons_self, fun y hy => h y (List.mem_cons_of_mem _ hy)⟩⟩
/-- so deep at most -/
def ShN (n : Nat) (e : PyData) : Prop := e.canLay0 = true ∧ e.depth ≤ n
theorem ShN.sh {n : Nat} {e : PyData} (h : ShN n e) (hn : n ≤ 60) : Sh e := ⟨h.1, Nat.le_trans h.2 hn⟩
theorem ShN.mono {n m : Nat} {e : PyData} (h : ShN n e) (hn : n ≤ m) : ShN m e := ⟨h.1, Nat.le_trans h.2 hn⟩
theorem ShN.tup {n : Nat} {es : List PyData} (h : ∀ e, e ∈ es → ShN n e) : ShN (n + 1) (.tuple es) := by
  constructor
  · show PyData.canLayAll0 es = true
    exact canLayAll_mem.mpr fun e he => (h e he).1
  · rw [PyData.depth]
    have := depthAll_mem.mpr fun e he => (h e he).2
    omega
theorem ShN.lst {n : Nat} {es : List PyData} (h : ∀ e, e ∈ es → ShN n e) : ShN (n + 1) (.list es) := by
  constructor
  · show PyData.canLayAll0 es = true
    exact canLayAll_mem.mpr fun e he => (h e he).1
  · rw [PyData.depth]
    have := depthAll_mem.mpr fun e he => (h e he).2
    omega
theorem ShN.of_tup {n : Nat} {es : List PyData} (h : ShN (n + 1) (.tuple es)) : ∀ e, e ∈ es → ShN n e := fun e he => by
  obtain ⟨h1, h2⟩ := h
  have h1 : PyData.canLayAll0 es = true := h1
  rw [PyData.depth] at h2
  exact ⟨canLayAll_mem.mp h1 e he, depthAll_mem.mp (by omega) e he⟩
theorem Sh.of_tup {es : List PyData} (h : Sh (.tuple es)) : ∀ e, e ∈ es → Sh e := fun e he => by
  obtain ⟨h1, h2⟩ := h
  have h1 : PyData.canLayAll0 es = true := h1
  rw [PyData.depth] at h2
  exact ⟨canLayAll_mem.mp h1 e he, (depthAll_mem (n := 60)).mp (by omega) e he⟩
theorem ShN.int {n : Nat} {i : Int} : ShN n (.int i) := ⟨rfl, by rw [PyData.depth]; exact Nat.zero_le _⟩
theorem ShN.bl {n : Nat} {i : Bool} : ShN n (.bool i) := ⟨rfl, by rw [PyData.depth]; exact Nat.zero_le _⟩
theorem ShN.non {n : Nat} : ShN n .none := ⟨rfl, by rw [PyData.depth]; exact Nat.zero_le _⟩
theorem ShN.str {n : Nat} {x : Str} (h : PyData.strOk x = true) : ShN n (.str x) := ⟨h, by rw [PyData.depth]; exact Nat.zero_le _⟩
mutual
theorem DAt.dp {K : PySem.W.Frag} {d : Addr} {H : Hp} : ∀ (e : PyData) {v : V}, DAt d H v e → Dp K H v e
  | .none, _, h => by cases h; exact .non
  | .bool b, _, h => by cases h; exact .bl b
  | .int i, _, h => by cases h; exact .int i
  | .str x, _, h => by cases h; exact .str x
  | .list ds, _, h => by
    cases h with
    | lst hd h hs => exact .lst (sq_of h) (DAts.dp ds hs)
  | .tuple ds, _, h => by
    cases h with
    | tup h hs => exact .tup (st_of h) (DAts.dp ds hs)
  | .dict _, _, h => by cases h
theorem DAts.dp {K : PySem.W.Frag} {d : Addr} {H : Hp} : ∀ (es : List PyData) {vs : List V}, DAts d H vs es → DpAll K H vs es
  | [], _, h => by cases h; exact .nil
  | e :: es, _, h => by
    cases h with
    | cons h hs => exact .cons (DAt.dp e h) (DAts.dp es hs)
end
/-- does it begin with the word and have so many parts -/
def wordAt (es : List PyData) (n : Nat) (word : Str) : Bool := match es with
  | .str w :: er => decide (er.length + 1 = n) && decide (w = word)
  | _ => false
theorem eqv_str {e : PyData} {w : Str} : PyData.eqv e (.str w) = match e with | .str x => decide (x = w) | _ => false := by
  cases e with
  | str x => rw [PyData.eqv]; first | rfl | simp
  | none => rw [PyData.eqv]
  | bool b => rw [PyData.eqv]
  | int i => rw [PyData.eqv]
  | list xs => rw [PyData.eqv]
  | tuple xs => rw [PyData.eqv]
  | dict xs => rw [PyData.eqv]
theorem x_caseD {σ : L2.St} {H : Hp} {D : Ends} {K : PySem.W.Frag} {t : V → TS} {d a : Addr} {xs : List V} {es : List PyData} {n : Nat} {word : Str} {is : List (Option Nat)} {body : TS} (ha : SqT K H a xs) (hs : DAts d H xs es) (hsh : ∀ e, e ∈ es → Sh e) (hw : PyData.strOk word = true) (n0 : 0 < n)
    (h1 : ∀ (y : V) (ys : List V) (er : List PyData), xs = y :: ys → es = .str word :: er → er.length + 1 = n → DAts d H ys er → body D (bindS is ys σ) H) (h0 : wordAt es n word = false → t (.ref a) D σ H) : tSeqW K (rEqD K) n word is body t (.ref a) D σ H := by
  have hlen := hs.len
  refine ⟨a, xs, rfl, ha, ?_⟩
  by_cases hl : es.length = n
  · cases hs with
    | nil => simp at hl; omega
    | cons h hs =>
      rename_i y ys e er
      refine .inr ⟨y, ys, rfl, by rw [hlen]; exact hl, e, .str word, DAt.dp e h, .str word, (hsh e List.mem_cons_self).shaped, Sh.shaped ⟨hw, by rw [PyData.depth]; exact Nat.zero_le _⟩, _, rfl, ?_⟩
      rw [eqv_str]
      cases e with
      | str x =>
        show if decide (x = word) = true then _ else _
        by_cases hx : x = word
        · subst hx
          rw [if_pos (decide_eq_true rfl)]
          exact h1 y ys er rfl rfl hl hs
        · rw [if_neg (by rw [decide_eq_false hx]; decide)]
          refine h0 ?_
          show (decide _ && decide (x = word)) = false
          rw [decide_eq_false hx, Bool.and_false]
      | none => exact iteF (h0 rfl)
      | bool b => exact iteF (h0 rfl)
      | int i => exact iteF (h0 rfl)
      | list xs => exact iteF (h0 rfl)
      | tuple xs => exact iteF (h0 rfl)
      | dict xs => exact iteF (h0 rfl)
  · refine .inl ⟨by rw [hlen]; exact hl, h0 ?_⟩
    cases es with
    | nil => rfl
    | cons e er =>
      cases e with
      | str x =>
        show (decide (er.length + 1 = n) && _) = false
        rw [decide_eq_false (show ¬ er.length + 1 = n from hl), Bool.false_and]
      | _ => rfl
theorem v_str {a b : Str} : decide (V.str a = V.str b) = decide (a = b) := decide_eq_decide.mpr ⟨fun h => V.str.inj h, fun h => h ▸ rfl⟩
theorem x_EqS {i j : Str} {H : Hp} {Q : VK} (q : Q (.bl (decide (i = j))) H) : rEq (.str i) (.str j) H Q := ⟨rfl, v_str ▸ q⟩
theorem x_NeS {i j : Str} {H : Hp} {Q : VK} (q : Q (.bl (!decide (i = j))) H) : rNe (.str i) (.str j) H Q := ⟨rfl, by rw [v_str]; exact q⟩
end Br

/-! ### enumerate of a tuple -/
namespace Br
open PySem PySem.Spec PyProof.Rows L2
def IteT (K : PySem.W.Frag) (a : Addr) : It :=
  ⟨fun i H => ∃ (xs : List V) (x : V), SqT K H a xs ∧ xs[i]? = some x, fun i H v H' => ∃ T x, v = .ref T ∧ H T = none ∧ H' = upd H T (.tup [.int (i : Nat), x]) ∧ ∀ xs, SqT K H a xs → xs[i]? = some x, fun i H => ∃ xs : List V, SqT K H a xs ∧ xs.length = i⟩
theorem turn_enumT {P : Program} {w : World} {K : PySem.W.Frag} {elts : List Expr} {kk : Nat} {tpos : Pos} (a e it : Addr) :
    Turn P w K (.Tuple elts kk tpos) (IteT K a) [e, it] e (fun i h => (∃ old, IsEnum h e it ((i : Nat) : Int) old) ∧ h.IsTupleIter it a i ∧ e ≠ it ∧ e ≠ a) where
  mem := by simp
  obj := fun i h st b hb => by
    obtain ⟨⟨old, he⟩, ⟨o, ho, hc, hd⟩, _⟩ := st
    have e' : b = e ∨ b = it := by simpa using hb
    rcases e' with z | z
    · rw [z]; exact ⟨_, he, fun v q => nomatch q⟩
    · rw [z]; exact ⟨o, ho, fun v q => by rw [hd] at q; cases q⟩
  keep := fun i h h' st k => let ⟨⟨old, he⟩, hi, hne⟩ := st; ⟨⟨old, k e (by simp) _ he⟩, hi.at fun o q => k it (by simp) o q, hne⟩
  item := by
    intro X hP hw hK hc i pins s σ H E I hf st hg
    subst hP hw hK
    obtain ⟨⟨old, he⟩, hit, hne, hea⟩ := st
    obtain ⟨xs, x, hq, hx⟩ := hg
    obtain ⟨its, rv, p, hz⟩ := I.tuple hq
    obtain ⟨u, hu, ru⟩ := rv.get hx
    have hel : e < s.heap.objs.size := Heap.lt_size he
    have hil : it < s.heap.objs.size := by obtain ⟨_, q, _⟩ := hit; exact Heap.lt_size q
    have hd : X.A.in1.handled = none := I.ok.hd hc
    have nb : a ≠ it := fun e => by
      obtain ⟨o, eo, co, _⟩ := hit
      obtain ⟨o', eo', co', _⟩ := p
      rw [e, eo] at eo'
      cases eo'
      rw [co] at co'
      simp at co'
    have nx := rv.length
    have hlt : i < its.toArray.size := by
      have := (List.getElem?_eq_some_iff.mp hx).1
      simp
      omega
    refine wpAny_pyNext_enum_itemD (Draws.tuple hd it a nb its.toArray) he ⟨hit, p⟩ hlt hne (by simp; exact ⟨hne, hea⟩) fun x2 h' tk q2 ho hit' hT hsz hk => ?_
    have ex : x2 = u := by
      rw [List.getElem?_toArray, hu] at q2
      exact (Option.some.inj q2).symm
    subst ex
    refine ⟨_, rfl, wpAny_letOwnedTupleGo_enum (s := { s with heap := h', toks := tk + 1 }) ho fun h'' he' sb => ?_⟩
    have hT2 : h''.get? s.heap.objs.size = some { cls := .type "tuple", data := .seq #[.int i tk, x2] } := (sb.2 _ (Nat.ne_of_gt hel)).trans hT
    have new : ObjOk X.prog X.w (upd H s.heap.objs.size (.tup [.int (i : Nat), x])) h'' s.heap.objs.size (.tup [.int (i : Nat), x]) :=
      ⟨by show 2 ≤ sizeLine; decide, [.int i tk, x2], .cons ⟨_, rfl⟩ (.cons ru .nil), ⟨_, hT2, rfl, _, rfl⟩⟩
    have I1 : Inv X pins σ (upd H s.heap.objs.size (.tup [.int (i : Nat), x])) { s with heap := h'', toks := tk + 1 } :=
      I.turnedNew (ch := [e, it]) (t' := tk + 1) (fun b ob hb q => (sb.2 b (fun z => hb (by simp [z]))).trans (hk b ob (fun z => hb (by simp [z])) (fun z => hb (by simp [z])) q)) hf (Nat.le_refl _) new
    refine ⟨.ref s.heap.objs.size, _, I1, rfl, ⟨_, x, rfl, I.hok.fresh (Nat.le_refl _), rfl, fun ys hy => by rw [I.tuple_inj hy hq]; exact hx⟩, ⟨⟨x2, ?_⟩, hit'.1.at fun o q => (sb.2 it (Ne.symm hne)).trans q, hne, hea⟩, fun b hb => ?_⟩
    · have e1 : ((i + 1 : Nat) : Int) = (i : Int) + 1 := by omega
      rw [e1]; exact he'
    · have hb' : b < s.heap.objs.size := by
        have e' : b = e ∨ b = it := by simpa using hb
        rcases e' with z | z
        · rw [z]; exact hel
        · rw [z]; exact hil
      rw [upd_ne (Nat.ne_of_lt hb')]
      exact (hf b hb).1
  done := by
    intro X hP hw hK hc i pins s σ H E I hf st hg
    subst hP hw hK
    obtain ⟨⟨old, he⟩, hit, hne, hea⟩ := st
    obtain ⟨xs, hq, hx⟩ := hg
    obtain ⟨its, rv, p, hz⟩ := I.tuple hq
    obtain ⟨f0, f1, f2, f3, f4, f5⟩ := hf it (by simp)
    have hl := rv.length
    have hd : X.A.in1.handled = none := I.ok.hd hc
    have nb : a ≠ it := fun e => by
      obtain ⟨o, eo, co, _⟩ := hit
      obtain ⟨o', eo', co', _⟩ := p
      rw [e, eo] at eo'
      cases eo'
      rw [co] at co'
      simp at co'
    have hn : its.toArray.size = i := by simp; omega
    subst hn
    exact wpAny_pyNext_enum_endD (Draws.tuple hd it a nb its.toArray) he ⟨hit, p⟩ fun h' eb => ⟨rfl, I.turned (t' := s.toks) (fun b o hb q => eb b o hb q) f0 f1 f3 f4 f5⟩
  self := fun A i s Q E st h => let ⟨⟨_, he⟩, _⟩ := st; wpAny_pyIter_enum he h
set_option maxHeartbeats 1000000 in
theorem meets_enum_B0 {v : Value} {o : Obj} {H : Heap → Prop} (B : Begins v o H) :
    Meets (Builtin.«enumerate.__new__» ⟨[.type "enumerate", v], []⟩) (fun _ R s => H s.heap ∧
      R (.ok (.ret (.ref (s.heap.push o).objs.size))) { s with heap := (s.heap.push o).push { cls := .type "enumerate", data := .fields #[.none, .bool false, .ref s.heap.objs.size, rawInt 0, .none, .none] } }) :=
  .of_wp fun prog w A R s h => by
    obtain ⟨hp, g, d, tk, os⟩ := s; obtain ⟨h1, h⟩ := h
    have hsub := sub_enumerate
    have q1 : ∀ {A' : Around} {E : Value → Shared → Prop} {Q : Value → Shared → Prop}, Q (.ref hp.objs.size) ⟨hp.push o, g, d, tk, os⟩ → wpAny (model prog w) A' (pyIter v) Q E ⟨hp, g, d, tk, os⟩ :=
      fun q => B.iter prog w _ _ ⟨hp, g, d, tk, os⟩ _ h1 q
    wp_walk using q1
    refine wpAny_stack_any fun st => wpAny_pure ?_
    split
    · rename_i c _ _ _ _ _
      cases (c == Value.type "enumerate")
      · wp_walk using q1
        exact ⟨_, rfl, h⟩
      · wp_walk using q1
        exact ⟨_, rfl, h⟩
    · wp_walk using q1
      exact ⟨_, rfl, h⟩
theorem enum_begins0 {prog : Program} {w : World} {A : Around} {E : Value → Shared → Prop} {s : Shared} {v : Value} {o : Obj} {H : Heap → Prop} {Q : Value → Shared → Prop} (B : Begins v o H) (h1 : H s.heap)
    (h : ∀ h', IsEnum h' (s.heap.objs.size + 1) s.heap.objs.size 0 .none → h'.get? s.heap.objs.size = some o → h'.objs.size = s.heap.objs.size + 2 →
      (∀ b o, s.heap.get? b = some o → h'.get? b = some o) → Q (.ref (s.heap.objs.size + 1)) { s with heap := h' }) :
    wpAny (model prog w) A (call (.type "enumerate") [v]) Q E s := by
  refine callType_new F.called_enumerate (by decide) (F.typeCall_enumerate_1 _) (F.newCall_enumerate_1 _) (fun obj => F.args_object_init_2 obj _) F.entry_enumerate_new
    (meets_enum_B0 B) ⟨h1, ?_⟩
  have hz : (s.heap.push o).objs.size = s.heap.objs.size + 1 := Heap.size_push ..
  show _ ∧ _
  rw [hz]
  have he : IsEnum ((s.heap.push o).push { cls := .type "enumerate", data := .fields #[.none, .bool false, .ref s.heap.objs.size, rawInt 0, .none, .none] }) (s.heap.objs.size + 1) s.heap.objs.size 0 .none := by
    have := Heap.get?_push_size (s.heap.push o) (o := { cls := .type "enumerate", data := .fields #[.none, .bool false, .ref s.heap.objs.size, rawInt 0, .none, .none] }) rfl
    rw [hz] at this; exact this
  refine ⟨⟨_, he, rfl⟩, h _ he (Heap.get?_push_of_some _ (Heap.get?_push_size _ B.free)) (by rw [Heap.size_push, hz]) fun b o x => Heap.get?_push_of_some _ (Heap.get?_push_of_some _ x)⟩
def iEnumT (K : PySem.W.Frag) (ta : TA) : TI := fun σ H R => ta σ H fun vs H1 => ∃ a xs, vs = [.ref a] ∧ SqT K H1 a xs ∧ R (IteT K a) H1
theorem pi_enumT {X : Cx} {K2 : PySem.W.Frag} (hK : X.K = K2) {e : Expr} {ta : TA} {p pos tpos : Pos} {elts : List Expr} {kk : Nat} (hg : Gl X "enumerate") (hm : X.mg "enumerate" = none) (ha : PA X [e] ta) (hs : starEach [e] X.env = [(false, eval e X.env)] := by rfl) :
    PI X (.Tuple elts kk tpos) (.Call (.Name "enumerate" p) [e] [] pos) (iEnumT K2 ta) := by
  subst hK
  refine ⟨fun pins s σ H R I h => ?_⟩
  refine Call_ (ld_blt I hg hm boot_enumerate (PyProof.Rows.callWith_type1 (thn (ha.run pos pins s σ H _ I h) fun us s1 ⟨vs, H1, I1, r1, q1⟩ => ?_) hs rfl))
  obtain ⟨a, xs, ex, hq, q⟩ := q1
  subst ex
  cases r1 with
  | cons r rr =>
    cases rr
    cases r
    obtain ⟨its, rv, p', hz⟩ := I1.tuple hq
    have la : a < s1.heap.objs.size := by
      obtain ⟨_, e, _⟩ := id p'
      exact Heap.lt_size e
    refine enum_begins0 (begins_tuple a its.toArray) p' fun h' he hit hsz hk => wpAny_pyIter_enum he ?_
    have I2 : Inv X pins σ H1 { s1 with heap := h' } := I1.kept (t' := s1.toks) hk
    refine ⟨s1.heap.objs.size + 1, [s1.heap.objs.size + 1, s1.heap.objs.size], _, _, H1, rfl, I2, turn_enumT a (s1.heap.objs.size + 1) s1.heap.objs.size, ⟨⟨.none, he⟩, ⟨_, hit, rfl, rfl⟩, Nat.succ_ne_self _, Nat.ne_of_gt (Nat.lt_succ_of_lt la)⟩, fun b hb => ?_, q⟩
    have e' : b = s1.heap.objs.size + 1 ∨ b = s1.heap.objs.size := by simpa using hb
    have hle : s1.heap.objs.size ≤ b := by
      rcases e' with z | z
      · rw [z]; exact Nat.le_add_right _ _
      · rw [z]; exact Nat.le_refl _
    exact I1.fpOk hle (I1.hok.fresh hle)
def YEnT (xs : List V) : Nat → Hp → V → Hp → Prop := fun i H v H' => ∃ T x, v = .ref T ∧ H T = none ∧ H' = upd H T (.tup [.int (i : Nat), x]) ∧ xs[i]? = some x
theorem walk_enumT {K : PySem.W.Frag} {a : Addr} {xs : List V} : Walk (IteT K a) xs.length (fun H => SqT K H a xs) (YEnT xs) := by
  refine ⟨fun i H hi q => ⟨xs, xs[i], q, List.getElem?_eq_getElem hi⟩, fun H q => ⟨xs, q, rfl⟩, fun i H v H' hi q y => ?_⟩
  obtain ⟨T, x, e1, e2, e3, e4⟩ := y
  exact ⟨T, x, e1, e2, e3, e4 _ q⟩
/-- a comprehension over enumerate of a tuple, item by item -/
theorem x_lcEnT {K : PySem.W.Frag} {ta : TA} {te : TE} {vs : List Nat} {i j : Nat} {Q : VK} {σ : L2.St} {H : Hp} {a : Addr} {xs : List V} (f : Nat → V) (hn : ∀ R : List V → Hp → Prop, R [.ref a] H → ta σ H R) (ha : SqT K H a xs) (hl : xs.length ≤ 100000)
    (hv : ∀ x y, wipe (((wipe σ vs).set i (some x)).set j (some y)) vs = wipe σ vs) (hG : ∀ H', Same H H' → SqT K H' a xs)
    (he : ∀ (k : Nat) x H', Same H H' → xs[k]? = some x → ∀ R : VK, (∀ H2, Same H' H2 → R (f k) H2) → te (((wipe σ vs).set i (some (.int (k : Int)))).set j (some x)) H' R)
    (hd : ∀ p H', H p = none → Same H H' → H' p = some (.lst ((List.range xs.length).map f)) → Q (.ref p) H') : tLc (iEnumT K ta) (gTup K 2 (gCons (gName i) (gCons (gName j) gNil))) tYes te vs σ H Q := by
  refine x_lcI (J := IteT K a) (n := xs.length) (G := fun H => SqT K H a xs) (fun R r => hn _ ⟨a, xs, rfl, ha, r⟩) walk_enumT (fun p k H' => Same H H' ∧ H' p = some (.lst ((List.range k).map f))) (fun p hp => ⟨same_upd hp, upd_same⟩) (fun p k H' _ _ z => hG H' z.1) ?_ ?_ fun p H' hp z => hd p H' hp z.1 z.2
  · rintro p k x H' H2 hk hp ⟨hs, hl⟩ ⟨T, y, rfl, hT, rfl, hx⟩
    have sT := same_upd (o := .tup [.int (k : Nat), y]) hT
    refine x_gTup2 (st_of upd_same) ⟨hv _ _, he k y _ (hs.trans sT) hx _ fun H3 s3 => ?_⟩
    refine ⟨_, s3 _ _ (sT _ _ hl), lt_line (by simp; omega), sput ((hs.trans sT).trans s3) hp, ?_⟩
    rw [upd_same, List.range_succ, List.map_append]
    rfl
  · rintro x σ' H' R R' hr ⟨p, zs, e1, e2, e3, x1, r1, e4, x2, r2, e5, e6, h⟩
    exact ⟨p, zs, e1, e2, e3, x1, r1, e4, x2, r2, e5, e6, hr _ _ h⟩
end Br

/-! ### nodes that refer to nodes before them: Boolean sources as data -/
namespace Br
open PySem PySem.Spec PyProof.Rows L2
/-- values from left to right, each from those before it -/
def scanF {α β : Type} (f : List β → α → β) (ns : List α) : List β := ns.foldl (fun acc n => acc ++ [f acc n]) []
theorem scanF_snoc {α β : Type} {f : List β → α → β} {ns : List α} {n : α} : scanF f (ns ++ [n]) = scanF f ns ++ [f (scanF f ns) n] := by unfold scanF; rw [List.foldl_append]; rfl
theorem revRec {α : Type} {P : List α → Prop} (h0 : P []) (h1 : ∀ xs x, P xs → P (xs ++ [x])) : ∀ xs, P xs := fun xs => by
  have h : ∀ ys : List α, P ys.reverse := by
    intro ys
    induction ys with
    | nil => exact h0
    | cons y ys ih => rw [List.reverse_cons]; exact h1 _ _ ih
  have := h xs.reverse
  rw [List.reverse_reverse] at this
  exact this
theorem scanF_len {α β : Type} {f : List β → α → β} {ns : List α} : (scanF f ns).length = ns.length := by
  refine revRec (P := fun ns => (scanF f ns).length = ns.length) rfl (fun ns n ih => ?_) ns
  rw [scanF_snoc, List.length_append, List.length_append, ih]
  rfl
def isTupD : PyData → Bool
  | .tuple _ => true
  | _ => false
def nodesD : PyData → Bool
  | .tuple es => (decide (1 ≤ es.length) && decide (es.length ≤ 200)) && es.all isTupD
  | _ => false
theorem isBD_nat {i m : Nat} (h : i < m) : isBD (m : Int) (.int (i : Int)) = true := isBD_iff.mpr ⟨_, rfl, by omega, by omega⟩
theorem sh_cons {m : Nat} {e : PyData} {es : List PyData} (h : ShN m e) (hs : ∀ x, x ∈ es → ShN m x) : ∀ x, x ∈ e :: es → ShN m x := fun x hx => (List.mem_cons.mp hx).elim (fun e1 => by rw [e1]; exact h) (hs x)
theorem sh_nil {m : Nat} : ∀ x, x ∈ ([] : List PyData) → ShN m x := fun x hx => by simp at hx
theorem sh_app {m : Nat} {es fs : List PyData} (h : ∀ x, x ∈ es → ShN m x) (h2 : ∀ x, x ∈ fs → ShN m x) : ∀ x, x ∈ es ++ fs → ShN m x := fun x hx => (List.mem_append.mp hx).elim (h x) (h2 x)
theorem sh_take {m n : Nat} {es : List PyData} (h : ∀ x, x ∈ es → ShN m x) : ∀ x, x ∈ es.take n → ShN m x := fun x hx => h x (List.mem_of_mem_take hx)
theorem sh_drop {m n : Nat} {es : List PyData} (h : ∀ x, x ∈ es → ShN m x) : ∀ x, x ∈ es.drop n → ShN m x := fun x hx => h x (List.mem_of_mem_drop hx)
theorem sh_up {m k : Nat} {es : List PyData} (h : ∀ x, x ∈ es → ShN m x) (hm : m ≤ k) : ∀ x, x ∈ es → ShN k x := fun x hx => (h x hx).mono hm
/-! readings of slices and sums of tuples, the whole and the empty one included -/
theorem x_slA {K : PySem.W.Frag} {a : Addr} {xs : List V} {lo hi : Option Int} {H : Hp} {Q : VK} (hp : H a = some (.tup xs)) (q : ∀ r H', Same H H' → H' r = some (.tup (cutV xs lo hi)) → Q (.ref r) H') : rSlA K (.ref a) lo hi H Q := by
  refine ⟨a, xs, rfl, st_of hp, fun h => q a H (Same.refl _) ?_, fun _ p hn => q p _ (same_upd hn) upd_same⟩
  rw [hp]
  unfold cutV
  rw [h.1, h.2, List.drop_zero, Nat.sub_zero, List.take_length]
theorem x_catA {K : PySem.W.Frag} {a b : Addr} {xs ys : List V} {H : Hp} {Q : VK} (ha : H a = some (.tup xs)) (hb : H b = some (.tup ys)) (hl : xs.length + ys.length ≤ 1000000) (q : ∀ r H', Same H H' → H' r = some (.tup (xs ++ ys)) → Q (.ref r) H') : rCatA K (.ref a) (.ref b) H Q := by
  refine ⟨a, b, xs, ys, rfl, rfl, st_of ha, st_of hb, Nat.le_trans hl (by decide), fun h => q b H (Same.refl _) (by rw [h]; exact hb), fun _ h => q a H (Same.refl _) (by rw [h, List.append_nil]; exact ha), fun _ _ p hn => q p _ (same_upd hn) upd_same⟩
end Br

/-! ### sources as data -/
namespace Br
open PySem PySem.Spec PyProof.Rows L2
inductive SN where
  | con (c : Nat)
  | inp (k : Nat)
  | sum (i j : Nat)
  | prod (i j : Nat)
  | scl (c i : Nat)
  | cho (i j l : Nat)
def snV : SN → List V
  | .con c => [.str "const", .int (c : Int)]
  | .inp k => [.str "input", .int (k : Int)]
  | .sum i j => [.str "sum", .int (i : Int), .int (j : Int)]
  | .prod i j => [.str "product", .int (i : Int), .int (j : Int)]
  | .scl c i => [.str "scaled", .int (c : Int), .int (i : Int)]
  | .cho i j l => [.str "choose", .int (i : Int), .int (j : Int), .int (l : Int)]
def snEs : SN → List PyData
  | .con c => [.str "const", .int (c : Int)]
  | .inp k => [.str "input", .int (k : Int)]
  | .sum i j => [.str "sum", .int (i : Int), .int (j : Int)]
  | .prod i j => [.str "product", .int (i : Int), .int (j : Int)]
  | .scl c i => [.str "scaled", .int (c : Int), .int (i : Int)]
  | .cho i j l => [.str "choose", .int (i : Int), .int (j : Int), .int (l : Int)]
def snD (n : SN) : PyData := .tuple (snEs n)
def SnOk (m : Nat) : SN → Prop
  | .con c => c < 1000000000
  | .inp k => k < 60
  | .sum i j => i < m ∧ j < m
  | .prod i j => i < m ∧ j < m
  | .scl c i => c < 1000000000 ∧ i < m
  | .cho i j l => i < m ∧ j < m ∧ l < m
theorem snEs_at {d : Addr} {H : Hp} {b : SN} : DAts d H (snV b) (snEs b) := by
  cases b with
  | con c => exact .cons (.str _) (.cons (.int _) .nil)
  | inp k => exact .cons (.str _) (.cons (.int _) .nil)
  | sum i j => exact .cons (.str _) (.cons (.int _) (.cons (.int _) .nil))
  | prod i j => exact .cons (.str _) (.cons (.int _) (.cons (.int _) .nil))
  | scl i j => exact .cons (.str _) (.cons (.int _) (.cons (.int _) .nil))
  | cho i j l => exact .cons (.str _) (.cons (.int _) (.cons (.int _) (.cons (.int _) .nil)))
theorem sn_dat {d a : Addr} {H : Hp} {n : SN} (h : H a = some (.tup (snV n))) : DAt d H (.ref a) (snD n) := .tup h snEs_at
theorem snEs_of {d : Addr} {H : Hp} {xs : List V} {n : SN} (h : DAts d H xs (snEs n)) : xs = snV n := by
  have one : ∀ {d : Addr} {H : Hp} {x : V} {i : Int}, DAt d H x (.int i) → x = .int i := fun h => by cases h; rfl
  have ons : ∀ {d : Addr} {H : Hp} {x : V} {i : Str}, DAt d H x (.str i) → x = .str i := fun h => by cases h; rfl
  cases n with
  | con c => cases h with | cons h1 h => cases h with | cons h2 h => cases h; rw [ons h1, one h2]; rfl
  | inp c => cases h with | cons h1 h => cases h with | cons h2 h => cases h; rw [ons h1, one h2]; rfl
  | sum i j => cases h with | cons h1 h => cases h with | cons h2 h => cases h with | cons h3 h => cases h; rw [ons h1, one h2, one h3]; rfl
  | prod i j => cases h with | cons h1 h => cases h with | cons h2 h => cases h with | cons h3 h => cases h; rw [ons h1, one h2, one h3]; rfl
  | scl i j => cases h with | cons h1 h => cases h with | cons h2 h => cases h with | cons h3 h => cases h; rw [ons h1, one h2, one h3]; rfl
  | cho i j l => cases h with | cons h1 h => cases h with | cons h2 h => cases h with | cons h3 h => cases h with | cons h4 h => cases h; rw [ons h1, one h2, one h3, one h4]; rfl
theorem snD_at {d : Addr} {H : Hp} {v : V} {n : SN} (h : DAt d H v (snD n)) : ∃ a, v = .ref a ∧ H a = some (.tup (snV n)) := by
  unfold snD at h
  cases h with
  | tup h hs => exact ⟨_, rfl, by rw [h, snEs_of hs]⟩
structure SsOk (ns : List SN) : Prop where
  l1 : 1 ≤ ns.length
  l2 : ns.length ≤ 200
  ok : ∀ i n, ns[i]? = some n → SnOk i n
def snodeD (m : Int) : PyData → Bool
  | .tuple [.str w, x] => if w = "const" then isBD 1000000000 x else if w = "input" then isBD 60 x else false
  | .tuple [.str w, x, y] => if w = "sum" then isBD m x && isBD m y else if w = "product" then isBD m x && isBD m y else if w = "scaled" then isBD 1000000000 x && isBD m y else false
  | .tuple [.str w, x, y, z] => if w = "choose" then isBD m x && (isBD m y && isBD m z) else false
  | _ => false
theorem sn1 {m : Int} {w : Str} {x : PyData} : snodeD m (.tuple [.str w, x]) = (if w = "const" then isBD 1000000000 x else if w = "input" then isBD 60 x else false) := rfl
theorem sn2 {m : Int} {w : Str} {x y : PyData} : snodeD m (.tuple [.str w, x, y]) = (if w = "sum" then isBD m x && isBD m y else if w = "product" then isBD m x && isBD m y else if w = "scaled" then isBD 1000000000 x && isBD m y else false) := rfl
theorem sn3 {m : Int} {w : Str} {x y z : PyData} : snodeD m (.tuple [.str w, x, y, z]) = (if w = "choose" then isBD m x && (isBD m y && isBD m z) else false) := rfl
theorem isBD_toNat {b : Int} {x : PyData} (h : isBD b x = true) : ∃ c : Nat, x = .int (c : Int) ∧ (c : Int) < b := by
  obtain ⟨i, rfl, i0, i1⟩ := isBD_iff.mp h
  exact ⟨i.toNat, by rw [show ((i.toNat : Nat) : Int) = i by omega], by omega⟩
theorem snodeD_iff {m : Nat} {e : PyData} : snodeD m e = true ↔ ∃ n, e = snD n ∧ SnOk m n := by
  constructor
  · intro h
    match e, h with
    | .tuple [.str w, x], h =>
      rw [sn1] at h
      by_cases h1 : w = "const"
      · rw [if_pos h1] at h
        obtain ⟨c, rfl, hc⟩ := isBD_toNat h
        exact ⟨.con c, by rw [h1]; rfl, by show c < 1000000000; omega⟩
      rw [if_neg h1] at h
      by_cases h2 : w = "input"
      · rw [if_pos h2] at h
        obtain ⟨c, rfl, hc⟩ := isBD_toNat h
        exact ⟨.inp c, by rw [h2]; rfl, by show c < 60; omega⟩
      rw [if_neg h2] at h
      cases h
    | .tuple [.str w, x, y], h =>
      rw [sn2] at h
      by_cases h1 : w = "sum"
      · rw [if_pos h1, Bool.and_eq_true] at h
        obtain ⟨i, rfl, hi⟩ := isBD_toNat h.1
        obtain ⟨j, rfl, hj⟩ := isBD_toNat h.2
        exact ⟨.sum i j, by rw [h1]; rfl, by show i < m ∧ j < m; omega⟩
      rw [if_neg h1] at h
      by_cases h2 : w = "product"
      · rw [if_pos h2, Bool.and_eq_true] at h
        obtain ⟨i, rfl, hi⟩ := isBD_toNat h.1
        obtain ⟨j, rfl, hj⟩ := isBD_toNat h.2
        exact ⟨.prod i j, by rw [h2]; rfl, by show i < m ∧ j < m; omega⟩
      rw [if_neg h2] at h
      by_cases h3 : w = "scaled"
      · rw [if_pos h3, Bool.and_eq_true] at h
        obtain ⟨i, rfl, hi⟩ := isBD_toNat h.1
        obtain ⟨j, rfl, hj⟩ := isBD_toNat h.2
        exact ⟨.scl i j, by rw [h3]; rfl, by show i < 1000000000 ∧ j < m; omega⟩
      rw [if_neg h3] at h
      cases h
    | .tuple [.str w, x, y, z], h =>
      rw [sn3] at h
      by_cases h1 : w = "choose"
      · rw [if_pos h1, Bool.and_eq_true, Bool.and_eq_true] at h
        obtain ⟨i, rfl, hi⟩ := isBD_toNat h.1
        obtain ⟨j, rfl, hj⟩ := isBD_toNat h.2.1
        obtain ⟨l, rfl, hl⟩ := isBD_toNat h.2.2
        exact ⟨.cho i j l, by rw [h1]; rfl, by show i < m ∧ j < m ∧ l < m; omega⟩
      rw [if_neg h1] at h
      cases h
  · rintro ⟨n, rfl, ok⟩
    cases n with
    | con c => show snodeD m (.tuple [.str "const", .int (c : Int)]) = true; rw [sn1, if_pos rfl]; exact isBD_nat (m := 1000000000) ok
    | inp k => show snodeD m (.tuple [.str "input", .int (k : Int)]) = true; rw [sn1, if_neg (by decide), if_pos rfl]; exact isBD_nat (m := 60) ok
    | sum i j =>
      have ok : i < m ∧ j < m := ok
      show snodeD m (.tuple [.str "sum", .int (i : Int), .int (j : Int)]) = true
      rw [sn2, if_pos rfl, isBD_nat ok.1, isBD_nat ok.2]; rfl
    | prod i j =>
      have ok : i < m ∧ j < m := ok
      show snodeD m (.tuple [.str "product", .int (i : Int), .int (j : Int)]) = true
      rw [sn2, if_neg (by decide), if_pos rfl, isBD_nat ok.1, isBD_nat ok.2]; rfl
    | scl c i =>
      have ok : c < 1000000000 ∧ i < m := ok
      show snodeD m (.tuple [.str "scaled", .int (c : Int), .int (i : Int)]) = true
      rw [sn2, if_neg (by decide), if_neg (by decide), if_pos rfl, show isBD 1000000000 (.int (c : Int)) = true from isBD_nat (m := 1000000000) ok.1, isBD_nat ok.2]; rfl
    | cho i j l =>
      have ok : i < m ∧ j < m ∧ l < m := ok
      show snodeD m (.tuple [.str "choose", .int (i : Int), .int (j : Int), .int (l : Int)]) = true
      rw [sn3, if_pos rfl, isBD_nat ok.1, isBD_nat ok.2.1, isBD_nat ok.2.2]; rfl
def sourceD : PyData → Bool
  | .tuple es => nodesD (.tuple es) && ((List.range es.length).all fun i => snodeD (i : Int) (es.getD i .none))
  | _ => false
theorem sourceD_iff {e : PyData} : sourceD e = true ↔ ∃ ns : List SN, e = .tuple (ns.map snD) ∧ SsOk ns := by
  constructor
  · intro h
    cases e with
    | tuple es =>
      have h : (((decide (1 ≤ es.length) && decide (es.length ≤ 200)) && es.all isTupD) && ((List.range es.length).all fun i => snodeD (i : Int) (es.getD i .none))) = true := h
      rw [Bool.and_eq_true, Bool.and_eq_true, Bool.and_eq_true, decide_eq_true_iff, decide_eq_true_iff] at h
      obtain ⟨⟨⟨h1, h2⟩, _⟩, h3⟩ := h
      rw [List.all_eq_true] at h3
      have h4 : ∀ i e, es[i]? = some e → ∃ n, e = snD n ∧ SnOk i n := fun i e he => by
        have := h3 i (List.mem_range.mpr (List.getElem?_eq_some_iff.mp he).1)
        rw [getDT he] at this
        exact snodeD_iff.mp this
      have h5 : ∀ (es : List PyData) (k : Nat), (∀ i e, es[i]? = some e → ∃ n, e = snD n ∧ SnOk (k + i) n) → ∃ ns : List SN, es = ns.map snD ∧ ∀ i n, ns[i]? = some n → SnOk (k + i) n := by
        intro es
        induction es with
        | nil => intro k _; exact ⟨[], rfl, fun i n h => by simp at h⟩
        | cons e es ih =>
          intro k h
          obtain ⟨n, rfl, hn⟩ := h 0 e rfl
          obtain ⟨ns, rfl, hns⟩ := ih (k + 1) fun i e he => by
            have := h (i + 1) e (by simpa using he)
            rw [show k + 1 + i = k + (i + 1) by omega]
            exact this
          refine ⟨n :: ns, rfl, fun i m hm => ?_⟩
          cases i with
          | zero => cases hm; exact hn
          | succ i =>
            have := hns i m (by simpa using hm)
            rw [show k + (i + 1) = k + 1 + i by omega]
            exact this
      obtain ⟨ns, rfl, hns⟩ := h5 es 0 fun i e he => by rw [Nat.zero_add]; exact h4 i e he
      rw [List.length_map] at h1 h2
      exact ⟨ns, rfl, h1, h2, fun i n hn => by have := hns i n hn; rw [Nat.zero_add] at this; exact this⟩
    | _ => cases h
  · rintro ⟨ns, rfl, ok⟩
    show (((decide (1 ≤ (ns.map snD).length) && decide ((ns.map snD).length ≤ 200)) && (ns.map snD).all isTupD) && ((List.range (ns.map snD).length).all fun i => snodeD (i : Int) ((ns.map snD).getD i .none))) = true
    have h3 : (ns.map snD).all isTupD = true := by
      rw [List.all_eq_true]
      intro e he
      obtain ⟨n, _, rfl⟩ := List.mem_map.mp he
      rfl
    have h4 : ((List.range (ns.map snD).length).all fun i => snodeD (i : Int) ((ns.map snD).getD i .none)) = true := by
      rw [List.all_eq_true]
      intro i hi
      rw [List.length_map] at hi
      have hi := List.mem_range.mp hi
      have e1 : (ns.map snD)[i]? = some (snD ns[i]) := by rw [List.getElem?_map, List.getElem?_eq_getElem hi]; rfl
      rw [getDT e1]
      exact snodeD_iff.mpr ⟨_, rfl, ok.ok i _ (List.getElem?_eq_getElem hi)⟩
    rw [h3, h4, List.length_map, decide_eq_true ok.l1, decide_eq_true ok.l2]
    rfl
def snOf : PyData → SN
  | .tuple [.str w, .int k] => if w = "const" then .con k.toNat else .inp k.toNat
  | .tuple [.str w, .int i, .int j] => if w = "sum" then .sum i.toNat j.toNat else if w = "product" then .prod i.toNat j.toNat else .scl i.toNat j.toNat
  | .tuple [.str _, .int i, .int j, .int l] => .cho i.toNat j.toNat l.toNat
  | _ => .inp 0
theorem snOf_snD {n : SN} : snOf (snD n) = n := by
  cases n with
  | con k =>
    show (if (Str.ofString "const") = (Str.ofString "const") then SN.con ((k : Int)).toNat else .inp ((k : Int)).toNat) = _
    rw [if_pos rfl]; rfl
  | inp i =>
    show (if (Str.ofString "input") = (Str.ofString "const") then SN.con ((i : Int)).toNat else .inp ((i : Int)).toNat) = _
    rw [if_neg (by decide)]; rfl
  | sum i j =>
    show (if (Str.ofString "sum") = (Str.ofString "sum") then SN.sum ((i : Int)).toNat ((j : Int)).toNat else if (Str.ofString "sum") = (Str.ofString "product") then .prod ((i : Int)).toNat ((j : Int)).toNat else .scl ((i : Int)).toNat ((j : Int)).toNat) = _
    rw [if_pos rfl]; rfl
  | prod i j =>
    show (if (Str.ofString "product") = (Str.ofString "sum") then SN.sum ((i : Int)).toNat ((j : Int)).toNat else if (Str.ofString "product") = (Str.ofString "product") then .prod ((i : Int)).toNat ((j : Int)).toNat else .scl ((i : Int)).toNat ((j : Int)).toNat) = _
    rw [if_neg (by decide), if_pos rfl]; rfl
  | scl i j =>
    show (if (Str.ofString "scaled") = (Str.ofString "sum") then SN.sum ((i : Int)).toNat ((j : Int)).toNat else if (Str.ofString "scaled") = (Str.ofString "product") then .prod ((i : Int)).toNat ((j : Int)).toNat else .scl ((i : Int)).toNat ((j : Int)).toNat) = _
    rw [if_neg (by decide), if_neg (by decide)]; rfl
  | cho i j l => rfl
theorem sns_inj {a b : List SN} (h : a.map snD = b.map snD) : a = b :=
  (List.map_inj_right fun x y hxy => by have := congrArg snOf hxy; rw [snOf_snD, snOf_snD] at this; exact this).mp h
theorem snEs_sh {b : SN} {m : Nat} : ∀ e, e ∈ snEs b → ShN m e := by
  have w1 : ShN m (.str "const") := ShN.str (by decide +kernel)
  have w2 : ShN m (.str "input") := ShN.str (by decide +kernel)
  have w3 : ShN m (.str "sum") := ShN.str (by decide +kernel)
  have w4 : ShN m (.str "product") := ShN.str (by decide +kernel)
  have w5 : ShN m (.str "scaled") := ShN.str (by decide +kernel)
  have w6 : ShN m (.str "choose") := ShN.str (by decide +kernel)
  cases b with
  | con k => exact sh_cons w1 (sh_cons .int sh_nil)
  | inp k => exact sh_cons w2 (sh_cons .int sh_nil)
  | sum i j => exact sh_cons w3 (sh_cons .int (sh_cons .int sh_nil))
  | prod i j => exact sh_cons w4 (sh_cons .int (sh_cons .int sh_nil))
  | scl i j => exact sh_cons w5 (sh_cons .int (sh_cons .int sh_nil))
  | cho i j l => exact sh_cons w6 (sh_cons .int (sh_cons .int (sh_cons .int sh_nil)))
theorem sns_sh {ns : List SN} {m : Nat} : ∀ e, e ∈ ns.map snD → ShN (m + 1) e := fun e he => by
  obtain ⟨b, _, rfl⟩ := List.mem_map.mp he
  exact ShN.tup snEs_sh
theorem sns_at {d : Addr} {H : Hp} : ∀ {xs : List V} {ns : List SN}, DAts d H xs (ns.map snD) → ∃ as : List Addr, xs = as.map V.ref ∧ as.length = ns.length ∧ ∀ (i : Nat) n a, ns[i]? = some n → as[i]? = some a → H a = some (.tup (snV n))
  | _, [], h => by cases h; exact ⟨[], rfl, rfl, fun i n a h _ => by simp at h⟩
  | _, n :: ns, h => by
    cases h with
    | cons h hs =>
      obtain ⟨a, rfl, ha⟩ := snD_at h
      obtain ⟨as, rfl, hl, hat⟩ := sns_at hs
      refine ⟨a :: as, rfl, congrArg (· + 1) hl, fun i m b h1 h2 => ?_⟩
      cases i with
      | zero => cases h1; cases h2; exact ha
      | succ i => exact hat i m b (by simpa using h1) (by simpa using h2)
theorem sns_dats {d : Addr} {H : Hp} {as : List Addr} {ns : List SN} (hl : as.length = ns.length) (h : ∀ (i : Nat) n a, ns[i]? = some n → as[i]? = some a → H a = some (.tup (snV n))) : DAts d H (as.map V.ref) (ns.map snD) := by
  refine DAts.of (by rw [List.length_map, List.length_map, hl]) fun i x e h1 h2 => ?_
  obtain ⟨a, ha, rfl⟩ := map_getR h1
  rw [List.getElem?_map] at h2
  cases hn : ns[i]? with
  | none => rw [hn] at h2; cases h2
  | some n => rw [hn] at h2; cases h2; exact sn_dat (h i n a hn ha)
/-- costs -/
def cost1 (cs : List Nat) : SN → Nat
  | .sum i j => cs.getD i 0 + cs.getD j 0
  | .prod i j => 2 * (cs.getD i 0 + cs.getD j 0)
  | .scl _ i => cs.getD i 0
  | .cho i j l => cs.getD l 0 + 2 * (cs.getD i 0 + cs.getD j 0 + cs.getD l 0)
  | _ => 1
def costsF (ns : List SN) : List Nat := scanF cost1 ns
theorem costs_snoc {ns : List SN} {n : SN} : costsF (ns ++ [n]) = costsF ns ++ [cost1 (costsF ns) n] := scanF_snoc
theorem costs_len {ns : List SN} : (costsF ns).length = ns.length := scanF_len
/-- the cost of the last node -/
def costF (ns : List SN) : Nat := (costsF ns).getD (ns.length - 1) 0
end Br

/-! ### a match over a list of words: each part a word or a name -/
namespace Br
open PySem PySem.Spec PyProof.Rows L2
def isP1 : Pattern → Bool
  | .MatchAs none _ _ => true
  | .MatchValue (.Constant (.str _) _ _) _ => true
  | _ => false
theorem isP1_cases {p : Pattern} (h : isP1 p = true) : (∃ nm pos, p = .MatchAs none nm pos) ∨ ∃ w j p1 p2, p = .MatchValue (.Constant (.str w) j p1) p2 := by
  unfold isP1 at h
  split at h
  · exact .inl ⟨_, _, rfl⟩
  · exact .inr ⟨_, _, _, _, rfl⟩
  · cases h
def isPat (ps : List Pattern) : Bool := ps.all isP1
def wordP : Pattern → Option Str
  | .MatchValue (.Constant (.str w) _ _) _ => some w
  | _ => none
def patW (ps : List Pattern) : List (Option Str) := ps.map wordP
def capM : List Pattern → List Value → List (Str × Value)
  | .MatchAs none (some x) _ :: ps, u :: us => (x, u) :: capM ps us
  | _ :: ps, _ :: us => capM ps us
  | _, _ => []
def fitS : List (Option Str) → List Str → Bool
  | [], [] => true
  | none :: ps, _ :: ws => fitS ps ws
  | some p :: ps, w :: ws => decide (w = p) && fitS ps ws
  | _, _ => false
theorem fitS_len : ∀ {ps : List (Option Str)} {ws : List Str}, fitS ps ws = true → ws.length = ps.length
  | [], [], _ => rfl
  | none :: ps, _ :: ws, h => congrArg (· + 1) (fitS_len (ps := ps) h)
  | some p :: ps, w :: ws, h => by
    have h : (decide (w = p) && fitS ps ws) = true := h
    rw [Bool.and_eq_true] at h
    exact congrArg (· + 1) (fitS_len h.2)
  | [], _ :: _, h => by cases h
  | none :: _, [], h => by cases h
  | some _ :: _, [], h => by cases h
theorem patW_len {ps : List Pattern} : (patW ps).length = ps.length := List.length_map ..
/-- a match of each part -/
theorem each_pat {X : Cx} {pins : List (Addr × Obj)} {σ : L2.St} {H : Hp} (ho : OpR X (compareOp .Eq) rEq) {ps : List Pattern} : ∀ {ys : List Str} {us : List Value} {Q : Option (List (Str × Value)) → Shared → Prop} {s : Shared}, isPat ps = true → Inv X pins σ H s → Vals (ys.map V.str) us → us.length = ps.length →
    (∀ s', Inv X pins σ H s' → Q (if fitS (patW ps) ys = true then some (capM ps us) else none) s') → wpAny (model X.prog X.w) X.A (matchEach ps X.env us) Q X.xe s := by
  induction ps with
  | nil =>
    intro ys us Q s _ I r hl h
    obtain rfl : us = [] := List.length_eq_zero_iff.mp hl
    cases ys with
    | nil => exact wpAny_matchEach_nil (h s I)
    | cons y ys => cases r
  | cons p ps ih =>
    intro ys us Q s hp I r hl h
    have hp : (isP1 p && isPat ps) = true := hp
    rw [Bool.and_eq_true] at hp
    cases ys with
    | nil =>
      have r : Vals [] us := r
      cases r
      simp at hl
    | cons y ys =>
      have r : Vals (V.str y :: ys.map V.str) us := r
      cases r with
      | cons r1 rr =>
        rename_i u us
        rcases isP1_cases hp.1 with ⟨nm, pos, rfl⟩ | ⟨w, j, p1, p2, rfl⟩
        · refine wpAny_matchEach_cons (wpAny_matchPattern_Capture (ih (ys := ys) hp.2 I rr (by simpa using hl) fun s' I' => ?_)) rfl
          have h := h s' I'
          have e : fitS (patW (.MatchAs none nm pos :: ps)) (y :: ys) = fitS (patW ps) ys := rfl
          rw [e] at h
          by_cases hf : fitS (patW ps) ys = true
          · rw [if_pos hf] at h ⊢
            cases nm with
            | none => exact h
            | some x => exact h
          · rw [if_neg hf] at h ⊢
            exact h
        · refine wpAny_matchEach_cons (wpAny_matchPattern_Value ?_) rfl
          refine Calls.Constant_str ?_
          refine thn (ho pins _ σ H (.str y) (.str w) u _ (fun z H1 => z = .bl (decide (y = w)) ∧ H = H1) (I.tok _) r1 ⟨_, rfl⟩ ⟨rfl, ?_, rfl⟩) fun c s3 ⟨z, H3, I3, rz, ez, eH⟩ => ?_
          · have e : decide (V.str y = V.str w) = decide (y = w) := decide_eq_decide.mpr ⟨fun h => V.str.inj h, fun h => h ▸ rfl⟩
            rw [e]
          subst ez
          subst eH
          cases rz
          refine wpAny_truthy_bool ?_
          have e : fitS (patW (.MatchValue (.Constant (.str w) j p1) p2 :: ps)) (y :: ys) = (decide (y = w) && fitS (patW ps) ys) := rfl
          by_cases hw : y = w
          · rw [decide_eq_true hw]
            rw [if_pos rfl]
            refine ih (ys := ys) hp.2 I3 rr (by simpa using hl) fun s' I' => ?_
            have h := h s' I'
            rw [e, decide_eq_true hw, Bool.true_and] at h
            by_cases hf : fitS (patW ps) ys = true
            · rw [if_pos hf] at h ⊢
              exact h
            · rw [if_neg hf] at h ⊢
              exact h
          · rw [decide_eq_false hw]
            rw [if_neg Bool.false_ne_true]
            have h := h s3 I3
            rw [e, decide_eq_false hw, Bool.false_and, if_neg Bool.false_ne_true] at h
            exact h
/-- names into slots -/
structure PCapM (X : Cx) (ps : List Pattern) (is : List (Option Nat)) : Prop where
  run : ∀ (pins : List (Addr × Obj)) (s : Shared) (σ : L2.St) (H : Hp) (vs : List V) (us : List Value), Inv X pins σ H s → Vals vs us → us.length = ps.length →
    wpAny (model X.prog X.w) X.A (assignInOrder ((capM ps us).map fun (n, _) => bindName X.env n) ((capM ps us).map (·.2))) (fun _ s' => Inv X pins (bindS is vs σ) H s') X.xe s
section
variable {X : Cx}
theorem pcm_nil : PCapM X [] [] := ⟨fun pins s σ H vs us I r hl => by
  have e : us = [] := List.length_eq_zero_iff.mp hl
  subst e
  cases r
  exact wpAny_assignInOrder_none I⟩
theorem pcm_name (i : Nat) {x : Str} {pos : Pos} {ps : List Pattern} {is : List (Option Nat)} (hN : X.N.Nodup) (hi : X.N[i]? = some x) (hx : Loc X.env.scope x) (h : PCapM X ps is) (hf : X.fn x = true ∨ X.env.scope.names.lookup x = some .local := by first | exact .inl rfl | exact .inr rfl) :
    PCapM X (.MatchAs none (some x) pos :: ps) (some i :: is) := ⟨fun pins s σ H vs us I r hl => by
  cases r with
  | nil => simp at hl
  | cons rv rr =>
    refine wpAny_assignInOrder_more (wpAny_bindName (store_ok I hN hi hx rv (fun s' I' => ?_) hf))
    exact h.run pins s' _ H _ _ I' rr (by simpa using hl)⟩
theorem pcm_wild {pos : Pos} {ps : List Pattern} {is : List (Option Nat)} (h : PCapM X ps is) : PCapM X (.MatchAs none none pos :: ps) (none :: is) := ⟨fun pins s σ H vs us I r hl => by
  cases r with
  | nil => simp at hl
  | cons rv rr => exact h.run pins s _ H _ _ I rr (by simpa using hl)⟩
theorem pcm_word {w : Str} {j : Nat} {p1 p2 : Pos} {ps : List Pattern} {is : List (Option Nat)} (h : PCapM X ps is) : PCapM X (.MatchValue (.Constant (.str w) j p1) p2 :: ps) (none :: is) := ⟨fun pins s σ H vs us I r hl => by
  cases r with
  | nil => simp at hl
  | cons rv rr => exact h.run pins s _ H _ _ I rr (by simpa using hl)⟩
/-- a list of words -/
def tMatW (K : PySem.W.Frag) (ws : List (Option Str)) (is : List (Option Nat)) (body : TS) (rest : V → TS) : V → TS := fun v D σ H => ∃ (a : Addr) (ys : List Str), v = .ref a ∧ SqL K H a (ys.map V.str) ∧ if fitS ws ys = true then body D (bindS is (ys.map V.str) σ) H else rest v D σ H
theorem pcs_strs {ps : List Pattern} {is : List (Option Nat)} {p3 : Pos} {body : List Stmt} {rest : List MatchCase} {tb : TS} {tr : V → TS} (hc : X.calm = true) (ho : OpR X (compareOp .Eq) rEq) (hp : PCapM X ps is) (hb : PSs X body tb) (hr : PCs X rest tr) (hi : isPat ps = true := by rfl)
    (hs : ps.findIdx? (·.isStar) = none := by rfl) (hw : (ps.all fun p => p.isWildcard || (p.isStar && p.names.isEmpty)) = false := by rfl) :
    PCs X (⟨.MatchSequence ps p3, none, body⟩ :: rest) (tMatW X.K (patW ps) is tb tr) := by
  refine ⟨fun first pins s σ H D v u I rv h => ?_⟩
  obtain ⟨a, ys, rfl, hx, h⟩ := h
  cases (show u = Value.ref a from rv)
  obtain ⟨its, ri, ht, hz⟩ := I.list hx
  have hl := ri.length
  rw [List.length_map] at hl
  have hfit : ((its.toArray.size : Nat) : Int) < 2 ^ 63 := by
    have h1 : its.length ≤ sizeLine := by rw [List.length_map] at hz; omega
    have h2 : sizeLine < 2 ^ 63 := by decide
    have h3 : its.toArray.size < 2 ^ 63 := Nat.lt_of_le_of_lt (by simpa using h1) h2
    omega
  by_cases hn : its.toArray.size = ps.length
  · refine wpAny_matchCases_cons (matchSeq_list_hit ht.isList hfit hn ?_ hs hw)
    rw [← hn]
    refine PySem.W.kun_itemsOf (I.ok.hd hc) ht.isList fun h' hk => ?_
    have I2 : Inv X pins σ H { s with heap := h', toks := s.toks + 1 + 1 } := I.kept fun b o e => hk b o (Nat.ne_of_lt (Heap.lt_size e)) e
    refine each_pat ho hi I2 ri (by simpa using hn) fun s' I' => ?_
    by_cases hf : fitS (patW ps) ys = true
    · rw [if_pos hf] at h ⊢
      refine thn (hp.run pins s' σ H _ _ I' ri (by simpa using hn)) fun _ s4 I4 => ?_
      exact hb.run pins s4 _ H D I4 h
    · rw [if_neg hf] at h ⊢
      exact hr.run false pins s' σ H D (.ref a) _ I' rfl h
  · have hf : ¬ fitS (patW ps) ys = true := fun z => by
      have := fitS_len z
      rw [patW_len] at this
      refine hn ?_
      simp
      omega
    rw [if_neg hf] at h
    refine wpAny_matchCases_cons (matchSeq_list_miss ht.isList hfit hn ?_ hs hw)
    exact hr.run false pins _ σ H D (.ref a) _ (I.tok _) rfl h
end
theorem x_matW {σ : L2.St} {H : Hp} {D : Ends} {K : PySem.W.Frag} {ws : List (Option Str)} {is : List (Option Nat)} {body : TS} {rest : V → TS} {a : Addr} {ys : List Str} (ha : H a = some (.lst (ys.map V.str))) (h : if fitS ws ys = true then body D (bindS is (ys.map V.str) σ) H else rest (.ref a) D σ H) : tMatW K ws is body rest (.ref a) D σ H :=
  ⟨a, ys, rfl, .inl (.inl ha), h⟩
end Br

/-! ### texts as lists of signs: numbers, words, nodes; a match over words -/
namespace Br
open PySem PySem.Spec PyProof.Rows L2
abbrev tS (l : List Nat) : Str := SX.S l
theorem tS_tl (x : Str) : tS (TL.tl x) = x := TL.mk_tl x
/-- a sign that is a figure -/
def dig (c : Nat) : Bool := decide (48 ≤ c) && decide (c ≤ 57)
theorem tS_len (w : List Nat) : (tS w).length = w.length := SX.S_len w
theorem tS_asc (w : List Nat) : Txt.isascii (tS w) = w.all fun c => decide (c < 128) := by
  unfold Txt.isascii
  all_goals exact (Array.all_toList ..).symm
theorem dig_uni {c : Nat} (h : c < 128) : Unicode.isDigit c = dig c := by
  have k : ∀ n : _root_.Fin 128, Unicode.isDigit n.val = dig n.val := by decide +kernel
  exact k ⟨c, h⟩
theorem tS_dig {w : List Nat} (h : (w.all fun c => decide (c < 128)) = true) : Txt.isdigit (tS w) = (decide (w ≠ []) && w.all dig) := by
  unfold Txt.isdigit
  rw [← Array.all_toList, tS_len]
  have e1 : decide (w.length > 0) = decide (w ≠ []) := by
    cases w with
    | nil => rfl
    | cons a l => rw [decide_eq_true (by simp), decide_eq_true (by simp)]
  have e2 : w.all Unicode.isDigit = w.all dig := by
    rw [Bool.eq_iff_iff, List.all_eq_true, List.all_eq_true]
    rw [List.all_eq_true] at h
    exact ⟨fun z c hc => by rw [← dig_uni (of_decide_eq_true (h c hc))]; exact z c hc, fun z c hc => by rw [dig_uni (of_decide_eq_true (h c hc))]; exact z c hc⟩
  rw [e1]
  show (_ && w.all Unicode.isDigit) = _
  rw [e2]
/-- the number that a word writes -/
def numO (mx : Nat) (w : List Nat) : Option Nat := if w.length ≤ mx ∧ w ≠ [] ∧ w.all dig = true ∧ ¬ (w.head? = some 48 ∧ 1 < w.length) then some (NumText.digitsVal w) else none
theorem dig_asc {w : List Nat} (h : w.all dig = true) : (w.all fun c => decide (c < 128)) = true := by
  rw [List.all_eq_true] at h ⊢
  intro c hc
  have h1 : (decide (48 ≤ c) && decide (c ≤ 57)) = true := h c hc
  rw [Bool.and_eq_true, decide_eq_true_iff, decide_eq_true_iff] at h1
  exact decide_eq_true (by omega)
theorem dig_int {w : List Nat} (h : w.all dig = true) (hne : w ≠ []) (hl : w.length ≤ 640) : intText? (tS w) = some ((NumText.digitsVal w : Nat) : Int) := SX.int_S h hne (by omega)
theorem numL_dig (n : Nat) : (TL.numL n).all dig = true := by
  rw [List.all_eq_true]
  intro c hc
  have := TL.numL_digits n c hc
  show (decide (48 ≤ c) && decide (c ≤ 57)) = true
  rw [Bool.and_eq_true, decide_eq_true_iff, decide_eq_true_iff]
  exact this
theorem numL_head : ∀ n : Nat, 1 ≤ n → (TL.numL n).head? ≠ some 48 := by
  intro n
  induction n using Nat.strongRecOn with
  | _ n ih =>
    intro h1
    by_cases h : n < 10
    · rw [TL.numL_lt h]
      intro z
      have : 48 + n = 48 := Option.some.inj z
      omega
    · rw [TL.numL_step (by omega)]
      have hne := TL.numL_ne (n / 10)
      have := ih (n / 10) (by omega) (by omega)
      cases hd : TL.numL (n / 10) with
      | nil => exact absurd hd hne
      | cons a l => rw [hd] at this; exact this
theorem numO_num {n k : Nat} (hk : 0 < k) (h : n < 10 ^ k) : numO k (TL.numL n) = some n := by
  have h4 : ¬ ((TL.numL n).head? = some 48 ∧ 1 < (TL.numL n).length) := fun z => by
    by_cases h0 : n = 0
    · subst h0
      have h5 : (TL.numL 0).length = 1 := rfl
      omega
    · exact numL_head n (by omega) z.1
  unfold numO
  rw [if_pos ⟨TL.numL_len hk h, TL.numL_ne n, numL_dig n, h4⟩, TL.numL_val]
/-! ### words of a node -/
def idxN (k : Nat) : List Nat := 35 :: TL.numL k
def wordsN : SN → List (List Nat)
  | .con c => [TL.numL c]
  | .inp k => [36 :: TL.numL k]
  | .sum i j => [idxN i, [43], idxN j]
  | .prod i j => [idxN i, [42], idxN j]
  | .scl c i => [TL.numL c, [42], idxN i]
  | .cho i j l => [idxN i, [63], idxN j, [58], idxN l]
def textN (n : SN) : List Nat := TL.joinL [32] (wordsN n)
def textS (ns : List SN) : List Nat := TL.joinL [59, 32] (ns.map textN)
/-! ### what a word, a node says -/
def optD : Option Nat → PyData
  | some n => .int (n : Int)
  | none => .none
def idxO (sign : Nat) (w : List Nat) : Option Nat := if w.head? = some sign then numO 9 (w.drop 1) else none
def leafD (w : List Nat) : PyData := if w.head? = some 36 then .tuple [.str "input", optD (idxO 36 w)] else .tuple [.str "const", optD (numO 9 w)]
/-- do the words fit a pattern -/
def fitW : List (Option (List Nat)) → List (List Nat) → Bool
  | [], [] => true
  | none :: ps, _ :: ws => fitW ps ws
  | some p :: ps, w :: ws => decide (w = p) && fitW ps ws
  | _, _ => false
def nodeW (ws : List (List Nat)) : PyData :=
  if fitW [none] ws then leafD (ws.getD 0 [])
  else if fitW [none, some [43], none] ws then .tuple [.str "sum", optD (idxO 35 (ws.getD 0 [])), optD (idxO 35 (ws.getD 2 []))]
  else if fitW [none, some [42], none] ws then
    (if (ws.getD 0 []).head? = some 35 then .tuple [.str "product", optD (idxO 35 (ws.getD 0 [])), optD (idxO 35 (ws.getD 2 []))]
     else .tuple [.str "scaled", optD (numO 9 (ws.getD 0 [])), optD (idxO 35 (ws.getD 2 []))])
  else if fitW [none, some [63], none, some [58], none] ws then .tuple [.str "choose", optD (idxO 35 (ws.getD 0 [])), optD (idxO 35 (ws.getD 2 [])), optD (idxO 35 (ws.getD 4 []))]
  else .none
def nodeT (t : List Nat) : PyData := nodeW (TL.spl [32] 0 [] t)
def parseD (t : List Nat) : PyData := .tuple ((TL.spl [59, 32] 0 [] t).map nodeT)
theorem numL_free9 {n s : Nat} (h : s < 48 ∨ 57 < s) : s ∉ TL.numL n := TL.numL_free h
theorem idxO_num {s k : Nat} (h : k < 1000000000) : idxO s (s :: TL.numL k) = some k := by
  unfold idxO
  rw [if_pos (show (s :: TL.numL k).head? = some s from rfl)]
  exact numO_num (k := 9) (by decide) (by omega)
theorem numL_no_head {n s : Nat} (h : s < 48 ∨ 57 < s) : (TL.numL n).head? ≠ some s := fun z => by
  have := TL.numL_free (n := n) h
  cases hd : TL.numL n with
  | nil => rw [hd] at z; cases z
  | cons a l =>
    rw [hd] at z this
    cases z
    exact this List.mem_cons_self
theorem nodeW_words {n : SN} {m : Nat} (ok : SnOk m n) (hm : m ≤ 1000000000) : nodeW (wordsN n) = snD n := by
  cases n with
  | con c =>
    have ok : c < 1000000000 := ok
    show leafD (TL.numL c) = _
    unfold leafD
    rw [if_neg (numL_no_head (by omega)), numO_num (k := 9) (by decide) (by omega)]
    rfl
  | inp k =>
    have ok : k < 60 := ok
    show leafD (36 :: TL.numL k) = _
    unfold leafD
    rw [if_pos (show (36 :: TL.numL k).head? = some 36 from rfl), idxO_num (by omega)]
    rfl
  | sum i j =>
    have ok : i < m ∧ j < m := ok
    show PyData.tuple [.str "sum", optD (idxO 35 (idxN i)), optD (idxO 35 (idxN j))] = _
    unfold idxN
    rw [idxO_num (by omega), idxO_num (by omega)]
    rfl
  | prod i j =>
    have ok : i < m ∧ j < m := ok
    show PyData.tuple [.str "product", optD (idxO 35 (idxN i)), optD (idxO 35 (idxN j))] = _
    unfold idxN
    rw [idxO_num (by omega), idxO_num (by omega)]
    rfl
  | scl c i =>
    have ok : c < 1000000000 ∧ i < m := ok
    show (if (TL.numL c).head? = some 35 then _ else PyData.tuple [.str "scaled", optD (numO 9 (TL.numL c)), optD (idxO 35 (idxN i))]) = _
    rw [if_neg (numL_no_head (by omega)), numO_num (k := 9) (by decide) (by omega)]
    unfold idxN
    rw [idxO_num (by omega)]
    rfl
  | cho i j l =>
    have ok : i < m ∧ j < m ∧ l < m := ok
    show PyData.tuple [.str "choose", optD (idxO 35 (idxN i)), optD (idxO 35 (idxN j)), optD (idxO 35 (idxN l))] = _
    unfold idxN
    rw [idxO_num (by omega), idxO_num (by omega), idxO_num (by omega)]
    rfl
theorem words_ne {n : SN} : wordsN n ≠ [] := by cases n <;> exact fun z => by cases z
theorem words_free {n : SN} {s : Nat} (h : s = 32 ∨ s = 59) : ∀ p ∈ wordsN n, s ∉ p := by
  have hn : ∀ k, s ∉ TL.numL k := fun k => TL.numL_free (by omega)
  have h1 : ∀ k, s ∉ idxN k := fun k z => by
    rcases List.mem_cons.mp z with e | e
    · omega
    · exact hn k e
  have h2 : ∀ k, s ∉ 36 :: TL.numL k := fun k z => by
    rcases List.mem_cons.mp z with e | e
    · omega
    · exact hn k e
  have h3 : s ∉ [43] := fun z => by have := List.mem_singleton.mp z; omega
  have h4 : s ∉ [42] := fun z => by have := List.mem_singleton.mp z; omega
  have h5 : s ∉ [63] := fun z => by have := List.mem_singleton.mp z; omega
  have h6 : s ∉ [58] := fun z => by have := List.mem_singleton.mp z; omega
  have c : ∀ {a : List Nat} {l : List (List Nat)}, s ∉ a → (∀ p ∈ l, s ∉ p) → ∀ p ∈ a :: l, s ∉ p := fun ha hl p hp => (List.mem_cons.mp hp).elim (fun e => by rw [e]; exact ha) (hl p)
  have z : ∀ p ∈ ([] : List (List Nat)), s ∉ p := fun p hp => by cases hp
  cases n with
  | con k => exact c (hn k) z
  | inp k => exact c (h2 k) z
  | sum i j => exact c (h1 i) (c h3 (c (h1 j) z))
  | prod i j => exact c (h1 i) (c h4 (c (h1 j) z))
  | scl i j => exact c (hn i) (c h4 (c (h1 j) z))
  | cho i j l => exact c (h1 i) (c h5 (c (h1 j) (c h6 (c (h1 l) z))))
theorem joinL_free {s : Nat} {S : List Nat} (hS : s ∉ S) : ∀ {ps : List (List Nat)}, (∀ p ∈ ps, s ∉ p) → s ∉ TL.joinL S ps
  | [], _ => by intro z; cases z
  | [p], h => h p (List.mem_singleton.mpr rfl)
  | p :: q :: r, h => by
    intro z
    have z : s ∈ p ++ (S ++ TL.joinL S (q :: r)) := z
    rcases List.mem_append.mp z with z | z
    · exact h p List.mem_cons_self z
    · rcases List.mem_append.mp z with z | z
      · exact hS z
      · exact joinL_free hS (fun p hp => h p (List.mem_cons_of_mem _ hp)) z
theorem nodeT_text {n : SN} {m : Nat} (ok : SnOk m n) (hm : m ≤ 1000000000) : nodeT (textN n) = snD n := by
  unfold nodeT textN
  rw [SX.spl_join words_ne (words_free (.inl rfl)), nodeW_words ok hm]
theorem textN_free {n : SN} : 59 ∉ textN n := joinL_free (by decide) (words_free (.inr rfl))
theorem parse_text {ns : List SN} (ok : SsOk ns) : parseD (textS ns) = .tuple (ns.map snD) := by
  unfold parseD textS
  rw [SX.spl_join (fun z => by
    have h1 := ok.l1
    have h2 := congrArg List.length z
    rw [List.length_map] at h2
    have h2 : ns.length = 0 := h2
    omega) (fun p hp => by
    obtain ⟨n, _, rfl⟩ := List.mem_map.mp hp
    exact textN_free), List.map_map]
  refine congrArg PyData.tuple (List.map_congr_left fun n hn => ?_)
  obtain ⟨i, hi⟩ := List.getElem?_of_mem hn
  exact nodeT_text (ok.ok i n hi) (by have := (List.getElem?_eq_some_iff.mp hi).1; have := ok.l2; omega)
/-! ### lengths -/
theorem numL_len9 {n : Nat} (h : n < 1000000000) : (TL.numL n).length ≤ 9 := TL.numL_len (k := 9) (by decide) (by omega)
theorem joinL_len {S : List Nat} {B : Nat} : ∀ {ps : List (List Nat)}, (∀ p ∈ ps, p.length ≤ B) → (TL.joinL S ps).length ≤ ps.length * (B + S.length)
  | [], _ => Nat.zero_le _
  | [p], h => by
    have := h p (List.mem_singleton.mpr rfl)
    show p.length ≤ 1 * (B + S.length)
    omega
  | p :: q :: r, h => by
    have h1 := h p List.mem_cons_self
    have h2 := joinL_len (S := S) (ps := q :: r) fun p hp => h p (List.mem_cons_of_mem _ hp)
    show (p ++ (S ++ TL.joinL S (q :: r))).length ≤ _
    rw [List.length_append, List.length_append]
    have e : (p :: q :: r).length * (B + S.length) = (q :: r).length * (B + S.length) + (B + S.length) := Nat.succ_mul _ _
    omega
theorem words_len {n : SN} {m : Nat} (ok : SnOk m n) (hm : m ≤ 1000000000) : (wordsN n).length ≤ 5 ∧ ∀ p ∈ wordsN n, p.length ≤ 10 := by
  have hn : ∀ {k}, k < 1000000000 → (TL.numL k).length ≤ 10 := fun h => Nat.le_trans (numL_len9 h) (by decide)
  have h1 : ∀ {k}, k < 1000000000 → (idxN k).length ≤ 10 := fun h => Nat.succ_le_succ (numL_len9 h)
  have h2 : ∀ {k}, k < 1000000000 → (36 :: TL.numL k).length ≤ 10 := fun h => Nat.succ_le_succ (numL_len9 h)
  have hs : ∀ {c : Nat}, ([c] : List Nat).length ≤ 10 := by intro c; show 1 ≤ 10; decide
  have c : ∀ {a : List Nat} {l : List (List Nat)}, a.length ≤ 10 → (∀ p ∈ l, p.length ≤ 10) → ∀ p ∈ a :: l, p.length ≤ 10 := fun ha hl p hp => (List.mem_cons.mp hp).elim (fun e => by rw [e]; exact ha) (hl p)
  have z : ∀ p ∈ ([] : List (List Nat)), p.length ≤ 10 := fun p hp => by cases hp
  cases n with
  | con k => exact ⟨by show 1 ≤ 5; decide, c (hn ok) z⟩
  | inp k => have ok : k < 60 := ok; exact ⟨by show 1 ≤ 5; decide, c (h2 (by omega)) z⟩
  | sum i j => have ok : i < m ∧ j < m := ok; exact ⟨by show 3 ≤ 5; decide, c (h1 (by omega)) (c hs (c (h1 (by omega)) z))⟩
  | prod i j => have ok : i < m ∧ j < m := ok; exact ⟨by show 3 ≤ 5; decide, c (h1 (by omega)) (c hs (c (h1 (by omega)) z))⟩
  | scl i j => have ok : i < 1000000000 ∧ j < m := ok; exact ⟨by show 3 ≤ 5; decide, c (hn ok.1) (c hs (c (h1 (by omega)) z))⟩
  | cho i j l => have ok : i < m ∧ j < m ∧ l < m := ok; exact ⟨by show 5 ≤ 5; decide, c (h1 (by omega)) (c hs (c (h1 (by omega)) (c hs (c (h1 (by omega)) z))))⟩
theorem textN_len {n : SN} {m : Nat} (ok : SnOk m n) (hm : m ≤ 1000000000) : (textN n).length ≤ 55 := by
  obtain ⟨h1, h2⟩ := words_len ok hm
  have := joinL_len (S := [32]) h2
  have : (wordsN n).length * (10 + 1) ≤ 5 * 11 := Nat.mul_le_mul_right _ h1
  show (TL.joinL [32] (wordsN n)).length ≤ 55
  have e : (wordsN n).length * (10 + ([32] : List Nat).length) = (wordsN n).length * (10 + 1) := rfl
  omega
theorem textS_len {ns : List SN} (ok : SsOk ns) : (textS ns).length ≤ 12000 := by
  have h2 : ∀ p ∈ ns.map textN, p.length ≤ 55 := fun p hp => by
    obtain ⟨n, hn, rfl⟩ := List.mem_map.mp hp
    obtain ⟨i, hi⟩ := List.getElem?_of_mem hn
    exact textN_len (ok.ok i n hi) (by have := (List.getElem?_eq_some_iff.mp hi).1; have := ok.l2; omega)
  have h3 := joinL_len (S := [59, 32]) h2
  have h4 : (ns.map textN).length * (55 + 2) ≤ 200 * 57 := Nat.mul_le_mul_right _ (by rw [List.length_map]; exact ok.l2)
  have e : (ns.map textN).length * (55 + ([59, 32] : List Nat).length) = (ns.map textN).length * (55 + 2) := rfl
  show (TL.joinL [59, 32] (ns.map textN)).length ≤ 12000
  omega
theorem spl_len : ∀ (S : List Nat) (l : List Nat) (k : Nat) (acc : List Nat), (TL.spl S k acc l).length ≤ l.length + 1
  | S, [], k, acc => by rw [TL.spl_nil]; exact Nat.le_refl _
  | S, c :: r, 0, acc => by
    by_cases h : TL.pre S (c :: r) = true
    · rw [TL.spl_hit h]
      have := spl_len S r (S.length - 1) []
      show _ + 1 ≤ r.length + 1 + 1
      omega
    · rw [Bool.not_eq_true] at h
      rw [TL.spl_miss h]
      have := spl_len S r 0 (acc ++ [c])
      show _ ≤ r.length + 1 + 1
      omega
  | S, c :: r, k + 1, acc => by
    have := spl_len S r k acc
    show (TL.spl S k acc r).length ≤ r.length + 1 + 1
    omega
theorem startsS {w : List Nat} {c : Nat} : Txt.startswith (tS w) (tS [c]) = decide (w.head? = some c) := by
  unfold Txt.startswith
  rw [tS_len, tS_len]
  have e : Builtin.Str.subAt (tS w) (tS [c]) 0 = (w.take 1 == [c]) := by
    rw [PySem.StrLaws.subAt_eq]
    rfl
  rw [e]
  cases w with
  | nil => rfl
  | cons a l =>
    show (decide (0 + 1 ≤ l.length + 1) && ([a] == [c])) = _
    rw [decide_eq_true (by omega), Bool.true_and]
    by_cases h : a = c
    · subst h
      rw [decide_eq_true (show (a :: l).head? = some a from rfl)]
      simp
    · rw [decide_eq_false (show ¬ (a :: l).head? = some c from fun z => h (Option.some.inj z))]
      simp [h]
end Br

/-! ### the law's own reading of texts -/
namespace Br
open PySem PySem.Spec PyProof.Rows L2
theorem fold_bound : ∀ (l : List Nat) (a : Nat), l.all dig = true → a * 10 ^ l.length ≤ l.foldl (fun acc c => acc * 10 + (c - 48)) a ∧ l.foldl (fun acc c => acc * 10 + (c - 48)) a < (a + 1) * 10 ^ l.length
  | [], a, _ => by
    show a * 10 ^ 0 ≤ a ∧ a < (a + 1) * 10 ^ 0
    rw [Nat.pow_zero]; omega
  | c :: l, a, h => by
    have h : (dig c && l.all dig) = true := h
    rw [Bool.and_eq_true] at h
    have hc : (decide (48 ≤ c) && decide (c ≤ 57)) = true := h.1
    rw [Bool.and_eq_true, decide_eq_true_iff, decide_eq_true_iff] at hc
    obtain ⟨h1, h2⟩ := fold_bound l (a * 10 + (c - 48)) h.2
    have e : (c :: l).length = l.length + 1 := rfl
    show a * 10 ^ (c :: l).length ≤ l.foldl _ (a * 10 + (c - 48)) ∧ l.foldl _ (a * 10 + (c - 48)) < (a + 1) * 10 ^ (c :: l).length
    rw [e, Nat.pow_succ]
    have hp : 0 < 10 ^ l.length := Nat.pow_pos (by decide)
    have m1 : (a * 10) * 10 ^ l.length ≤ (a * 10 + (c - 48)) * 10 ^ l.length := Nat.mul_le_mul_right _ (by omega)
    have m2 : (a * 10 + (c - 48) + 1) * 10 ^ l.length ≤ ((a + 1) * 10) * 10 ^ l.length := Nat.mul_le_mul_right _ (by omega)
    have e1 : a * (10 ^ l.length * 10) = (a * 10) * 10 ^ l.length := by rw [Nat.mul_comm (10 ^ l.length), Nat.mul_assoc]
    have e2 : (a + 1) * (10 ^ l.length * 10) = ((a + 1) * 10) * 10 ^ l.length := by rw [Nat.mul_comm (10 ^ l.length), Nat.mul_assoc]
    rw [e1, e2]
    omega
theorem val_lt {w : List Nat} (h : w.all dig = true) : NumText.digitsVal w < 10 ^ w.length := by
  have := (fold_bound w 0 h).2
  unfold NumText.digitsVal
  omega
theorem val_ge {c : Nat} {w : List Nat} (h : (c :: w).all dig = true) (hc : c ≠ 48) : 10 ^ w.length ≤ NumText.digitsVal (c :: w) := by
  have h' : (dig c && w.all dig) = true := h
  rw [Bool.and_eq_true] at h'
  have hd : (decide (48 ≤ c) && decide (c ≤ 57)) = true := h'.1
  rw [Bool.and_eq_true, decide_eq_true_iff, decide_eq_true_iff] at hd
  have := (fold_bound w (0 * 10 + (c - 48)) h'.2).1
  have m : 1 * 10 ^ w.length ≤ (0 * 10 + (c - 48)) * 10 ^ w.length := Nat.mul_le_mul_right _ (by omega)
  show 10 ^ w.length ≤ w.foldl _ (0 * 10 + (c - 48))
  omega
/-- the law's count -/
def countO (b : Nat) (w : List Nat) : Option Nat := if 1 ≤ w.length ∧ w.length ≤ 12 ∧ w.all dig = true ∧ ¬ (w.head? = some 48 ∧ 1 < w.length) ∧ NumText.digitsVal w < b then some (NumText.digitsVal w) else none
theorem count_num {b n : Nat} {w : List Nat} (hb : b ≤ 1000000000) : countO b w = some n ↔ numO 9 w = some n ∧ n < b := by
  unfold countO numO
  constructor
  · intro h
    split at h
    · rename_i hc
      obtain ⟨h1, h2, h3, h4, h5⟩ := hc
      cases h
      have h9 : w.length ≤ 9 := by
        refine Nat.le_of_not_lt fun z => ?_
        match w, h1, h3, h4, h5 with
        | c :: r, _, h3, h4, h5 =>
          have hc : c ≠ 48 := fun e => h4 ⟨by rw [e]; rfl, by omega⟩
          have := val_ge h3 hc
          have hr : 9 ≤ r.length := by have : (c :: r).length = r.length + 1 := rfl; omega
          have := Nat.pow_le_pow_right (show 0 < 10 by decide) hr
          omega
      rw [if_pos ⟨h9, fun z => by rw [z] at h1; simp at h1, h3, h4⟩]
      exact ⟨rfl, h5⟩
    · cases h
  · rintro ⟨h, hn⟩
    split at h
    · rename_i hc
      obtain ⟨h1, h2, h3, h4⟩ := hc
      cases h
      have hl : 1 ≤ w.length := by cases w with | nil => exact absurd rfl h2 | cons a l => simp
      rw [if_pos ⟨hl, by omega, h3, h4, hn⟩]
    · cases h
theorem count_yes {b n : Nat} {w : List Nat} (hb : b ≤ 1000000000) (h : countO b w = some n) : optD (numO 9 w) = .int (n : Int) ∧ n < b := by
  have := (count_num hb).mp h
  rw [this.1]
  exact ⟨rfl, this.2⟩
theorem count_no {b : Nat} {w : List Nat} (hb : b ≤ 1000000000) (h : countO b w = none) : isBD (b : Int) (optD (numO 9 w)) = false := by
  cases hn : numO 9 w with
  | none => rfl
  | some n =>
    have : ¬ n < b := fun z => by rw [(count_num hb).mpr ⟨hn, z⟩] at h; cases h
    show (decide ((0 : Int) ≤ (n : Int)) && decide ((n : Int) < (b : Int))) = false
    rw [decide_eq_false (show ¬ (n : Int) < (b : Int) by omega), Bool.and_false]
/-- the law's reference -/
def refO (at0 : Nat) (w : List Nat) : Option Nat := if w.head? = some 35 then countO at0 (w.drop 1) else none
theorem ref_yes {b n : Nat} {w : List Nat} (hb : b ≤ 1000000000) (h : refO b w = some n) : optD (idxO 35 w) = .int (n : Int) ∧ n < b ∧ w.head? = some 35 := by
  unfold refO at h
  unfold idxO
  split at h
  · rename_i hc
    rw [if_pos hc]
    exact ⟨(count_yes hb h).1, (count_yes hb h).2, hc⟩
  · cases h
theorem ref_no {b : Nat} {w : List Nat} (hb : b ≤ 1000000000) (h : refO b w = none) : isBD (b : Int) (optD (idxO 35 w)) = false := by
  unfold refO at h
  unfold idxO
  split at h
  · rename_i hc
    rw [if_pos hc]
    exact count_no hb h
  · rename_i hc
    rw [if_neg hc]
    rfl
/-- what the law reads: a node, or nothing -/
def readW (at0 : Nat) (ws : List (List Nat)) : Option SN := if snodeD (at0 : Int) (nodeW ws) = true then some (snOf (nodeW ws)) else none
theorem read_yes {at0 : Nat} {ws : List (List Nat)} {n : SN} (h : nodeW ws = snD n) (ok : SnOk at0 n) : readW at0 ws = some n := by
  unfold readW
  rw [if_pos (snodeD_iff.mpr ⟨n, h, ok⟩), h, snOf_snD]
theorem read_no {at0 : Nat} {ws : List (List Nat)} (h : snodeD (at0 : Int) (nodeW ws) = false) : readW at0 ws = none := by
  unfold readW
  rw [if_neg (by rw [h]; exact Bool.false_ne_true)]
theorem read_some {at0 : Nat} {ws : List (List Nat)} {n : SN} (h : readW at0 ws = some n) : nodeW ws = snD n ∧ SnOk at0 n := by
  unfold readW at h
  split at h
  · rename_i hc
    obtain ⟨m, e, ok⟩ := snodeD_iff.mp hc
    rw [e, snOf_snD] at h
    cases h
    exact ⟨e, ok⟩
  · cases h
theorem spl_one {S t w : List Nat} (hS : S ≠ []) (hk : S.all (· < 256) = true) (h : TL.spl S 0 [] t = [w]) : w = t := by
  have e1 : Txt.split (tS t) (tS S) = [tS w] := by rw [SX.split_S hS hk, h]; rfl
  have e2 := PySem.StrLaws.join_split (tS t) (tS S)
  rw [e1] at e2
  exact SX.S_inj e2
theorem spl_ne : ∀ (S l : List Nat) (k : Nat) (acc : List Nat), TL.spl S k acc l ≠ []
  | S, [], k, acc => by rw [TL.spl_nil]; exact fun z => by cases z
  | S, c :: r, 0, acc => by
    by_cases h : TL.pre S (c :: r) = true
    · rw [TL.spl_hit h]; exact fun z => by cases z
    · rw [Bool.not_eq_true] at h
      rw [TL.spl_miss h]; exact spl_ne S r 0 _
  | S, c :: r, k + 1, acc => spl_ne S r k acc
end Br








namespace Br
open PySem PySem.Spec PyProof.Rows L2
def topS (i : Nat) : Stmt := PySem.Challenge.pw_brimful_k14_texts_are_parsed.main.body.getD i (.Pass ⟨0, 0, 0, 0⟩)
abbrev s_is_below : Stmt := topS 5
abbrev N_is_below : List Str := ["value", "bound"]
theorem sc_is_below : FnScope N_is_below ["value", "bound"] (defScope s_is_below) := ⟨rfl, rfl, rfl, by decide +kernel, rfl, by decide +kernel, by decide +kernel⟩
abbrev s_are_nodes : Stmt := topS 9
abbrev N_are_nodes : List Str := ["source", "node"]
theorem sc_are_nodes : FnScope N_are_nodes ["source"] (defScope s_are_nodes) := ⟨rfl, rfl, rfl, by decide +kernel, rfl, by decide +kernel, by decide +kernel⟩
abbrev s_is_input : Stmt := topS 10
abbrev N_is_input : List Str := ["k"]
theorem sc_is_input : FnScope N_is_input ["k"] (defScope s_is_input) := ⟨rfl, rfl, rfl, by decide +kernel, rfl, by decide +kernel, by decide +kernel⟩
abbrev s_are_before : Stmt := topS 11
abbrev N_are_before : List Str := ["at", "references", "reference"]
theorem sc_are_before : FnScope N_are_before ["at", "references"] (defScope s_are_before) := ⟨rfl, rfl, rfl, by decide +kernel, rfl, by decide +kernel, by decide +kernel⟩
abbrev s_number_in : Stmt := topS 13
abbrev N_number_in : List Str := ["word", "most_figures"]
theorem sc_number_in : FnScope N_number_in ["word", "most_figures"] (defScope s_number_in) := ⟨rfl, rfl, rfl, by decide +kernel, rfl, by decide +kernel, by decide +kernel⟩
abbrev s_is_source : Stmt := topS 17
abbrev N_is_source : List Str := ["source", "at", "node"]
theorem sc_is_source : FnScope N_is_source ["source"] (defScope s_is_source) := ⟨rfl, rfl, rfl, by decide +kernel, rfl, by decide +kernel, by decide +kernel⟩
abbrev s_is_node : Stmt := topS 18
abbrev N_is_node : List Str := ["node", "at", "c", "k", "i", "j", "other"]
theorem sc_is_node : FnScope N_is_node ["node", "at"] (defScope s_is_node) := ⟨rfl, rfl, rfl, by decide +kernel, rfl, by decide +kernel, by decide +kernel⟩
abbrev s_parse_source : Stmt := topS 19
abbrev N_parse_source : List Str := ["text", "source", "part"]
theorem sc_parse_source : FnScope N_parse_source ["text"] (defScope s_parse_source) := ⟨rfl, rfl, rfl, by decide +kernel, rfl, by decide +kernel, by decide +kernel⟩
abbrev s_read_node : Stmt := topS 20
abbrev N_read_node : List Str := ["text", "words", "word", "left", "right", "chooser", "one", "other"]
theorem sc_read_node : FnScope N_read_node ["text"] (defScope s_read_node) := ⟨rfl, rfl, rfl, by decide +kernel, rfl, by decide +kernel, by decide +kernel⟩
abbrev s_read_leaf : Stmt := topS 21
abbrev N_read_leaf : List Str := ["word"]
theorem sc_read_leaf : FnScope N_read_leaf ["word"] (defScope s_read_leaf) := ⟨rfl, rfl, rfl, by decide +kernel, rfl, by decide +kernel, by decide +kernel⟩
abbrev s_read_index : Stmt := topS 22
abbrev N_read_index : List Str := ["sign", "word"]
theorem sc_read_index : FnScope N_read_index ["sign", "word"] (defScope s_read_index) := ⟨rfl, rfl, rfl, by decide +kernel, rfl, by decide +kernel, by decide +kernel⟩
abbrev s_law_mixed : Stmt := topS 24
abbrev N_law_mixed : List Str := ["number", "k", "step"]
theorem sc_law_mixed : FnScope N_law_mixed ["number", "k"] (defScope s_law_mixed) := ⟨rfl, rfl, rfl, by decide +kernel, rfl, by decide +kernel, by decide +kernel⟩
abbrev s_law_numbers : Stmt := topS 25
abbrev N_law_numbers : List Str := ["script", "numbers", "cell", "rest", "k"]
theorem sc_law_numbers : FnScope N_law_numbers ["script"] (defScope s_law_numbers) := ⟨rfl, rfl, rfl, by decide +kernel, rfl, by decide +kernel, by decide +kernel⟩
abbrev s_law_draw : Stmt := topS 26
abbrev N_law_draw : List Str := ["draws", "at", "first"]
theorem sc_law_draw : FnScope N_law_draw ["draws"] (defScope s_law_draw) := ⟨rfl, rfl, rfl, by decide +kernel, rfl, by decide +kernel, by decide +kernel⟩
abbrev s_law_equal : Stmt := topS 27
abbrev N_law_equal : List Str := ["actual", "due"]
theorem sc_law_equal : FnScope N_law_equal ["actual", "due"] (defScope s_law_equal) := ⟨rfl, rfl, rfl, by decide +kernel, rfl, by decide +kernel, by decide +kernel⟩
abbrev s_law_all_equal : Stmt := topS 28
abbrev N_law_all_equal : List Str := ["actual", "due", "k"]
theorem sc_law_all_equal : FnScope N_law_all_equal ["actual", "due"] (defScope s_law_all_equal) := ⟨rfl, rfl, rfl, by decide +kernel, rfl, by decide +kernel, by decide +kernel⟩
abbrev s_law_large : Stmt := topS 29
abbrev N_law_large : List Str := ["draws", "bound", "number"]
theorem sc_law_large : FnScope N_law_large ["draws", "bound"] (defScope s_law_large) := ⟨rfl, rfl, rfl, by decide +kernel, rfl, by decide +kernel, by decide +kernel⟩
abbrev s_law_constant : Stmt := topS 32
abbrev N_law_constant : List Str := ["draws", "pick"]
theorem sc_law_constant : FnScope N_law_constant ["draws"] (defScope s_law_constant) := ⟨rfl, rfl, rfl, by decide +kernel, rfl, by decide +kernel, by decide +kernel⟩
abbrev s_law_leaf : Stmt := topS 33
abbrev N_law_leaf : List Str := ["draws", "number"]
theorem sc_law_leaf : FnScope N_law_leaf ["draws"] (defScope s_law_leaf) := ⟨rfl, rfl, rfl, by decide +kernel, rfl, by decide +kernel, by decide +kernel⟩
abbrev s_law_node : Stmt := topS 34
abbrev N_law_node : List Str := ["draws", "costs", "most", "many", "pick", "i", "j", "l", "node", "price"]
theorem sc_law_node : FnScope N_law_node ["draws", "costs", "most"] (defScope s_law_node) := ⟨rfl, rfl, rfl, by decide +kernel, rfl, by decide +kernel, by decide +kernel⟩
abbrev s_law_source : Stmt := topS 35
abbrev N_law_source : List Str := ["draws", "most", "nodes", "costs", "many", "k", "pair"]
theorem sc_law_source : FnScope N_law_source ["draws", "most"] (defScope s_law_source) := ⟨rfl, rfl, rfl, by decide +kernel, rfl, by decide +kernel, by decide +kernel⟩
abbrev s_law_written : Stmt := topS 36
abbrev N_law_written : List Str := ["node"]
theorem sc_law_written : FnScope N_law_written ["node"] (defScope s_law_written) := ⟨rfl, rfl, rfl, by decide +kernel, rfl, by decide +kernel, by decide +kernel⟩
abbrev s_law_count : Stmt := topS 37
abbrev N_law_count : List Str := ["word", "bound", "sign"]
theorem sc_law_count : FnScope N_law_count ["word", "bound"] (defScope s_law_count) := ⟨rfl, rfl, rfl, by decide +kernel, rfl, by decide +kernel, by decide +kernel⟩
abbrev s_law_reference : Stmt := topS 38
abbrev N_law_reference : List Str := ["word", "at"]
theorem sc_law_reference : FnScope N_law_reference ["word", "at"] (defScope s_law_reference) := ⟨rfl, rfl, rfl, by decide +kernel, rfl, by decide +kernel, by decide +kernel⟩
abbrev s_law_read : Stmt := topS 39
abbrev N_law_read : List Str := ["text", "at", "words", "number", "last", "first", "middle"]
theorem sc_law_read : FnScope N_law_read ["text", "at"] (defScope s_law_read) := ⟨rfl, rfl, rfl, by decide +kernel, rfl, by decide +kernel, by decide +kernel⟩
abbrev s_law_parsed : Stmt := topS 40
abbrev N_law_parsed : List Str := ["text", "nodes", "part", "node"]
theorem sc_law_parsed : FnScope N_law_parsed ["text"] (defScope s_law_parsed) := ⟨rfl, rfl, rfl, by decide +kernel, rfl, by decide +kernel, by decide +kernel⟩
abbrev s_law_spoilt : Stmt := topS 41
abbrev N_law_spoilt : List Str := ["draws", "text", "signs", "at", "sign", "pick"]
theorem sc_law_spoilt : FnScope N_law_spoilt ["draws", "text"] (defScope s_law_spoilt) := ⟨rfl, rfl, rfl, by decide +kernel, rfl, by decide +kernel, by decide +kernel⟩
abbrev s_law_by_hand : Stmt := topS 42
abbrev N_law_by_hand : List Str := ["draws", "texts"]
theorem sc_law_by_hand : FnScope N_law_by_hand ["draws"] (defScope s_law_by_hand) := ⟨rfl, rfl, rfl, by decide +kernel, rfl, by decide +kernel, by decide +kernel⟩
abbrev s_law_asked : Stmt := topS 43
abbrev N_law_asked : List Str := ["text", "due", "refused", "source", "e"]
theorem sc_law_asked : FnScope N_law_asked ["text"] (defScope s_law_asked) := ⟨rfl, rfl, rfl, by decide +kernel, rfl, by decide +kernel, by decide +kernel⟩
abbrev s_law : Stmt := topS 44
abbrev N_law : List Str := ["script", "draws", "turn", "text", "node"]
theorem sc_law : FnScope N_law ["script"] (defScope s_law) := ⟨rfl, rfl, rfl, by decide +kernel, rfl, by decide +kernel, by decide +kernel⟩
structure Txt (K : PySem.W.Frag) (mg : Str → Option Value) where
  a_is_below : Addr
  fd_is_below : FuncData
  F_is_below : Fun K "is_below" "is_below" s_is_below a_is_below fd_is_below
  b_is_below : Binds K fd_is_below ["value", "bound"] []
  g_is_below : mg "is_below" = some (.ref a_is_below)
  a_are_nodes : Addr
  fd_are_nodes : FuncData
  F_are_nodes : Fun K "are_nodes" "are_nodes" s_are_nodes a_are_nodes fd_are_nodes
  b_are_nodes : Binds K fd_are_nodes ["source"] []
  g_are_nodes : mg "are_nodes" = some (.ref a_are_nodes)
  a_is_input : Addr
  fd_is_input : FuncData
  F_is_input : Fun K "is_input" "is_input" s_is_input a_is_input fd_is_input
  b_is_input : Binds K fd_is_input ["k"] []
  g_is_input : mg "is_input" = some (.ref a_is_input)
  a_are_before : Addr
  fd_are_before : FuncData
  F_are_before : Fun K "are_before" "are_before" s_are_before a_are_before fd_are_before
  b_are_before : StarB fd_are_before ["at"] "references"
  g_are_before : mg "are_before" = some (.ref a_are_before)
  a_number_in : Addr
  fd_number_in : FuncData
  F_number_in : Fun K "number_in" "number_in" s_number_in a_number_in fd_number_in
  b_number_in : Binds K fd_number_in ["word", "most_figures"] []
  g_number_in : mg "number_in" = some (.ref a_number_in)
  a_is_source : Addr
  fd_is_source : FuncData
  F_is_source : Fun K "_is_source" "_is_source" s_is_source a_is_source fd_is_source
  b_is_source : Binds K fd_is_source ["source"] []
  g_is_source : mg "_is_source" = some (.ref a_is_source)
  a_is_node : Addr
  fd_is_node : FuncData
  F_is_node : Fun K "_is_node" "_is_node" s_is_node a_is_node fd_is_node
  b_is_node : Binds K fd_is_node ["node", "at"] []
  g_is_node : mg "_is_node" = some (.ref a_is_node)
  a_parse_source : Addr
  fd_parse_source : FuncData
  F_parse_source : Fun K "parse_source" "parse_source" s_parse_source a_parse_source fd_parse_source
  b_parse_source : Binds K fd_parse_source ["text"] []
  g_parse_source : mg "parse_source" = some (.ref a_parse_source)
  a_read_node : Addr
  fd_read_node : FuncData
  F_read_node : Fun K "_read_node" "_read_node" s_read_node a_read_node fd_read_node
  b_read_node : Binds K fd_read_node ["text"] []
  g_read_node : mg "_read_node" = some (.ref a_read_node)
  a_read_leaf : Addr
  fd_read_leaf : FuncData
  F_read_leaf : Fun K "_read_leaf" "_read_leaf" s_read_leaf a_read_leaf fd_read_leaf
  b_read_leaf : Binds K fd_read_leaf ["word"] []
  g_read_leaf : mg "_read_leaf" = some (.ref a_read_leaf)
  a_read_index : Addr
  fd_read_index : FuncData
  F_read_index : Fun K "_read_index" "_read_index" s_read_index a_read_index fd_read_index
  b_read_index : Binds K fd_read_index ["sign", "word"] []
  g_read_index : mg "_read_index" = some (.ref a_read_index)
  a_law_mixed : Addr
  fd_law_mixed : FuncData
  F_law_mixed : Fun K "_law_mixed" "_law_mixed" s_law_mixed a_law_mixed fd_law_mixed
  b_law_mixed : Binds K fd_law_mixed ["number", "k"] []
  g_law_mixed : mg "_law_mixed" = some (.ref a_law_mixed)
  a_law_numbers : Addr
  fd_law_numbers : FuncData
  F_law_numbers : Fun K "_law_numbers" "_law_numbers" s_law_numbers a_law_numbers fd_law_numbers
  b_law_numbers : Binds K fd_law_numbers ["script"] []
  g_law_numbers : mg "_law_numbers" = some (.ref a_law_numbers)
  a_law_draw : Addr
  fd_law_draw : FuncData
  F_law_draw : Fun K "_law_draw" "_law_draw" s_law_draw a_law_draw fd_law_draw
  b_law_draw : Binds K fd_law_draw ["draws"] []
  g_law_draw : mg "_law_draw" = some (.ref a_law_draw)
  a_law_equal : Addr
  fd_law_equal : FuncData
  F_law_equal : Fun K "_law_equal" "_law_equal" s_law_equal a_law_equal fd_law_equal
  b_law_equal : Binds K fd_law_equal ["actual", "due"] []
  g_law_equal : mg "_law_equal" = some (.ref a_law_equal)
  a_law_all_equal : Addr
  fd_law_all_equal : FuncData
  F_law_all_equal : Fun K "_law_all_equal" "_law_all_equal" s_law_all_equal a_law_all_equal fd_law_all_equal
  b_law_all_equal : Binds K fd_law_all_equal ["actual", "due"] []
  g_law_all_equal : mg "_law_all_equal" = some (.ref a_law_all_equal)
  a_law_large : Addr
  fd_law_large : FuncData
  F_law_large : Fun K "_law_large" "_law_large" s_law_large a_law_large fd_law_large
  b_law_large : Binds K fd_law_large ["draws", "bound"] []
  g_law_large : mg "_law_large" = some (.ref a_law_large)
  a_law_constant : Addr
  fd_law_constant : FuncData
  F_law_constant : Fun K "_law_constant" "_law_constant" s_law_constant a_law_constant fd_law_constant
  b_law_constant : Binds K fd_law_constant ["draws"] []
  g_law_constant : mg "_law_constant" = some (.ref a_law_constant)
  a_law_leaf : Addr
  fd_law_leaf : FuncData
  F_law_leaf : Fun K "_law_leaf" "_law_leaf" s_law_leaf a_law_leaf fd_law_leaf
  b_law_leaf : Binds K fd_law_leaf ["draws"] []
  g_law_leaf : mg "_law_leaf" = some (.ref a_law_leaf)
  a_law_node : Addr
  fd_law_node : FuncData
  F_law_node : Fun K "_law_node" "_law_node" s_law_node a_law_node fd_law_node
  b_law_node : Binds K fd_law_node ["draws", "costs", "most"] []
  g_law_node : mg "_law_node" = some (.ref a_law_node)
  a_law_source : Addr
  fd_law_source : FuncData
  F_law_source : Fun K "_law_source" "_law_source" s_law_source a_law_source fd_law_source
  b_law_source : Binds K fd_law_source ["draws", "most"] []
  g_law_source : mg "_law_source" = some (.ref a_law_source)
  a_law_written : Addr
  fd_law_written : FuncData
  F_law_written : Fun K "_law_written" "_law_written" s_law_written a_law_written fd_law_written
  b_law_written : Binds K fd_law_written ["node"] []
  g_law_written : mg "_law_written" = some (.ref a_law_written)
  a_law_count : Addr
  fd_law_count : FuncData
  F_law_count : Fun K "_law_count" "_law_count" s_law_count a_law_count fd_law_count
  b_law_count : Binds K fd_law_count ["word", "bound"] []
  g_law_count : mg "_law_count" = some (.ref a_law_count)
  a_law_reference : Addr
  fd_law_reference : FuncData
  F_law_reference : Fun K "_law_reference" "_law_reference" s_law_reference a_law_reference fd_law_reference
  b_law_reference : Binds K fd_law_reference ["word", "at"] []
  g_law_reference : mg "_law_reference" = some (.ref a_law_reference)
  a_law_read : Addr
  fd_law_read : FuncData
  F_law_read : Fun K "_law_read" "_law_read" s_law_read a_law_read fd_law_read
  b_law_read : Binds K fd_law_read ["text", "at"] []
  g_law_read : mg "_law_read" = some (.ref a_law_read)
  a_law_parsed : Addr
  fd_law_parsed : FuncData
  F_law_parsed : Fun K "_law_parsed" "_law_parsed" s_law_parsed a_law_parsed fd_law_parsed
  b_law_parsed : Binds K fd_law_parsed ["text"] []
  g_law_parsed : mg "_law_parsed" = some (.ref a_law_parsed)
  a_law_spoilt : Addr
  fd_law_spoilt : FuncData
  F_law_spoilt : Fun K "_law_spoilt" "_law_spoilt" s_law_spoilt a_law_spoilt fd_law_spoilt
  b_law_spoilt : Binds K fd_law_spoilt ["draws", "text"] []
  g_law_spoilt : mg "_law_spoilt" = some (.ref a_law_spoilt)
  a_law_by_hand : Addr
  fd_law_by_hand : FuncData
  F_law_by_hand : Fun K "_law_by_hand" "_law_by_hand" s_law_by_hand a_law_by_hand fd_law_by_hand
  b_law_by_hand : Binds K fd_law_by_hand ["draws"] []
  g_law_by_hand : mg "_law_by_hand" = some (.ref a_law_by_hand)
  a_law_asked : Addr
  fd_law_asked : FuncData
  F_law_asked : Fun K "_law_asked" "_law_asked" s_law_asked a_law_asked fd_law_asked
  b_law_asked : Binds K fd_law_asked ["text"] []
  g_law_asked : mg "_law_asked" = some (.ref a_law_asked)
  a_law : Addr
  fd_law : FuncData
  F_law : Fun K "law" "law" s_law a_law fd_law
  b_law : Binds K fd_law ["script"] []
  g_law : mg "law" = some (.ref a_law)
  E_BrimfulError : Addr
  gE_BrimfulError : mg "BrimfulError" = some (.ref E_BrimfulError)
  xE_BrimfulError : PySem.W.excIn K E_BrimfulError [.type "ValueError", .type "Exception", .type "BaseException", .type "object"] "ValueError.__new__" = true
  kE_BrimfulError : PySem.W.keepIn K (.ref E_BrimfulError) = true
  bE_BrimfulError : PySem.W.subIn K (.ref E_BrimfulError) (.type "BaseException") = some true
  tE_BrimfulError : PySem.W.typeIn K (.ref E_BrimfulError) = some (.type "type")
  dE_BrimfulError : PySem.W.hasDictIn K E_BrimfulError = true
  cE_BrimfulError : L2.ExcC K E_BrimfulError
  E_BadSource : Addr
  gE_BadSource : mg "BadSource" = some (.ref E_BadSource)
  xE_BadSource : PySem.W.excIn K E_BadSource [.type "ValueError", .type "Exception", .type "BaseException", .type "object"] "ValueError.__new__" = true
  kE_BadSource : PySem.W.keepIn K (.ref E_BadSource) = true
  bE_BadSource : PySem.W.subIn K (.ref E_BadSource) (.type "BaseException") = some true
  tE_BadSource : PySem.W.typeIn K (.ref E_BadSource) = some (.type "type")
  dE_BadSource : PySem.W.hasDictIn K E_BadSource = true
  cE_BadSource : L2.ExcC K E_BadSource
  E_BadText : Addr
  gE_BadText : mg "BadText" = some (.ref E_BadText)
  xE_BadText : PySem.W.excIn K E_BadText [.type "ValueError", .type "Exception", .type "BaseException", .type "object"] "ValueError.__new__" = true
  kE_BadText : PySem.W.keepIn K (.ref E_BadText) = true
  bE_BadText : PySem.W.subIn K (.ref E_BadText) (.type "BaseException") = some true
  tE_BadText : PySem.W.typeIn K (.ref E_BadText) = some (.type "type")
  dE_BadText : PySem.W.hasDictIn K E_BadText = true
  cE_BadText : L2.ExcC K E_BadText
  vE_BrimfulError : PySem.W.subIn K (.ref E_BrimfulError) (.type "ValueError") = some true
  vE_BadSource : PySem.W.subIn K (.ref E_BadSource) (.type "ValueError") = some true
  vE_BadText : PySem.W.subIn K (.ref E_BadText) (.type "ValueError") = some true
  sE_BrimfulError_BrimfulError : PySem.W.subIn K (.ref E_BrimfulError) (.ref E_BrimfulError) = some true
  sE_BrimfulError_BadSource : PySem.W.subIn K (.ref E_BrimfulError) (.ref E_BadSource) = some false
  sE_BrimfulError_BadText : PySem.W.subIn K (.ref E_BrimfulError) (.ref E_BadText) = some false
  sE_BadSource_BrimfulError : PySem.W.subIn K (.ref E_BadSource) (.ref E_BrimfulError) = some true
  sE_BadSource_BadSource : PySem.W.subIn K (.ref E_BadSource) (.ref E_BadSource) = some true
  sE_BadSource_BadText : PySem.W.subIn K (.ref E_BadSource) (.ref E_BadText) = some false
  sE_BadText_BrimfulError : PySem.W.subIn K (.ref E_BadText) (.ref E_BrimfulError) = some true
  sE_BadText_BadSource : PySem.W.subIn K (.ref E_BadText) (.ref E_BadSource) = some false
  sE_BadText_BadText : PySem.W.subIn K (.ref E_BadText) (.ref E_BadText) = some true
  m_ValueError : mg "ValueError" = none
  m_all : mg "all" = none
  m_bool : mg "bool" = none
  m_enumerate : mg "enumerate" = none
  m_int : mg "int" = none
  m_isinstance : mg "isinstance" = none
  m_len : mg "len" = none
  m_list : mg "list" = none
  m_min : mg "min" = none
  m_range : mg "range" = none
  m_str : mg "str" = none
  m_tuple : mg "tuple" = none
  t_CONSTANTS_END : Tok
  c_CONSTANTS_END : mg "CONSTANTS_END" = some (.int 1000000000 t_CONSTANTS_END)
  t_MOST_FIGURES : Tok
  c_MOST_FIGURES : mg "MOST_FIGURES" = some (.int 9 t_MOST_FIGURES)
  t_MOST_INPUTS : Tok
  c_MOST_INPUTS : mg "MOST_INPUTS" = some (.int 60 t_MOST_INPUTS)
  t_MOST_NODES : Tok
  c_MOST_NODES : mg "MOST_NODES" = some (.int 200 t_MOST_NODES)
end Br
namespace Br
open PySem PySem.Spec PyProof.Rows L2
local macro_rules | `(tactic| walk_at "x1") => `(tactic| (with_reducible first
  | refine Br.x_seq ?_ | refine Br.x_set ?_ | refine Br.x_asg ?_ | refine Br.x_next ?_ | refine Br.x_ret ?_ | refine Br.x_retN ?_ | refine Br.x_drop ?_ | refine Br.x_if ?_ | refine Br.x_brk ?_ | refine Br.x_cont ?_
  | refine Br.x_c ?_ | refine Br.x_op ?_ | refine Br.x_un ?_ | refine Br.x_I0 ?_ | refine Br.x_U ?_ | refine Br.x_EqI ?_ | refine Br.x_NeI ?_ | refine Br.x_EqB ?_ | refine Br.x_iN ?_ | refine Br.x_int1 ?_ | refine Br.x_min2 ?_ | refine Br.x_max2 ?_ | refine Br.x_nN ?_ | refine Br.x_ifE ?_
  | refine Br.x_test (b := ()) ?_ | refine Br.x_tB ?_ | refine Br.x_bl ?_ | refine Br.x_and ?_ | refine Br.x_or ?_ | refine Br.x_not ?_ | refine Br.x_andV ?_ | refine Br.x_orV ?_ | refine Br.x_notV ?_ | refine Br.x_blP ?_
  | refine Br.x_nil ?_ | refine Br.x_cons ?_ | refine Br.x_call ?_ | refine Br.x_CB ?_ | refine Br.x_BM ?_ | refine Br.x_tup ?_ | refine Br.x_lst ?_ | refine Br.x_chain ?_ | refine Br.x_par ?_ | refine Br.x_gSub ?_ | refine Br.x_gName ?_ | refine Br.x_fld ?_ | refine Br.x_fldS ?_ | refine Br.x_match ?_ | refine Br.x_else ?_ | refine Br.x_noCase ?_))
local macro_rules | `(tactic| walk_at "xv") => `(tactic| ((with_reducible refine' Br.x_var ?hvar ?_); (case hvar => rfl)))
local macro_rules | `(tactic| walk_at "xd") => `(tactic| (dsimp only [List.set_cons_zero, List.set_cons_succ, List.cons_append, List.nil_append, List.append_nil]))
local macro_rules | `(tactic| walk_at "xi") => `(tactic| ((with_reducible refine Br.x_I ?hside ?_); (case hside => first | exact Br.mul_r (by decide) (by decide) | exact Br.mul_l (by decide) (by decide) | exact Br.mul_l (by omega) (by omega) | exact Br.mul_r (by omega) (by omega) | (show (0 : Int) < _; first | decide | omega) | exact ⟨by decide, by decide⟩ | exact ⟨by omega, by omega⟩ | exact ⟨by decide, by decide, by decide⟩)))
local macro_rules | `(tactic| walk_at "x") => `(tactic| (repeat (first | walk_at "x1" | walk_at "xv" | walk_at "xi" | walk_at "xd")))
local macro_rules | `(tactic| walk_at "start") => `(tactic| (simp only [L2.start, List.map_cons, List.map_nil, List.length_cons, List.length_nil, Nat.reduceAdd, Nat.reduceSub, List.replicate, List.cons_append, List.nil_append, List.append_nil]))
local macro_rules | `(tactic| walk_at "isi") => `(tactic| first
  | refine Br.x_isi (b := true) (.base (.int _)) (by decide +kernel) ?_ | refine Br.x_isi (b := false) (.base (.int _)) (by decide +kernel) ?_
  | refine Br.x_isi (b := true) (.base (.bl _)) (by decide +kernel) ?_ | refine Br.x_isi (b := false) (.base (.bl _)) (by decide +kernel) ?_
  | refine Br.x_isi (b := false) (.base .non) (by decide +kernel) ?_
  | refine Br.x_isi (b := true) (.base (.str _)) (by decide +kernel) ?_ | refine Br.x_isi (b := false) (.base (.str _)) (by decide +kernel) ?_
  | refine Br.x_isi (b := true) (.base (.tup (by assumption))) (by decide +kernel) ?_ | refine Br.x_isi (b := false) (.base (.tup (by assumption))) (by decide +kernel) ?_
  | refine Br.x_isi (b := true) (.base (.lst (by assumption))) (by decide +kernel) ?_ | refine Br.x_isi (b := false) (.base (.lst (by assumption))) (by decide +kernel) ?_)
local macro_rules | `(tactic| walk_at "f") => `(tactic| (refine L2.iteF ?_; walk_at "x"))
local macro_rules | `(tactic| walk_at "t") => `(tactic| (refine L2.iteT ?_; walk_at "x"))
local macro_rules | `(tactic| walk_at "is") => `(tactic| (walk_at "isi"; walk_at "x"))
local macro_rules | `(tactic| walk_at "xb") => `(tactic| (simp only [Br.bindS, List.set_cons_zero, List.set_cons_succ]; walk_at "x"))

section
variable {P : Program} {w : World} {K : PySem.W.Frag} {mg : Str → Option Value} {base : Heap}

/-! ### the draws -/
/-- the draws at d: a list of a list of numbers (at n) and a place -/
def Dr (H : Hp) (d n : Addr) : Prop := ∃ (ns : List Int) (k : Int), H d = some (.lst [.ref n, .int k]) ∧ H n = some (.lst (ns.map V.int)) ∧ Rg 0 1000000 ns ∧ 0 ≤ k ∧ ns.length ≤ 3780
theorem Dr.ne {H : Hp} {d n : Addr} (h : Dr H d n) : H d ≠ none := by
  obtain ⟨_, _, h, _⟩ := h
  rw [h]
  exact fun z => nomatch z
theorem Dr.new {H : Hp} {d n p : Addr} (h : Dr H d n) (hp : H p = none) : p ≠ d := fun e => h.ne (e ▸ hp)
theorem Dr.newN {H : Hp} {d n p : Addr} (h : Dr H d n) (hp : H p = none) : p ≠ n := fun e => by
  obtain ⟨_, _, _, h2, _⟩ := h
  rw [← e, hp] at h2
  cases h2
theorem Dr.dn {H : Hp} {d n : Addr} (h : Dr H d n) : d ≠ n := by
  obtain ⟨ns, k, h1, h2, _⟩ := h
  exact ne_of h1 h2 (by
    intro e
    have e1 : [V.ref n, V.int k] = ns.map V.int := HO.lst.inj e
    cases ns with
    | nil => cases e1
    | cons x r => cases (List.cons.inj e1).1)
/-- changes elsewhere -/
theorem Dr.upd {H : Hp} {d n p : Addr} {o : HO} (h : Dr H d n) (hd : p ≠ d) (hn : p ≠ n) : Dr (upd H p o) d n := by
  obtain ⟨ns, k, h1, h2, h3⟩ := h
  exact ⟨ns, k, by rw [upd_ne hd.symm]; exact h1, by rw [upd_ne hn.symm]; exact h2, h3⟩
theorem Dr.upd0 {H : Hp} {d n p : Addr} {o : HO} (h : Dr H d n) (hp : H p = none) : Dr (L2.upd H p o) d n := h.upd (h.new hp) (h.newN hp)
theorem Dr.same {H H' : Hp} {d n : Addr} (h : Dr H d n) (s : Same H H') : Dr H' d n := by
  obtain ⟨ns, k, h1, h2, h3⟩ := h
  exact ⟨ns, k, s _ _ h1, s _ _ h2, h3⟩
/-- what is fresh behind was fresh ahead -/
theorem Keep.free {H H' : Hp} {d n p : Addr} (s : Keep d H H') (h : Dr H' d n) (hp : H' p = none) : H p = none := by
  cases e : H p with
  | none => rfl
  | some o =>
    by_cases hd : p = d
    · rw [hd] at hp
      exact absurd hp h.ne
    · rw [s p o e hd] at hp
      cases hp
theorem Dr.mk {H : Hp} {d n : Addr} {ns : List Int} (hn : H n = some (.lst (ns.map V.int))) (hr : Rg 0 1000000 ns) (hl : ns.length ≤ 3780) (hd : H d = none) : Dr (L2.upd H d (.lst [.ref n, .int 0])) d n :=
  ⟨ns, 0, upd_same, by rw [upd_ne (ne_of_none hn hd)]; exact hn, hr, Int.le_refl _, hl⟩
/-- what a def that draws gives: a value of which P, the draws moved on -/
abbrev RetD (d n : Addr) (P : V → Prop) (H : Hp) (Q : VK) : Prop := ∀ v H', P v → Dr H' d n → Keep d H H' → Q v H'
abbrev RetG (d n : Addr) (P : V → Hp → Prop) (H : Hp) (Q : VK) : Prop := ∀ v H', P v H' → Dr H' d n → Keep d H H' → Q v H'
abbrev IsI (lo hi : Int) : V → Prop := fun v => ∃ z : Int, v = .int z ∧ lo ≤ z ∧ z < hi

def sp_law_mixed (K : PySem.W.Frag) : Sp := fun vs H Q _ => ∃ i k : Int, vs = [.int i, .int k] ∧ ∀ r : Int, 0 ≤ r → r < 2147483647 → Q (.int r) H
theorem ok_law_mixed (T : Txt K mg) : FnOk P w K mg base CX0 1 T.a_law_mixed T.fd_law_mixed ["number", "k"] (sp_law_mixed K) := by
  refine T.F_law_mixed.ok sc_law_mixed (fun vs H Q E h => ?_) (fun cdv A outer s H vs Q E hr h => ?_)
  · obtain ⟨i, k, rfl, _⟩ := h
    rfl
  · obtain ⟨i, k, rfl, q⟩ := h
    refine ⟨_, (pss_cons (ps_set (i := 2) sc_law_mixed.nd rfl (.inl rfl) (pe_op op_mod (pe_op op_add (pe_op op_add (pe_op op_mul (pv 0) pe_int) (pe_op op_mul (pv 1) pe_int)) pe_int) pe_int))
      (pss_one (ps_ret (pe_op op_mod (pe_op op_add (pe_op op_mul (pv 2) (pe_op op_add (pe_op op_fdiv (pv 2) pe_int) pe_int)) (pv 1)) pe_int)))), ?_⟩
    walk_at "start"
    walk_at "x"
    exact q _ (Int.emod_nonneg _ (by decide)) (Int.emod_lt_of_pos _ (by decide))


def sp_law_numbers (K : PySem.W.Frag) : Sp := fun vs H Q _ => ∃ (a : Addr) (ns : List Int), vs = [.ref a] ∧ SqL K H a (ns.map V.int) ∧ ns.length ≤ 63 ∧
  ∀ (p : Addr) (ms : List Int) (H' : Hp), H p = none → Same H H' → H' p = some (.lst (ms.map V.int)) → Rg 0 1000000 ms → ms.length ≤ 3780 → Q (.ref p) H'
/-- the numbers so far -/
def NumI (H : Hp) (p : Addr) (n : Nat) (H' : Hp) : Prop := ∃ ms : List Int, Same H H' ∧ H' p = some (.lst (ms.map V.int)) ∧ Rg 0 1000000 ms ∧ ms.length ≤ n
theorem NumI.app {H H' : Hp} {p : Addr} {n : Nat} (h : NumI H p n H') (hp : H p = none) (hn : n ≤ 100000) {R : VK} {z : Int} (h1 : 0 ≤ z) (h2 : z < 1000000) (q : ∀ H2, NumI H p (n + 1) H2 → R .non H2) : rAppend (.ref p) [.int z] H' R := by
  obtain ⟨ms, s, e, r, l⟩ := h
  refine x_app e (by rw [List.length_map]; omega) (q _ ⟨ms ++ [z], sput s hp, ?_, r.snoc h1 h2, ?_⟩)
  · rw [upd_same, List.map_append]; rfl
  · rw [List.length_append]; exact Nat.add_le_add_right l 1
theorem NumI.ty {K : PySem.W.Frag} {H H' : Hp} {p : Addr} {n : Nat} (h : NumI H p n H') {R : Prop} (q : R) : tyV K "list" (.ref p) H' ∧ R := by
  obtain ⟨ms, s, e, r, l⟩ := h
  exact x_tyL e q
theorem NumI.mono {H H' : Hp} {p : Addr} {n m : Nat} (h : NumI H p n H') (l : n ≤ m) : NumI H p m H' := by
  obtain ⟨ms, s, e, r, k⟩ := h
  exact ⟨ms, s, e, r, Nat.le_trans k l⟩
theorem ok_law_numbers (T : Txt K mg) : FnOk P w K mg base CX0 2 T.a_law_numbers T.fd_law_numbers ["script"] (sp_law_numbers K) := by
  refine T.F_law_numbers.ok sc_law_numbers (fun vs H Q E h => ?_) (fun cdv A outer s H vs Q E hr h => ?_)
  · obtain ⟨a, ns, rfl, _⟩ := h
    rfl
  · obtain ⟨a, ns, rfl, hS, hl, q⟩ := h
    refine ⟨_, (pss_cons (ps_set (i := 1) sc_law_numbers.nd rfl (.inl rfl) (pe_lst pa_nil))
      (pss_cons (ps_for PassesOwn.never rfl (pi_list (pv 0)) (pg_name (i := 2) sc_law_numbers.nd rfl (Or.inl rfl))
      (pss_one (ps_if (pt_cmpR op_ge (pv 2) (pe_op op_pow pe_int pe_int) (nomark _))
      (pss_cons (ps_set (i := 3) sc_law_numbers.nd rfl (.inl rfl) (pv 2))
      (pss_one (ps_for PassesOwn.never rfl (pi_range1 (by rfl) T.m_range (pa_cons pe_int pa_nil)) (pg_name (i := 4) sc_law_numbers.nd rfl (Or.inl rfl))
      (pss_one (ps_if (pt_cmpR op_gt (pv 3) pe_int (nomark _))
      (pss_cons (ps_expr (pe_bm PySem.F.plainAttrs_list PySem.F.slot_list_append PySem.F.type_list_append mt_append (pv 1) (pa_cons (pe_op op_mod (pv 3) pe_int) pa_nil)))
      (pss_one (ps_set (i := 3) sc_law_numbers.nd rfl (.inl rfl) (pe_op op_fdiv (pv 3) pe_int))))
      pss_nil)))))
      (pss_cons (ps_expr (pe_bm PySem.F.plainAttrs_list PySem.F.slot_list_append PySem.F.type_list_append mt_append (pv 1) (pa_cons (pe_op op_mod (pv 2) pe_int) pa_nil)))
      (pss_one (ps_for PassesOwn.never rfl (pi_range1 (by rfl) T.m_range (pa_cons pe_int pa_nil)) (pg_name (i := 4) sc_law_numbers.nd rfl (Or.inl rfl))
      (pss_one (ps_expr (pe_bm PySem.F.plainAttrs_list PySem.F.slot_list_append PySem.F.type_list_append mt_append (pv 1) (pa_cons (pe_op op_mod (pe_call (ok_law_mixed T) hr (by rfl) T.g_law_mixed T.F_law_mixed.kp T.b_law_mixed .nil pass0 (pa_cons (pe_call (ok_law_mixed T) hr (by rfl) T.g_law_mixed T.F_law_mixed.kp T.b_law_mixed .nil pass0 (pa_cons (pe_op op_mod (pv 2) pe_int) (pa_cons (pv 4) pa_nil))) (pa_cons (pe_op op_add (pv 4) pe_int) pa_nil))) pe_int) pa_nil))))))))))
      (pss_one (ps_ret (pv 1))))), ?_⟩
    walk_at "start"
    walk_at "x"
    refine ⟨Nat.zero_le _, fun p hp => ?_⟩
    walk_at "x"
    refine x_forL (p := a) (ns.map V.int) (fun i σ' H' => ∃ v2 v3 v4, σ' = [some (.ref a), some (.ref p), v2, v3, v4] ∧ NumI H p (60 * i) H') (fun R r => ⟨_, rfl, r⟩) ((same_upd hp).seq hS) ?_ ?_ ?_ ?_
    · exact ⟨none, none, none, rfl, [], same_upd hp, upd_same, .nil, Nat.le_refl _⟩
    · rintro i σ' H' hi ⟨v2, v3, v4, rfl, ms, s, _⟩
      exact s.seq hS
    · rintro i x σ' H' hx ⟨v2, v3, v4, rfl, hN⟩
      obtain ⟨z, hz, rfl⟩ := map_get hx
      have hi : i < 63 := by
        have := (List.getElem?_eq_some_iff.mp hz).1
        omega
      walk_at "x"
      refine x_ite (fun hc => ?_) (fun hc => ?_)
      · walk_at "x"
        refine x_forR1 60 (fun j σ' H' => ∃ r v4, σ' = [some (.ref a), some (.ref p), some (.int z), some (.int r), v4] ∧ NumI H p (60 * i + j) H') (fun R r => r) (by decide) (by decide) ⟨z, v4, rfl, hN⟩ ?_ ?_
        · rintro j σ' H2 hj ⟨r, v4, rfl, hN⟩
          walk_at "x"
          refine x_ite (fun hc => ?_) (fun hc => ?_)
          · walk_at "x"
            refine hN.ty ?_
            walk_at "x"
            refine hN.app hp (by omega) (Int.emod_nonneg _ (by decide)) (Int.emod_lt_of_pos _ (by decide)) fun H3 hN3 => ?_
            walk_at "x"
            exact ⟨_, _, rfl, hN3⟩
          · walk_at "x"
            exact ⟨r, _, rfl, hN.mono (by omega)⟩
        · rintro σ' H2 ⟨r, v4, rfl, hN⟩
          exact ⟨_, _, _, rfl, hN.mono (by show 60 * i + (60 : Int).toNat ≤ 60 * (i + 1); omega)⟩
      · walk_at "x"
        refine hN.ty ?_
        walk_at "x"
        refine hN.app hp (by omega) (Int.emod_nonneg _ (by decide)) (Int.emod_lt_of_pos _ (by decide)) fun H3 hN3 => ?_
        walk_at "x"
        refine x_forR1 5 (fun j σ' H' => ∃ v4, σ' = [some (.ref a), some (.ref p), some (.int z), v3, v4] ∧ NumI H p (60 * i + 1 + j) H') (fun R r => r) (by decide) (by decide) ⟨v4, rfl, hN3⟩ ?_ ?_
        · rintro j σ' H2 hj ⟨v4, rfl, hN⟩
          walk_at "x"
          refine hN.ty ?_
          walk_at "x"
          refine ⟨_, _, rfl, fun r h0 h1 => ?_⟩
          walk_at "x"
          refine ⟨_, _, rfl, fun r h0 h1 => ?_⟩
          walk_at "x"
          refine hN.app hp (by omega) (Int.emod_nonneg _ (by decide)) (Int.emod_lt_of_pos _ (by decide)) fun H3 hN3 => ?_
          walk_at "x"
          exact ⟨_, rfl, hN3⟩
        · rintro σ' H2 ⟨v4, rfl, hN⟩
          exact ⟨_, _, _, rfl, hN.mono (by show 60 * i + 1 + (5 : Int).toNat ≤ 60 * (i + 1); omega)⟩
    · rintro σ' H' ⟨v2, v3, v4, rfl, ms, s, e, r, l⟩
      walk_at "x"
      exact q p ms H' hp s e r (by rw [List.length_map] at l; omega)


def sp_law_draw (K : PySem.W.Frag) : Sp := fun vs H Q _ => ∃ (d n : Addr), vs = [.ref d] ∧ Dr H d n ∧ RetD d n (IsI 0 1000000) H Q
theorem ok_law_draw (T : Txt K mg) : FnOk P w K mg base CX0 2 T.a_law_draw T.fd_law_draw ["draws"] (sp_law_draw K) := by
  refine T.F_law_draw.ok sc_law_draw (fun vs H Q E h => ?_) (fun cdv A outer s H vs Q E hr h => ?_)
  · obtain ⟨d, n, rfl, _⟩ := h
    rfl
  · obtain ⟨d, n, rfl, hD, q⟩ := h
    have hn := hD.dn
    obtain ⟨ns, k, h1, h2, h3, h4, h5⟩ := hD
    have hD : Dr (upd H d (.lst [.ref n, .int (k + 1)])) d n := ⟨ns, k + 1, upd_same, by rw [upd_ne hn.symm]; exact h2, h3, by omega, h5⟩
    refine ⟨_, (pss_cons (ps_set (i := 1) sc_law_draw.nd rfl (.inl rfl) (pe_ix (r := rIxL K) ix_list (pv 0) pe_int (fun _ _ => rfl)))
      (pss_cons (ps_asg (pe_op op_add (pv 1) pe_int) (pg_sub (pv 0) pe_int set_list))
      (pss_cons (ps_if (pt_cmpR op_lt (pv 1) (pe_callB (id := "len") (r := rLen K) cr_len (by rfl) T.m_len PySem.boot_len (pa_cons (pe_ix (r := rIxL K) ix_list (pv 0) pe_int (fun _ _ => rfl)) pa_nil)) (nomark _))
      (pss_one (ps_ret (pe_ix (r := rIxL K) ix_list (pe_ix (r := rIxL K) ix_list (pv 0) pe_int (fun _ _ => rfl)) (pv 1) (fun _ _ => rfl))))
      pss_nil)
      (pss_cons (ps_set (i := 2) sc_law_draw.nd rfl (.inl rfl) (pe_op op_add pe_int (pv 1)))
      (pss_cons (ps_if (pt_cmpR op_gt (pe_callB (id := "len") (r := rLen K) cr_len (by rfl) T.m_len PySem.boot_len (pa_cons (pe_ix (r := rIxL K) ix_list (pv 0) pe_int (fun _ _ => rfl)) pa_nil)) pe_int (nomark _))
      (pss_one (ps_set (i := 2) sc_law_draw.nd rfl (.inl rfl) (pe_op op_add (pv 2) (pe_op op_mul pe_int (pe_ix (r := rIxL K) ix_list (pe_ix (r := rIxL K) ix_list (pv 0) pe_int (fun _ _ => rfl)) pe_int (fun _ _ => rfl))))))
      pss_nil)
      (pss_one (ps_ret (pe_op op_mod (pe_call (ok_law_mixed T) hr (by rfl) T.g_law_mixed T.F_law_mixed.kp T.b_law_mixed .nil pass0 (pa_cons (pe_call (ok_law_mixed T) hr (by rfl) T.g_law_mixed T.F_law_mixed.kp T.b_law_mixed .nil pass0 (pa_cons (pv 2) (pa_cons (pv 1) pa_nil))) (pa_cons pe_int pa_nil))) pe_int)))))))), ?_⟩
    walk_at "start"
    walk_at "x"
    refine x_ixL (sq_of h1) (show _ = some (V.int k) from rfl) ?_
    walk_at "x"
    refine x_subL (k := 1) h1 rfl ?_
    walk_at "x"
    have hd : (upd H d (HO.lst [.ref n, .int (k + 1)])) d = some (.lst [.ref n, .int (k + 1)]) := upd_same
    have hnn : (upd H d (HO.lst [.ref n, .int (k + 1)])) n = some (.lst (ns.map V.int)) := by rw [upd_ne hn.symm]; exact h2
    refine x_ixL (sq_of hd) (show _ = some (V.ref n) from rfl) ?_
    walk_at "x"
    refine x_len (sq_of hnn) ?_
    walk_at "x"
    rw [List.length_map]
    refine x_ite (fun hc => ?_) (fun hc => ?_)
    · walk_at "x"
      refine x_ixL (sq_of hd) (show _ = some (V.ref n) from rfl) ?_
      walk_at "x"
      obtain ⟨j, rfl⟩ : ∃ j : Nat, k = (j : Int) := ⟨k.toNat, by omega⟩
      have hj : j < ns.length := by omega
      refine x_ixL (v := .int ns[j]) (sq_of hnn) (atI_nat (by rw [List.getElem?_map, List.getElem?_eq_getElem hj]; rfl)) ?_
      exact q _ _ ⟨_, rfl, h3 _ (List.getElem_mem hj)⟩ hD keep_upd
    · walk_at "x"
      refine x_ixL (sq_of hd) (show _ = some (V.ref n) from rfl) ?_
      walk_at "x"
      refine x_len (sq_of hnn) ?_
      walk_at "x"
      rw [List.length_map]
      refine x_ite (fun hc => ?_) (fun hc => ?_)
      · walk_at "x"
        refine x_ixL (sq_of hd) (show _ = some (V.ref n) from rfl) ?_
        walk_at "x"
        have hj : 0 < ns.length := by omega
        refine x_ixL (v := .int ns[0]) (sq_of hnn) (atI_nat (j := 0) (by rw [List.getElem?_map, List.getElem?_eq_getElem hj]; rfl)) ?_
        walk_at "x"
        refine ⟨_, _, rfl, fun r h0 h1 => ?_⟩
        walk_at "x"
        refine ⟨_, _, rfl, fun r h0 h1 => ?_⟩
        walk_at "x"
        exact q _ _ ⟨_, rfl, Int.emod_nonneg _ (by decide), Int.emod_lt_of_pos _ (by decide)⟩ hD keep_upd
      · walk_at "x"
        refine ⟨_, _, rfl, fun r h0 h1 => ?_⟩
        walk_at "x"
        refine ⟨_, _, rfl, fun r h0 h1 => ?_⟩
        walk_at "x"
        exact q _ _ ⟨_, rfl, Int.emod_nonneg _ (by decide), Int.emod_lt_of_pos _ (by decide)⟩ hD keep_upd


def sp_law_large (K : PySem.W.Frag) : Sp := fun vs H Q _ => ∃ (d n : Addr) (b : Int), vs = [.ref d, .int b] ∧ 0 < b ∧ Dr H d n ∧ RetD d n (IsI 0 b) H Q
theorem ok_law_large (T : Txt K mg) : FnOk P w K mg base CX0 3 T.a_law_large T.fd_law_large ["draws", "bound"] (sp_law_large K) := by
  refine T.F_law_large.ok sc_law_large (fun vs H Q E h => ?_) (fun cdv A outer s H vs Q E hr h => ?_)
  · obtain ⟨d, n, b, rfl, _⟩ := h
    rfl
  · obtain ⟨d, n, b, rfl, hb, hD, q⟩ := h
    refine ⟨_, (pss_cons (ps_set (i := 2) sc_law_large.nd rfl (.inl rfl) (pe_op op_add (pe_call (ok_law_draw T) hr (by rfl) T.g_law_draw T.F_law_draw.kp T.b_law_draw .nil pass0 (pa_cons (pv 0) pa_nil)) (pe_op op_mul (pe_op op_pow pe_int pe_int) (pe_op op_mod (pe_call (ok_law_draw T) hr (by rfl) T.g_law_draw T.F_law_draw.kp T.b_law_draw .nil pass0 (pa_cons (pv 0) pa_nil)) pe_int))))
      (pss_one (ps_ret (pe_op op_mod (pv 2) (pv 1))))), ?_⟩
    walk_at "start"
    walk_at "x"
    refine ⟨d, n, rfl, hD, ?_⟩
    rintro _ H1 ⟨z, rfl, hz0, hz1⟩ hD1 hk1
    walk_at "x"
    refine ⟨d, n, rfl, hD1, ?_⟩
    rintro _ H2 ⟨y, rfl, hy0, hy1⟩ hD2 hk2
    walk_at "x"
    exact q _ _ ⟨_, rfl, Int.emod_nonneg _ (by omega), Int.emod_lt_of_pos _ hb⟩ hD2 (hk1.trans hk2)





/-- a value of any kind that the laws put in -/
inductive Odd (H : Hp) : V → Prop
  | int (i : Int) : Odd H (.int i)
  | bl (b : Bool) : Odd H (.bl b)
  | non : Odd H .non
  | str (x : Str) : Odd H (.str x)
  | tup (a : Addr) (xs : List V) (h : H a = some (.tup xs)) : Odd H (.ref a)
  | lst (a : Addr) (xs : List V) (h : H a = some (.lst xs)) : Odd H (.ref a)
theorem Odd.same {H H' : Hp} {v : V} (h : Odd H v) (s : Same H H') : Odd H' v := by
  cases h with
  | int i => exact .int i
  | bl b => exact .bl b
  | non => exact .non
  | str x => exact .str x
  | tup a xs h => exact .tup a xs (s _ _ h)
  | lst a xs h => exact .lst a xs (s _ _ h)
def isB (v : V) (b : Int) : Bool := match v with
  | .int i => decide (0 ≤ i) && decide (i < b)
  | _ => false
theorem isB_int {i b : Int} (h0 : 0 ≤ i) (h1 : i < b) : isB (.int i) b = true := by
  show (decide (0 ≤ i) && decide (i < b)) = true
  rw [decide_eq_true h0, decide_eq_true h1]; rfl

def sp_is_below (K : PySem.W.Frag) : Sp := fun vs H Q _ => ∃ (v : V) (b : Int), vs = [v, .int b] ∧ Odd H v ∧ Q (.bl (isB v b)) H
theorem ok_is_below (T : Txt K mg) : FnOk P w K mg base CX0 1 T.a_is_below T.fd_is_below ["value", "bound"] (sp_is_below K) := by
  refine T.F_is_below.ok sc_is_below (fun vs H Q E h => ?_) (fun cdv A outer s H vs Q E hr h => ?_)
  · obtain ⟨v, b, rfl, _⟩ := h
    rfl
  · obtain ⟨v, b, rfl, hv, q⟩ := h
    refine ⟨_, (pss_one (ps_ret (pe_and (pe_callB (id := "isinstance") (r := rIsi K) call_isi (by rfl) T.m_isinstance (by decide +kernel) (pa_cons (pv 0) (pa_cons (pe_bltn (v := .ty "int") (by rfl) T.m_int (by decide +kernel) rfl) pa_nil))) (pe_and (pe_not (pe_callB (id := "isinstance") (r := rIsi K) call_isi (by rfl) T.m_isinstance (by decide +kernel) (pa_cons (pv 0) (pa_cons (pe_bltn (v := .ty "bool") (by rfl) T.m_bool (by decide +kernel) rfl) pa_nil)))) (pe_one (pe_chain op_le op_lt pe_int (pv 0) (pv 1))))))), ?_⟩
    walk_at "start"
    cases hv with
    | int i =>
      walk_at "x"
      walk_at "is"
      walk_at "t"
      walk_at "is"
      walk_at "t"
      refine x_ite (fun h0 => ?_) (fun h0 => ?_)
      · walk_at "x"
        have e : isB (.int i) b = decide (i < b) := by show (decide (0 ≤ i) && decide (i < b)) = _; rw [decide_eq_true h0]; rfl
        rw [← e]; exact q
      · have e : isB (.int i) b = false := by show (decide (0 ≤ i) && decide (i < b)) = _; rw [decide_eq_false h0]; rfl
        rw [← e]; exact q
    | bl x =>
      walk_at "x"
      walk_at "is"
      walk_at "t"
      walk_at "is"
      walk_at "f"
      exact q
    | non =>
      walk_at "x"
      walk_at "is"
      walk_at "f"
      exact q
    | str x =>
      walk_at "x"
      walk_at "is"
      walk_at "f"
      exact q
    | tup a xs h =>
      walk_at "x"
      walk_at "is"
      walk_at "f"
      exact q
    | lst a xs h =>
      walk_at "x"
      walk_at "is"
      walk_at "f"
      exact q


open Br
theorem DAt.odd {d : Addr} {H : Hp} {v : V} {e : PyData} (h : DAt d H v e) : Odd H v := by
  cases h with
  | non => exact .non
  | bl b => exact .bl b
  | int i => exact .int i
  | str x => exact .str x
  | lst hd h hs => exact .lst _ _ h
  | tup h hs => exact .tup _ _ h
theorem DAt.isB {d : Addr} {H : Hp} {v : V} {e : PyData} (h : DAt d H v e) {b : Int} : isB v b = isBD b e := by
  cases h <;> rfl
theorem range_allD {ds : List PyData} {f : PyData → Bool} : ((List.range ds.length).map fun i => f (ds.getD i .none)).all id = ds.all f := by
  have e : (List.range ds.length).map (fun i => f (ds.getD i .none)) = ds.map f := by
    apply List.ext_getElem?
    intro i
    rw [List.getElem?_map, List.getElem?_map]
    by_cases h : i < ds.length
    · rw [List.getElem?_range h, List.getElem?_eq_getElem h]
      show some (f (ds.getD i .none)) = some (f ds[i])
      rw [List.getD_eq_getElem?_getD, List.getElem?_eq_getElem h]; rfl
    · rw [List.getElem?_eq_none (by simpa using h), List.getElem?_eq_none (by simpa using h)]
      rfl
  rw [e, List.all_map]
  rfl
theorem getDD {ds : List PyData} {i : Nat} {e : PyData} (h : ds[i]? = some e) : ds.getD i .none = e := by rw [List.getD_eq_getElem?_getD, h]; rfl






end
end Br
namespace Br
open PySem PySem.Spec PyProof.Rows L2
local macro_rules | `(tactic| walk_at "x1") => `(tactic| (with_reducible first
  | refine Br.x_seq ?_ | refine Br.x_set ?_ | refine Br.x_asg ?_ | refine Br.x_next ?_ | refine Br.x_ret ?_ | refine Br.x_retN ?_ | refine Br.x_drop ?_ | refine Br.x_if ?_ | refine Br.x_brk ?_ | refine Br.x_cont ?_
  | refine Br.x_c ?_ | refine Br.x_op ?_ | refine Br.x_un ?_ | refine Br.x_I0 ?_ | refine Br.x_U ?_ | refine Br.x_EqI ?_ | refine Br.x_NeI ?_ | refine Br.x_EqB ?_ | refine Br.x_iN ?_ | refine Br.x_int1 ?_ | refine Br.x_min2 ?_ | refine Br.x_max2 ?_ | refine Br.x_nN ?_ | refine Br.x_ifE ?_
  | refine Br.x_test (b := ()) ?_ | refine Br.x_tB ?_ | refine Br.x_bl ?_ | refine Br.x_and ?_ | refine Br.x_or ?_ | refine Br.x_not ?_ | refine Br.x_andV ?_ | refine Br.x_orV ?_ | refine Br.x_notV ?_ | refine Br.x_blP ?_
  | refine Br.x_nil ?_ | refine Br.x_cons ?_ | refine Br.x_call ?_ | refine Br.x_CB ?_ | refine Br.x_BM ?_ | refine Br.x_tup ?_ | refine Br.x_lst ?_ | refine Br.x_chain ?_ | refine Br.x_par ?_ | refine Br.x_gSub ?_ | refine Br.x_gName ?_ | refine Br.x_fld ?_ | refine Br.x_fldS ?_ | refine Br.x_match ?_ | refine Br.x_else ?_ | refine Br.x_noCase ?_))
local macro_rules | `(tactic| walk_at "xv") => `(tactic| ((with_reducible refine' Br.x_var ?hvar ?_); (case hvar => rfl)))
local macro_rules | `(tactic| walk_at "xd") => `(tactic| (dsimp only [List.set_cons_zero, List.set_cons_succ, List.cons_append, List.nil_append, List.append_nil]))
local macro_rules | `(tactic| walk_at "xi") => `(tactic| ((with_reducible refine Br.x_I ?hside ?_); (case hside => first | exact Br.mul_r (by decide) (by decide) | exact Br.mul_l (by decide) (by decide) | exact Br.mul_l (by omega) (by omega) | exact Br.mul_r (by omega) (by omega) | (show (0 : Int) < _; first | decide | omega) | exact ⟨by decide, by decide⟩ | exact ⟨by omega, by omega⟩ | exact ⟨by decide, by decide, by decide⟩)))
local macro_rules | `(tactic| walk_at "x") => `(tactic| (repeat (first | walk_at "x1" | walk_at "xv" | walk_at "xi" | walk_at "xd")))
local macro_rules | `(tactic| walk_at "start") => `(tactic| (simp only [L2.start, List.map_cons, List.map_nil, List.length_cons, List.length_nil, Nat.reduceAdd, Nat.reduceSub, List.replicate, List.cons_append, List.nil_append, List.append_nil]))
local macro_rules | `(tactic| walk_at "isi") => `(tactic| first
  | refine Br.x_isi (b := true) (.base (.int _)) (by decide +kernel) ?_ | refine Br.x_isi (b := false) (.base (.int _)) (by decide +kernel) ?_
  | refine Br.x_isi (b := true) (.base (.bl _)) (by decide +kernel) ?_ | refine Br.x_isi (b := false) (.base (.bl _)) (by decide +kernel) ?_
  | refine Br.x_isi (b := false) (.base .non) (by decide +kernel) ?_
  | refine Br.x_isi (b := true) (.base (.str _)) (by decide +kernel) ?_ | refine Br.x_isi (b := false) (.base (.str _)) (by decide +kernel) ?_
  | refine Br.x_isi (b := true) (.base (.tup (by assumption))) (by decide +kernel) ?_ | refine Br.x_isi (b := false) (.base (.tup (by assumption))) (by decide +kernel) ?_
  | refine Br.x_isi (b := true) (.base (.lst (by assumption))) (by decide +kernel) ?_ | refine Br.x_isi (b := false) (.base (.lst (by assumption))) (by decide +kernel) ?_)
local macro_rules | `(tactic| walk_at "f") => `(tactic| (refine L2.iteF ?_; walk_at "x"))
local macro_rules | `(tactic| walk_at "t") => `(tactic| (refine L2.iteT ?_; walk_at "x"))
local macro_rules | `(tactic| walk_at "is") => `(tactic| (walk_at "isi"; walk_at "x"))
local macro_rules | `(tactic| walk_at "xb") => `(tactic| (simp only [Br.bindS, List.set_cons_zero, List.set_cons_succ]; walk_at "x"))

section
variable {P : Program} {w : World} {K : PySem.W.Frag} {mg : Str → Option Value} {base : Heap}

open Br

def sp_is_input (K : PySem.W.Frag) : Sp := fun vs H Q _ => ∃ (d : Addr) (v : V) (e : PyData), vs = [v] ∧ DAt d H v e ∧ Q (.bl (isBD 60 e)) H
theorem ok_is_input (T : Txt K mg) : FnOk P w K mg base CX0 2 T.a_is_input T.fd_is_input ["k"] (sp_is_input K) := by
  refine T.F_is_input.ok sc_is_input (fun vs H Q E h => ?_) (fun cdv A outer s H vs Q E hr h => ?_)
  · obtain ⟨d, v, e, rfl, _⟩ := h
    rfl
  · obtain ⟨d, v, e, rfl, hv, q⟩ := h
    refine ⟨_, (pss_one (ps_ret (pe_call (ok_is_below T) hr (by rfl) T.g_is_below T.F_is_below.kp T.b_is_below .nil pass0 (pa_cons (pv 0) (pa_cons (pe_glob (v := .int 60) (by rfl) T.c_MOST_INPUTS ⟨_, rfl⟩) pa_nil))))), ?_⟩
    walk_at "start"
    walk_at "x"
    refine ⟨v, _, rfl, hv.odd, ?_⟩
    rw [hv.isB]
    exact q


def sp_are_nodes (K : PySem.W.Frag) : Sp := fun vs H Q _ => ∃ (d : Addr) (v : V) (e : PyData), vs = [v] ∧ DAt d H v e ∧ ∀ H', Same H H' → Q (.bl (nodesD e)) H'
theorem ok_are_nodes (T : Txt K mg) : FnOk P w K mg base CX0 1 T.a_are_nodes T.fd_are_nodes ["source"] (sp_are_nodes K) := by
  refine T.F_are_nodes.ok sc_are_nodes (fun vs H Q E h => ?_) (fun cdv A outer s H vs Q E hr h => ?_)
  · obtain ⟨d, v, e, rfl, _⟩ := h
    rfl
  · obtain ⟨d, v, e, rfl, hv, q⟩ := h
    refine ⟨_, (pss_cons (ps_if (PW.pt (pw_or (pt_not (pt_val (pe_callB (id := "isinstance") (r := rIsi K) call_isi (by rfl) T.m_isinstance (by decide +kernel) (pa_cons (pv 0) (pa_cons (pe_bltn (v := .ty "tuple") (by rfl) T.m_tuple (by decide +kernel) rfl) pa_nil))))) (pw_or1 (pt_not (pt_chain op_le op_le pe_int (pe_callB (id := "len") (r := rLen K) cr_len (by rfl) T.m_len PySem.boot_len (pa_cons (pv 0) pa_nil)) (pe_glob (v := .int 200) (by rfl) T.c_MOST_NODES ⟨_, rfl⟩))))))
      (pss_one (ps_ret pe_bl))
      pss_nil)
      (pss_one (ps_ret (pe_callB (id := "all") (r := rAll K) (cr_all rfl) (by rfl) T.m_all (by decide +kernel) (pa_cons (pe_lc (own := [("node", 1)]) (g := gName 1) (tt := tYes) rfl sc_are_nodes.nd (pi_tup (pv 0)) (blkOk_by (N := N_are_nodes) (sc := defScope s_are_nodes) (by decide +kernel)) (fun _ _ _ _ _ => (pg_name (i := 1) sc_are_nodes.nd rfl (Or.inl rfl))) (fun _ _ _ _ _ => pts_nil) (fun _ _ _ _ _ => (pe_callB (id := "isinstance") (r := rIsi K) call_isi (by rfl) T.m_isinstance (by decide +kernel) (pa_cons (pv 1) (pa_cons (pe_bltn (v := .ty "tuple") (by rfl) T.m_tuple (by decide +kernel) rfl) pa_nil))))) pa_nil))))), ?_⟩
    walk_at "start"
    cases hv with
    | tup h hs =>
      rename_i a xs es
      have hlen := hs.len
      have ep : nodesD (.tuple es) = ((decide (1 ≤ es.length) && decide (es.length ≤ 200)) && es.all isTupD) := rfl
      walk_at "x"
      walk_at "is"
      walk_at "f"
      refine x_lenT (st_of h) ?_
      walk_at "x"
      refine x_ite (fun h1 => ?_) (fun h1 => ?_)
      · walk_at "x"
        refine x_iteN (fun h2 => ?_) (fun h2 => ?_)
        · walk_at "x"
          have e : nodesD (.tuple es) = false := by rw [ep, decide_eq_false (show ¬ es.length ≤ 200 by omega), Bool.and_false, Bool.false_and]
          rw [← e]
          exact q H (Same.refl _)
        · walk_at "x"
          refine x_lcB (xs := xs) (fun i => isTupD (es.getD i .none)) (J := Itt K a) (G := fun H => SqT K H a xs) (fun R r => ⟨_, rfl, a, rfl, ⟨xs, st_of h⟩, r⟩) walk_tup (by omega) (fun H' s => st_of (s _ _ h)) (fun x => rfl) ?_ ?_
          · intro i x H' s hx R hR
            obtain ⟨f, hf, hxf⟩ := hs.get hx
            rw [getDD hf] at hR
            have hxf := DAt.same s f hxf
            walk_at "x"
            cases hxf with
            | int i => walk_at "is"; exact hR H' (Same.refl _)
            | bl b => walk_at "is"; exact hR H' (Same.refl _)
            | non => walk_at "is"; exact hR H' (Same.refl _)
            | str z => walk_at "is"; exact hR H' (Same.refl _)
            | tup h hs => walk_at "is"; exact hR H' (Same.refl _)
            | lst hd h hs => walk_at "is"; exact hR H' (Same.refl _)
          · intro p H' hp s hP
            walk_at "x"
            refine x_all hP ?_
            rw [hlen, range_allD (f := isTupD)]
            have e : nodesD (.tuple es) = es.all isTupD := by rw [ep, decide_eq_true (show 1 ≤ es.length by omega), decide_eq_true (show es.length ≤ 200 by omega)]; rfl
            rw [← e]
            exact q H' s
      · walk_at "x"
        walk_at "t"
        have e : nodesD (.tuple es) = false := by rw [ep, decide_eq_false (show ¬ 1 ≤ es.length by omega), Bool.false_and, Bool.false_and]
        rw [← e]
        exact q H (Same.refl _)
    | int i =>
      walk_at "x"
      walk_at "is"
      walk_at "t"
      exact q H (Same.refl _)
    | bl b =>
      walk_at "x"
      walk_at "is"
      walk_at "t"
      exact q H (Same.refl _)
    | non =>
      walk_at "x"
      walk_at "is"
      walk_at "t"
      exact q H (Same.refl _)
    | str z =>
      walk_at "x"
      walk_at "is"
      walk_at "t"
      exact q H (Same.refl _)
    | lst hd h hs =>
      walk_at "x"
      walk_at "is"
      walk_at "t"
      exact q H (Same.refl _)


def sp_are_before (K : PySem.W.Frag) : Sp := fun vs H Q _ => ∃ (d r : Addr) (n : Int) (xs : List V) (es : List PyData), vs = [.int n, .ref r] ∧ H r = some (.tup xs) ∧ DAts d H xs es ∧ es.length ≤ 1000 ∧ ∀ H', Same H H' → Q (.bl (es.all (isBD n))) H'
theorem ok_are_before (T : Txt K mg) : FnR P w K mg base CX0 2 T.a_are_before (spStar 1 (sp_are_before K)) := by
  refine star_ok T.F_are_before T.b_are_before sc_are_before (fun cdv A outer s H vs Q E hr h => ?_)
  obtain ⟨d, r, n, xs, es, rfl, hr2, hs, hl, q⟩ := h
  have hlen := hs.len
  refine ⟨_, (pss_one (ps_ret (pe_callB (id := "all") (r := rAll K) (cr_all rfl) (by rfl) T.m_all (by decide +kernel) (pa_cons (pe_lc (own := [("reference", 2)]) (g := gName 2) (tt := tYes) rfl sc_are_before.nd (pi_tup (pv 1)) (blkOk_by (N := N_are_before) (sc := defScope s_are_before) (by decide +kernel)) (fun _ _ _ _ _ => (pg_name (i := 2) sc_are_before.nd rfl (Or.inl rfl))) (fun _ _ _ _ _ => pts_nil) (fun _ _ _ _ _ => (pe_call (ok_is_below T) hr (by rfl) T.g_is_below T.F_is_below.kp T.b_is_below .nil pass0 (pa_cons (pv 2) (pa_cons (pv 0) pa_nil))))) pa_nil)))), ?_⟩
  walk_at "start"
  walk_at "x"
  refine x_lcB (xs := xs) (fun i => isBD n (es.getD i .none)) (J := Itt K r) (G := fun H => SqT K H r xs) (fun R r2 => ⟨_, rfl, r, rfl, ⟨xs, st_of hr2⟩, r2⟩) walk_tup (by omega) (fun H' s => st_of (s _ _ hr2)) (fun x => rfl) ?_ ?_
  · intro i x H' s hx R hR
    obtain ⟨f, hf, hxf⟩ := hs.get hx
    rw [getDD hf] at hR
    have hxf := DAt.same s f hxf
    walk_at "x"
    refine ⟨x, _, rfl, hxf.odd, ?_⟩
    rw [hxf.isB]
    exact hR H' (Same.refl _)
  · intro p H' hp s hP
    walk_at "x"
    refine x_all hP ?_
    rw [hlen, range_allD (f := isBD n)]
    exact q H' s

/-- what a call of are_before asks -/
theorem before_call {K : PySem.W.Frag} {d : Addr} {H : Hp} {n : Int} {vs : List V} {es : List PyData} {Q : VK} {E : XK} (hs : DAts d H vs es) (hl : es.length ≤ 1000) (q : ∀ H', Same H H' → Q (.bl (es.all (isBD n))) H') : spStar 1 (sp_are_before K) (.int n :: vs) H Q E :=
  ⟨[.int n], vs, rfl, rfl, by rw [hs.len]; exact Nat.le_trans hl (by decide), fun p hp => ⟨d, p, n, vs, es, rfl, upd_same, DAts.same (same_upd hp) es hs, hl, fun H' s => q H' ((same_upd hp).trans s)⟩⟩

end
end Br
namespace Br
open PySem PySem.Spec PyProof.Rows L2
local macro_rules | `(tactic| walk_at "x1") => `(tactic| (with_reducible first
  | refine Br.x_seq ?_ | refine Br.x_set ?_ | refine Br.x_asg ?_ | refine Br.x_next ?_ | refine Br.x_ret ?_ | refine Br.x_retN ?_ | refine Br.x_drop ?_ | refine Br.x_if ?_ | refine Br.x_brk ?_ | refine Br.x_cont ?_
  | refine Br.x_c ?_ | refine Br.x_op ?_ | refine Br.x_un ?_ | refine Br.x_I0 ?_ | refine Br.x_U ?_ | refine Br.x_EqI ?_ | refine Br.x_NeI ?_ | refine Br.x_EqB ?_ | refine Br.x_iN ?_ | refine Br.x_int1 ?_ | refine Br.x_min2 ?_ | refine Br.x_max2 ?_ | refine Br.x_nN ?_ | refine Br.x_ifE ?_
  | refine Br.x_test (b := ()) ?_ | refine Br.x_tB ?_ | refine Br.x_bl ?_ | refine Br.x_and ?_ | refine Br.x_or ?_ | refine Br.x_not ?_ | refine Br.x_andV ?_ | refine Br.x_orV ?_ | refine Br.x_notV ?_ | refine Br.x_blP ?_
  | refine Br.x_nil ?_ | refine Br.x_cons ?_ | refine Br.x_call ?_ | refine Br.x_CB ?_ | refine Br.x_BM ?_ | refine Br.x_tup ?_ | refine Br.x_lst ?_ | refine Br.x_chain ?_ | refine Br.x_par ?_ | refine Br.x_gSub ?_ | refine Br.x_gName ?_ | refine Br.x_fld ?_ | refine Br.x_fldS ?_ | refine Br.x_match ?_ | refine Br.x_else ?_ | refine Br.x_noCase ?_))
local macro_rules | `(tactic| walk_at "xv") => `(tactic| ((with_reducible refine' Br.x_var ?hvar ?_); (case hvar => rfl)))
local macro_rules | `(tactic| walk_at "xd") => `(tactic| (dsimp only [List.set_cons_zero, List.set_cons_succ, List.cons_append, List.nil_append, List.append_nil]))
local macro_rules | `(tactic| walk_at "xi") => `(tactic| ((with_reducible refine Br.x_I ?hside ?_); (case hside => first | exact Br.mul_r (by decide) (by decide) | exact Br.mul_l (by decide) (by decide) | exact Br.mul_l (by omega) (by omega) | exact Br.mul_r (by omega) (by omega) | (show (0 : Int) < _; first | decide | omega) | exact ⟨by decide, by decide⟩ | exact ⟨by omega, by omega⟩ | exact ⟨by decide, by decide, by decide⟩)))
local macro_rules | `(tactic| walk_at "x") => `(tactic| (repeat (first | walk_at "x1" | walk_at "xv" | walk_at "xi" | walk_at "xd")))
local macro_rules | `(tactic| walk_at "start") => `(tactic| (simp only [L2.start, List.map_cons, List.map_nil, List.length_cons, List.length_nil, Nat.reduceAdd, Nat.reduceSub, List.replicate, List.cons_append, List.nil_append, List.append_nil]))
local macro_rules | `(tactic| walk_at "isi") => `(tactic| first
  | refine Br.x_isi (b := true) (.base (.int _)) (by decide +kernel) ?_ | refine Br.x_isi (b := false) (.base (.int _)) (by decide +kernel) ?_
  | refine Br.x_isi (b := true) (.base (.bl _)) (by decide +kernel) ?_ | refine Br.x_isi (b := false) (.base (.bl _)) (by decide +kernel) ?_
  | refine Br.x_isi (b := false) (.base .non) (by decide +kernel) ?_
  | refine Br.x_isi (b := true) (.base (.str _)) (by decide +kernel) ?_ | refine Br.x_isi (b := false) (.base (.str _)) (by decide +kernel) ?_
  | refine Br.x_isi (b := true) (.base (.tup (by assumption))) (by decide +kernel) ?_ | refine Br.x_isi (b := false) (.base (.tup (by assumption))) (by decide +kernel) ?_
  | refine Br.x_isi (b := true) (.base (.lst (by assumption))) (by decide +kernel) ?_ | refine Br.x_isi (b := false) (.base (.lst (by assumption))) (by decide +kernel) ?_)
local macro_rules | `(tactic| walk_at "f") => `(tactic| (refine L2.iteF ?_; walk_at "x"))
local macro_rules | `(tactic| walk_at "t") => `(tactic| (refine L2.iteT ?_; walk_at "x"))
local macro_rules | `(tactic| walk_at "is") => `(tactic| (walk_at "isi"; walk_at "x"))
local macro_rules | `(tactic| walk_at "xb") => `(tactic| (simp only [Br.bindS, List.set_cons_zero, List.set_cons_succ]; walk_at "x"))

section
variable {P : Program} {w : World} {K : PySem.W.Frag} {mg : Str → Option Value} {base : Heap}

open Br

def sp_is_node (K : PySem.W.Frag) : Sp := fun vs H Q _ => ∃ (d a : Addr) (n : Int) (es : List PyData), vs = [.ref a, .int n] ∧ DAt d H (.ref a) (.tuple es) ∧ Sh (.tuple es) ∧ ∀ H', Same H H' → Q (.bl (snodeD n (.tuple es))) H'
theorem sno_first {m : Int} {e0 : PyData} {es : List PyData} (h : ∀ w, e0 ≠ .str w) : snodeD m (.tuple (e0 :: es)) = false := by
  match e0, es, h with
  | .str w, _, h => exact absurd rfl (h w)
  | .none, [], _ => rfl
  | .none, [_], _ => rfl
  | .none, [_, _], _ => rfl
  | .none, _ :: _ :: _ :: _, _ => rfl
  | .bool _, [], _ => rfl
  | .bool _, [_], _ => rfl
  | .bool _, [_, _], _ => rfl
  | .bool _, _ :: _ :: _ :: _, _ => rfl
  | .int _, [], _ => rfl
  | .int _, [_], _ => rfl
  | .int _, [_, _], _ => rfl
  | .int _, _ :: _ :: _ :: _, _ => rfl
  | .list _, [], _ => rfl
  | .list _, [_], _ => rfl
  | .list _, [_, _], _ => rfl
  | .list _, _ :: _ :: _ :: _, _ => rfl
  | .tuple _, [], _ => rfl
  | .tuple _, [_], _ => rfl
  | .tuple _, [_, _], _ => rfl
  | .tuple _, _ :: _ :: _ :: _, _ => rfl
  | .dict _, [], _ => rfl
  | .dict _, [_], _ => rfl
  | .dict _, [_, _], _ => rfl
  | .dict _, _ :: _ :: _ :: _, _ => rfl
theorem ok_is_node (T : Txt K mg) : FnOk P w K mg base CX0 3 T.a_is_node T.fd_is_node ["node", "at"] (sp_is_node K) := by
  refine T.F_is_node.ok sc_is_node (fun vs H Q E h => ?_) (fun cdv A outer s H vs Q E hr h => ?_)
  · obtain ⟨d, a, n, es, rfl, _⟩ := h
    rfl
  · obtain ⟨d, a, n, es, rfl, hv, hsh, q⟩ := h
    cases hv with
    | tup ha hs =>
      rename_i xs
      have hsh := hsh.of_tup
      refine ⟨_, (pss_one (ps_match (pv 0) (pcs_seq rfl (op_eqD hr.units) (pcap_name 2 sc_is_node.nd rfl (.inl rfl) pcap_nil)
      (pss_one (ps_ret (pe_call (ok_is_below T) (hr.mono (by decide)) (by rfl) T.g_is_below T.F_is_below.kp T.b_is_below .nil pass0 (pa_cons (pv 2) (pa_cons (pe_glob (v := .int 1000000000) (by rfl) T.c_CONSTANTS_END ⟨_, rfl⟩) pa_nil)))))
      (pcs_seq rfl (op_eqD hr.units) (pcap_name 3 sc_is_node.nd rfl (.inl rfl) pcap_nil)
      (pss_one (ps_ret (pe_call (ok_is_input T) hr (by rfl) T.g_is_input T.F_is_input.kp T.b_is_input .nil pass0 (pa_cons (pv 3) pa_nil))))
      (pcs_seq rfl (op_eqD hr.units) (pcap_name 4 sc_is_node.nd rfl (.inl rfl) (pcap_name 5 sc_is_node.nd rfl (.inl rfl) pcap_nil))
      (pss_one (ps_ret (pe_callR (ok_are_before T) hr T.F_are_before.kp (by rfl) T.g_are_before pass0 (pa_cons (pv 1) (pa_cons (pv 4) (pa_cons (pv 5) pa_nil))))))
      (pcs_seq rfl (op_eqD hr.units) (pcap_name 4 sc_is_node.nd rfl (.inl rfl) (pcap_name 5 sc_is_node.nd rfl (.inl rfl) pcap_nil))
      (pss_one (ps_ret (pe_callR (ok_are_before T) hr T.F_are_before.kp (by rfl) T.g_are_before pass0 (pa_cons (pv 1) (pa_cons (pv 4) (pa_cons (pv 5) pa_nil))))))
      (pcs_seq rfl (op_eqD hr.units) (pcap_name 2 sc_is_node.nd rfl (.inl rfl) (pcap_name 4 sc_is_node.nd rfl (.inl rfl) pcap_nil))
      (pss_one (ps_ret (pe_and (pe_call (ok_is_below T) (hr.mono (by decide)) (by rfl) T.g_is_below T.F_is_below.kp T.b_is_below .nil pass0 (pa_cons (pv 2) (pa_cons (pe_glob (v := .int 1000000000) (by rfl) T.c_CONSTANTS_END ⟨_, rfl⟩) pa_nil))) (pe_one (pe_callR (ok_are_before T) hr T.F_are_before.kp (by rfl) T.g_are_before pass0 (pa_cons (pv 1) (pa_cons (pv 4) pa_nil)))))))
      (pcs_seq rfl (op_eqD hr.units) (pcap_name 4 sc_is_node.nd rfl (.inl rfl) (pcap_name 5 sc_is_node.nd rfl (.inl rfl) (pcap_name 6 sc_is_node.nd rfl (.inl rfl) pcap_nil)))
      (pss_one (ps_ret (pe_callR (ok_are_before T) hr T.F_are_before.kp (by rfl) T.g_are_before pass0 (pa_cons (pv 1) (pa_cons (pv 4) (pa_cons (pv 5) (pa_cons (pv 6) pa_nil)))))))
      (pcs_else (rest := _) (pss_one (ps_ret pe_bl))))))))))), ?_⟩
      walk_at "start"
      walk_at "x"
      refine x_caseD (st_of ha) hs hsh (by decide +kernel) (by decide) (fun y ys er h1 h2 h3 h4 => ?_) (fun c1 => ?_)
      · subst h2
        obtain ⟨k, rfl⟩ : ∃ k, er = [k] := by
          match er, h3 with
          | [k], _ => exact ⟨k, rfl⟩
        cases h4 with
        | cons h4 h5 =>
          cases h5
          walk_at "xb"
          rw [sn1, if_pos rfl] at q
          refine ⟨_, 1000000000, rfl, h4.odd, ?_⟩
          rw [h4.isB]
          exact q H (Same.refl _)
      refine x_caseD (st_of ha) hs hsh (by decide +kernel) (by decide) (fun y ys er h1 h2 h3 h4 => ?_) (fun c2 => ?_)
      · subst h2
        obtain ⟨k, rfl⟩ : ∃ k, er = [k] := by
          match er, h3 with
          | [k], _ => exact ⟨k, rfl⟩
        cases h4 with
        | cons h4 h5 =>
          cases h5
          walk_at "xb"
          rw [sn1, if_neg (by decide), if_pos rfl] at q
          exact ⟨d, _, _, rfl, h4, q H (Same.refl _)⟩
      refine x_caseD (st_of ha) hs hsh (by decide +kernel) (by decide) (fun y ys er h1 h2 h3 h4 => ?_) (fun c3 => ?_)
      · subst h2
        obtain ⟨i, j, rfl⟩ : ∃ i j, er = [i, j] := by
          match er, h3 with
          | [i, j], _ => exact ⟨i, j, rfl⟩
        cases h4 with
        | cons h4 h5 =>
          cases h5 with
          | cons h5 h6 =>
            cases h6
            walk_at "xb"
            rw [sn2, if_pos rfl] at q
            refine x_callR ?_
            walk_at "x"
            refine before_call (.cons h4 (.cons h5 .nil)) (Nat.le_of_ble_eq_true rfl) fun H' s => ?_
            have e : [i, j].all (isBD n) = (isBD n i && isBD n j) := by show (isBD n i && (isBD n j && true)) = _; rw [Bool.and_true]
            rw [e]
            exact q H' s
      refine x_caseD (st_of ha) hs hsh (by decide +kernel) (by decide) (fun y ys er h1 h2 h3 h4 => ?_) (fun c4 => ?_)
      · subst h2
        obtain ⟨i, j, rfl⟩ : ∃ i j, er = [i, j] := by
          match er, h3 with
          | [i, j], _ => exact ⟨i, j, rfl⟩
        cases h4 with
        | cons h4 h5 =>
          cases h5 with
          | cons h5 h6 =>
            cases h6
            walk_at "xb"
            rw [sn2, if_neg (by decide), if_pos rfl] at q
            refine x_callR ?_
            walk_at "x"
            refine before_call (.cons h4 (.cons h5 .nil)) (Nat.le_of_ble_eq_true rfl) fun H' s => ?_
            have e : [i, j].all (isBD n) = (isBD n i && isBD n j) := by show (isBD n i && (isBD n j && true)) = _; rw [Bool.and_true]
            rw [e]
            exact q H' s
      refine x_caseD (st_of ha) hs hsh (by decide +kernel) (by decide) (fun y ys er h1 h2 h3 h4 => ?_) (fun c5 => ?_)
      · subst h2
        obtain ⟨i, j, rfl⟩ : ∃ i j, er = [i, j] := by
          match er, h3 with
          | [i, j], _ => exact ⟨i, j, rfl⟩
        cases h4 with
        | cons h4 h5 =>
          cases h5 with
          | cons h5 h6 =>
            cases h6
            walk_at "xb"
            rw [sn2, if_neg (by decide), if_neg (by decide), if_pos rfl] at q
            refine ⟨_, 1000000000, rfl, h4.odd, ?_⟩
            rw [h4.isB]
            refine x_blP ?_
            refine x_iteB (fun hb => ?_) (fun hb => ?_)
            · refine x_callR ?_
              walk_at "x"
              refine before_call (.cons h5 .nil) (Nat.le_of_ble_eq_true rfl) fun H' s => ?_
              have e : [j].all (isBD n) = isBD n j := by show (isBD n j && true) = _; rw [Bool.and_true]
              rw [e]
              rw [hb, Bool.true_and] at q
              exact q H' s
            · rw [hb, Bool.false_and] at q
              exact q H (Same.refl _)
      refine x_caseD (st_of ha) hs hsh (by decide +kernel) (by decide) (fun y ys er h1 h2 h3 h4 => ?_) (fun c6 => ?_)
      · subst h2
        obtain ⟨i, j, l, rfl⟩ : ∃ i j l, er = [i, j, l] := by
          match er, h3 with
          | [i, j, l], _ => exact ⟨i, j, l, rfl⟩
        cases h4 with
        | cons h4 h5 =>
          cases h5 with
          | cons h5 h6 =>
            cases h6 with
            | cons h6 h7 =>
              cases h7
              walk_at "xb"
              rw [sn3, if_pos rfl] at q
              refine x_callR ?_
              walk_at "x"
              refine before_call (.cons h4 (.cons h5 (.cons h6 .nil))) (Nat.le_of_ble_eq_true rfl) fun H' s => ?_
              have e : [i, j, l].all (isBD n) = (isBD n i && (isBD n j && isBD n l)) := by show (isBD n i && (isBD n j && (isBD n l && true))) = _; rw [Bool.and_true]
              rw [e]
              exact q H' s
      walk_at "x"
      have e : snodeD n (.tuple es) = false := by
        match es, c1, c2, c3, c4, c5, c6 with
        | [], _, _, _, _, _, _ => rfl
        | [.str w, k], c1, c2, _, _, _, _ =>
          have c1 : (true && decide (w = "const")) = false := c1
          have c2 : (true && decide (w = "input")) = false := c2
          rw [Bool.true_and, decide_eq_false_iff_not] at c1 c2
          rw [sn1, if_neg c1, if_neg c2]
        | [.str w, i, j], _, _, c3, c4, c5, _ =>
          have c3 : (true && decide (w = "sum")) = false := c3
          have c4 : (true && decide (w = "product")) = false := c4
          have c5 : (true && decide (w = "scaled")) = false := c5
          rw [Bool.true_and, decide_eq_false_iff_not] at c3 c4 c5
          rw [sn2, if_neg c3, if_neg c4, if_neg c5]
        | [.str w, i, j, l], _, _, _, _, _, c6 =>
          have c6 : (true && decide (w = "choose")) = false := c6
          rw [Bool.true_and, decide_eq_false_iff_not] at c6
          rw [sn3, if_neg c6]
        | [.str w], _, _, _, _, _, _ => rfl
        | .str w :: _ :: _ :: _ :: _ :: _, _, _, _, _, _, _ => rfl
        | .none :: es, _, _, _, _, _, _ => exact sno_first (fun w h => by cases h)
        | .bool _ :: es, _, _, _, _, _, _ => exact sno_first (fun w h => by cases h)
        | .int _ :: es, _, _, _, _, _, _ => exact sno_first (fun w h => by cases h)
        | .list _ :: es, _, _, _, _, _, _ => exact sno_first (fun w h => by cases h)
        | .tuple _ :: es, _, _, _, _, _, _ => exact sno_first (fun w h => by cases h)
        | .dict _ :: es, _, _, _, _, _, _ => exact sno_first (fun w h => by cases h)
      rw [← e]
      exact q H (Same.refl _)


def sp_is_source (K : PySem.W.Frag) : Sp := fun vs H Q _ => ∃ (d : Addr) (v : V) (e : PyData), vs = [v] ∧ DAt d H v e ∧ Sh e ∧ ∀ H', Same H H' → Q (.bl (sourceD e)) H'
theorem sourceD_no {e : PyData} (h : nodesD e = false) : sourceD e = false := by
  cases e with
  | tuple es =>
    show (nodesD (.tuple es) && _) = false
    rw [h, Bool.false_and]
  | _ => rfl
theorem range_all2 {es : List PyData} {f : Nat → PyData → Bool} : ((List.range es.length).map fun i => f i (es.getD i .none)).all id = (List.range es.length).all fun i => f i (es.getD i .none) := by rw [List.all_map]; rfl
theorem ok_is_source (T : Txt K mg) : FnOk P w K mg base CX0 4 T.a_is_source T.fd_is_source ["source"] (sp_is_source K) := by
  refine T.F_is_source.ok sc_is_source (fun vs H Q E h => ?_) (fun cdv A outer s H vs Q E hr h => ?_)
  · obtain ⟨d, v, e, rfl, _⟩ := h
    rfl
  · obtain ⟨d, v, e, rfl, hv, hsh, q⟩ := h
    refine ⟨_, (pss_cons (ps_if (pt_not (pt_val (pe_call (ok_are_nodes T) (hr.mono (by decide)) (by rfl) T.g_are_nodes T.F_are_nodes.kp T.b_are_nodes .nil pass0 (pa_cons (pv 0) pa_nil))))
      (pss_one (ps_ret pe_bl))
      pss_nil)
      (pss_one (ps_ret (pe_callB (id := "all") (r := rAll K) (cr_all rfl) (by rfl) T.m_all (by decide +kernel) (pa_cons (pe_lc (own := [("at", 1), ("node", 2)]) (g := gTup K 2 (gCons (gName 1) (gCons (gName 2) gNil))) (tt := tYes) rfl sc_is_source.nd (pi_enumT (K2 := K) rfl (by rfl) T.m_enumerate (pa_cons (pv 0) pa_nil)) (blkOk_by (N := N_is_source) (sc := defScope s_is_source) (by decide +kernel)) (fun _ _ _ _ _ => (pg_tup rfl (pgs_cons (pg_name (i := 1) sc_is_source.nd rfl (Or.inl rfl)) (pgs_cons (pg_name (i := 2) sc_is_source.nd rfl (Or.inl rfl)) pgs_nil)))) (fun _ _ _ _ _ => pts_nil) (fun _ _ _ _ _ => (pe_call (ok_is_node T) hr (by rfl) T.g_is_node T.F_is_node.kp T.b_is_node .nil pass0 (pa_cons (pv 2) (pa_cons (pv 1) pa_nil))))) pa_nil))))), ?_⟩
    walk_at "start"
    walk_at "x"
    refine ⟨d, v, e, rfl, hv, fun H1 s1 => ?_⟩
    walk_at "x"
    refine x_iteBN (fun h0 => ?_) (fun h0 => ?_)
    · walk_at "x"
      rw [sourceD_no h0] at q
      exact q H1 s1
    cases e with
    | tuple es =>
      cases hv with
      | tup ha hs =>
        rename_i a xs
        have hlen := hs.len
        have hsh2 := hsh.of_tup
        have hb : ((decide (1 ≤ es.length) && decide (es.length ≤ 200)) && es.all isTupD) = true := h0
        rw [Bool.and_eq_true, Bool.and_eq_true, decide_eq_true_iff, decide_eq_true_iff] at hb
        walk_at "x"
        refine x_lcEnT (xs := xs) (fun i => .bl (snodeD (i : Int) (es.getD i .none))) (fun R r => by walk_at "x"; exact r) (st_of (s1 _ _ ha)) (by omega) (fun x y => rfl) (fun H' s => st_of (s _ _ (s1 _ _ ha))) ?_ ?_
        · intro i x H' s hx R hR
          obtain ⟨f, hf, hxf⟩ := hs.get hx
          rw [getDD hf] at hR
          have hft := List.all_eq_true.mp hb.2 f (List.mem_of_getElem? hf)
          cases f with
          | tuple fs =>
            have hxf := DAt.same (s1.trans s) _ hxf
            obtain ⟨b, rfl⟩ : ∃ b, x = .ref b := by cases hxf; exact ⟨_, rfl⟩
            walk_at "x"
            exact ⟨d, b, (i : Int), fs, rfl, hxf, hsh2 _ (List.mem_of_getElem? hf), hR⟩
          | _ => cases hft
        · intro p H' hp s hP
          walk_at "x"
          have hP2 : H' p = some (.lst (((List.range xs.length).map fun (i : Nat) => snodeD (i : Int) (es.getD i .none)).map V.bl)) := by rw [hP, List.map_map]; rfl
          refine x_all hP2 ?_
          rw [hlen, range_all2 (f := fun (i : Nat) e => snodeD (i : Int) e)]
          have e : sourceD (.tuple es) = ((List.range es.length).all fun i => snodeD (i : Int) (es.getD i .none)) := by
            show (nodesD (.tuple es) && _) = _
            rw [h0, Bool.true_and]
          rw [← e]
          exact q H' (s1.trans s)
    | _ => cases h0





end
end Br
namespace Br
open PySem PySem.Spec PyProof.Rows L2
local macro_rules | `(tactic| walk_at "x1") => `(tactic| (with_reducible first
  | refine Br.x_seq ?_ | refine Br.x_set ?_ | refine Br.x_asg ?_ | refine Br.x_next ?_ | refine Br.x_ret ?_ | refine Br.x_retN ?_ | refine Br.x_drop ?_ | refine Br.x_if ?_ | refine Br.x_brk ?_ | refine Br.x_cont ?_
  | refine Br.x_c ?_ | refine Br.x_op ?_ | refine Br.x_un ?_ | refine Br.x_I0 ?_ | refine Br.x_U ?_ | refine Br.x_EqI ?_ | refine Br.x_NeI ?_ | refine Br.x_EqB ?_ | refine Br.x_iN ?_ | refine Br.x_int1 ?_ | refine Br.x_min2 ?_ | refine Br.x_max2 ?_ | refine Br.x_nN ?_ | refine Br.x_ifE ?_
  | refine Br.x_test (b := ()) ?_ | refine Br.x_tB ?_ | refine Br.x_bl ?_ | refine Br.x_and ?_ | refine Br.x_or ?_ | refine Br.x_not ?_ | refine Br.x_andV ?_ | refine Br.x_orV ?_ | refine Br.x_notV ?_ | refine Br.x_blP ?_
  | refine Br.x_nil ?_ | refine Br.x_cons ?_ | refine Br.x_call ?_ | refine Br.x_CB ?_ | refine Br.x_BM ?_ | refine Br.x_tup ?_ | refine Br.x_lst ?_ | refine Br.x_chain ?_ | refine Br.x_par ?_ | refine Br.x_gSub ?_ | refine Br.x_gName ?_ | refine Br.x_fld ?_ | refine Br.x_fldS ?_ | refine Br.x_match ?_ | refine Br.x_else ?_ | refine Br.x_noCase ?_))
local macro_rules | `(tactic| walk_at "xv") => `(tactic| ((with_reducible refine' Br.x_var ?hvar ?_); (case hvar => rfl)))
local macro_rules | `(tactic| walk_at "xd") => `(tactic| (dsimp only [List.set_cons_zero, List.set_cons_succ, List.cons_append, List.nil_append, List.append_nil]))
local macro_rules | `(tactic| walk_at "xi") => `(tactic| ((with_reducible refine Br.x_I ?hside ?_); (case hside => first | exact Br.mul_r (by decide) (by decide) | exact Br.mul_l (by decide) (by decide) | exact Br.mul_l (by omega) (by omega) | exact Br.mul_r (by omega) (by omega) | (show (0 : Int) < _; first | decide | omega) | exact ⟨by decide, by decide⟩ | exact ⟨by omega, by omega⟩ | exact ⟨by decide, by decide, by decide⟩)))
local macro_rules | `(tactic| walk_at "x") => `(tactic| (repeat (first | walk_at "x1" | walk_at "xv" | walk_at "xi" | walk_at "xd")))
local macro_rules | `(tactic| walk_at "start") => `(tactic| (simp only [L2.start, List.map_cons, List.map_nil, List.length_cons, List.length_nil, Nat.reduceAdd, Nat.reduceSub, List.replicate, List.cons_append, List.nil_append, List.append_nil]))
local macro_rules | `(tactic| walk_at "isi") => `(tactic| first
  | refine Br.x_isi (b := true) (.base (.int _)) (by decide +kernel) ?_ | refine Br.x_isi (b := false) (.base (.int _)) (by decide +kernel) ?_
  | refine Br.x_isi (b := true) (.base (.bl _)) (by decide +kernel) ?_ | refine Br.x_isi (b := false) (.base (.bl _)) (by decide +kernel) ?_
  | refine Br.x_isi (b := false) (.base .non) (by decide +kernel) ?_
  | refine Br.x_isi (b := true) (.base (.str _)) (by decide +kernel) ?_ | refine Br.x_isi (b := false) (.base (.str _)) (by decide +kernel) ?_
  | refine Br.x_isi (b := true) (.base (.tup (by assumption))) (by decide +kernel) ?_ | refine Br.x_isi (b := false) (.base (.tup (by assumption))) (by decide +kernel) ?_
  | refine Br.x_isi (b := true) (.base (.lst (by assumption))) (by decide +kernel) ?_ | refine Br.x_isi (b := false) (.base (.lst (by assumption))) (by decide +kernel) ?_)
local macro_rules | `(tactic| walk_at "f") => `(tactic| (refine L2.iteF ?_; walk_at "x"))
local macro_rules | `(tactic| walk_at "t") => `(tactic| (refine L2.iteT ?_; walk_at "x"))
local macro_rules | `(tactic| walk_at "is") => `(tactic| (walk_at "isi"; walk_at "x"))
local macro_rules | `(tactic| walk_at "xb") => `(tactic| (simp only [Br.bindS, List.set_cons_zero, List.set_cons_succ]; walk_at "x"))

section
variable {P : Program} {w : World} {K : PySem.W.Frag} {mg : Str → Option Value} {base : Heap}

open Br
theorem nat_get {ls : List Nat} {i : Nat} (h : i < ls.length) : (cInts ls)[i]? = some (.int ((ls.getD i 0 : Nat) : Int)) := by
  unfold cInts
  rw [List.getElem?_map, List.getElem?_eq_getElem h, List.getD_eq_getElem?_getD, List.getElem?_eq_getElem h]
  rfl

theorem Eqv.bls {K : PySem.W.Frag} {H : Hp} {n : Nat} {a b : Addr} {xs : List Bool} (h1 : H a = some (.lst (Br.bls xs))) (h2 : H b = some (.lst (Br.bls xs))) (hz : xs.length ≤ 100000) : Eqv K H (n + 2) (.ref a) (.ref b) :=
  Eqv.lst h1 h2 rfl (by rw [bls_len]; exact hz) fun i x y e1 e2 => by
    rw [e1] at e2
    cases e2
    obtain ⟨z, _, rfl⟩ := List.mem_map.mp (List.mem_of_getElem? e1)
    exact .bl
theorem keep_tupsG {d n : Addr} {H H' : Hp} (k : Keep d H H') (h : Dr H d n) : ∀ b xs, H b = some (.tup xs) → H' b = some (.tup xs) := fun b xs e => by
  obtain ⟨_, _, h, _⟩ := h
  exact k _ _ e (ne_of e h (by intro z; cases z))
theorem x_lcPreY {σ : L2.St} {H : Hp} {Q : VK} {ta : TE} {j : Nat} {te : TE} {vs : List Nat} (h : ta σ H fun v H1 => tLc (iRng1 (tCons (tC v) tNil)) (gName j) tYes te vs σ H1 Q) : tLc (iRng1 (tCons ta tNil)) (gName j) tYes te vs σ H Q := h
theorem x_forPre {σ : L2.St} {H : Hp} {D : Ends} {ta : TE} {g : TG} {tb : TS} (h : ta σ H fun v H1 => tFor (iRng1 (tCons (tC v) tNil)) g tb D σ H1) : tFor (iRng1 (tCons ta tNil)) g tb D σ H := h

open Br
theorem le_foldr {ls : List Nat} {i : Nat} : ls.getD i 0 ≤ ls.foldr max 1 ∧ 1 ≤ ls.foldr max 1 := by
  induction ls generalizing i with
  | nil => exact ⟨by simp, Nat.le_refl _⟩
  | cons x ls ih =>
    show _ ≤ max x (ls.foldr max 1) ∧ 1 ≤ max x (ls.foldr max 1)
    refine ⟨?_, Nat.le_trans (ih (i := 0)).2 (Nat.le_max_right _ _)⟩
    cases i with
    | zero => exact Nat.le_max_left _ _
    | succ i => exact Nat.le_trans (ih (i := i)).1 (Nat.le_max_right _ _)
theorem foldr_snoc {ls : List Nat} {x : Nat} : (ls ++ [x]).foldr max 1 = max (ls.foldr max 1) x := by
  induction ls with
  | nil => show max x 1 = max 1 x; exact Nat.max_comm _ _
  | cons y ls ih =>
    show max y ((ls ++ [x]).foldr max 1) = max (max y (ls.foldr max 1)) x
    rw [ih, Nat.max_assoc]

def sp_law_constant (K : PySem.W.Frag) : Sp := fun vs H Q _ => ∃ (d n : Addr), vs = [.ref d] ∧ Dr H d n ∧ RetD d n (fun v => ∃ c : Nat, v = .int (c : Int) ∧ c < 1000000000) H Q
theorem ok_law_constant (T : Txt K mg) : FnOk P w K mg base CX0 4 T.a_law_constant T.fd_law_constant ["draws"] (sp_law_constant K) := by
  refine T.F_law_constant.ok sc_law_constant (fun vs H Q E h => ?_) (fun cdv A outer s H vs Q E hr h => ?_)
  · obtain ⟨d, n, rfl, _⟩ := h
    rfl
  · obtain ⟨d, n, rfl, hD, q⟩ := h
    refine ⟨_, (pss_cons (ps_set (i := 1) sc_law_constant.nd rfl (.inl rfl) (pe_op op_mod (pe_call (ok_law_draw T) (hr.mono (by decide)) (by rfl) T.g_law_draw T.F_law_draw.kp T.b_law_draw .nil pass0 (pa_cons (pv 0) pa_nil)) pe_int))
      (pss_cons (ps_if (pt_cmpR op_lt (pv 1) pe_int (nomark _))
      (pss_one (ps_ret (pe_ix (r := rIxL K) ix_list (pe_lst (pa_cons pe_int (pa_cons pe_int (pa_cons (pe_op op_sub (pe_op op_pow pe_int pe_int) pe_int) pa_nil)))) (pv 1) (fun _ _ => rfl))))
      pss_nil)
      (pss_one (ps_ret (pe_call (ok_law_large T) hr (by rfl) T.g_law_large T.F_law_large.kp T.b_law_large .nil pass0 (pa_cons (pv 0) (pa_cons (pe_op op_pow pe_int pe_int) pa_nil))))))), ?_⟩
    walk_at "start"
    walk_at "x"
    refine ⟨d, n, rfl, hD, ?_⟩
    rintro _ H1 ⟨z, rfl, z0, z1⟩ hD1 k1
    walk_at "x"
    refine x_ite (fun h0 => ?_) (fun h0 => ?_)
    · walk_at "x"
      refine ⟨by show 3 ≤ sizeLine; decide, fun p hp => ?_⟩
      walk_at "x"
      obtain ⟨v, hv, hm⟩ := at_lt (xs := [.int 0, .int 1, .int (10 ^ (9 : Int).toNat - 1)]) (i := z % 5) (Int.emod_nonneg _ (by decide)) (show _ < (3 : Int) from h0)
      refine x_ixL (sq_of upd_same) hv ?_
      refine q _ _ ?_ (hD1.upd0 hp) (k1.trans (Same.keep (same_upd hp)))
      simp only [List.mem_cons, List.not_mem_nil, or_false] at hm
      rcases hm with rfl | rfl | rfl
      · exact ⟨0, rfl, by decide⟩
      · exact ⟨1, rfl, by decide⟩
      · exact ⟨999999999, rfl, by decide⟩
    · walk_at "x"
      refine ⟨d, n, _, rfl, by decide, hD1, ?_⟩
      rintro _ H2 ⟨y, rfl, y0, y1⟩ hD2 k2
      have e : (10 ^ (9 : Int).toNat : Int) = 1000000000 := by decide
      rw [e] at y1
      exact q _ _ ⟨y.toNat, by rw [show ((y.toNat : Nat) : Int) = y by omega], by omega⟩ hD2 (k1.trans k2)


def leafN : SN → Prop
  | .con c => c < 1000000000
  | .inp k => k < 60
  | _ => False
theorem leaf_ok {n : SN} {m : Nat} (h : leafN n) : SnOk m n := by cases n <;> first | exact h | exact h.elim
theorem leaf_cost {n : SN} {cs : List Nat} (h : leafN n) : cost1 cs n = 1 := by cases n <;> first | rfl | exact h.elim
def sp_law_leaf (K : PySem.W.Frag) : Sp := fun vs H Q _ => ∃ (d n : Addr), vs = [.ref d] ∧ Dr H d n ∧ RetG d n (fun v H' => ∃ (t : Addr) (b : SN), v = .ref t ∧ H' t = some (.tup (snV b)) ∧ leafN b) H Q
theorem ok_law_leaf (T : Txt K mg) : FnOk P w K mg base CX0 5 T.a_law_leaf T.fd_law_leaf ["draws"] (sp_law_leaf K) := by
  refine T.F_law_leaf.ok sc_law_leaf (fun vs H Q E h => ?_) (fun cdv A outer s H vs Q E hr h => ?_)
  · obtain ⟨d, n, rfl, _⟩ := h
    rfl
  · obtain ⟨d, n, rfl, hD, q⟩ := h
    refine ⟨_, (pss_cons (ps_if (pt_cmpR op_eq (pe_op op_mod (pe_call (ok_law_draw T) (hr.mono (by decide)) (by rfl) T.g_law_draw T.F_law_draw.kp T.b_law_draw .nil pass0 (pa_cons (pv 0) pa_nil)) pe_int) pe_int (nomark _))
      (pss_one (ps_ret (pe_tup (pa_cons pe_str (pa_cons (pe_call (ok_law_constant T) hr (by rfl) T.g_law_constant T.F_law_constant.kp T.b_law_constant .nil pass0 (pa_cons (pv 0) pa_nil)) pa_nil)))))
      pss_nil)
      (pss_cons (ps_set (i := 1) sc_law_leaf.nd rfl (.inl rfl) (pe_op op_mod (pe_call (ok_law_draw T) (hr.mono (by decide)) (by rfl) T.g_law_draw T.F_law_draw.kp T.b_law_draw .nil pass0 (pa_cons (pv 0) pa_nil)) pe_int))
      (Evl.pss_cut (ps_if (pt_cmpR op_gt (pv 1) pe_int (nomark _))
      (pss_one (ps_set (i := 1) sc_law_leaf.nd rfl (.inl rfl) (pe_op op_mod (pv 1) pe_int)))
      pss_nil)
      (pss_one (ps_ret (pe_tup (pa_cons pe_str (pa_cons (pv 1) pa_nil)))))))), ?_⟩
    walk_at "start"
    walk_at "x"
    refine ⟨d, n, rfl, hD, ?_⟩
    rintro _ H1 ⟨z, rfl, z0, z1⟩ hD1 k1
    walk_at "x"
    refine x_ite (fun h0 => ?_) (fun h0 => ?_)
    · walk_at "x"
      refine ⟨d, n, rfl, hD1, ?_⟩
      rintro _ H2 ⟨c, rfl, hc⟩ hD2 k2
      walk_at "x"
      refine ⟨by show 2 ≤ sizeLine; decide, fun t ht => ?_⟩
      have s := same_upd (o := .tup [.str "const", .int (c : Int)]) ht
      exact q _ _ ⟨t, .con c, rfl, upd_same, hc⟩ (hD2.same s) ((k1.trans k2).trans (Same.keep s))
    walk_at "x"
    refine ⟨d, n, rfl, hD1, ?_⟩
    rintro _ H2 ⟨y, rfl, y0, y1⟩ hD2 k2
    have k2 := k1.trans k2
    walk_at "x"
    refine x_cut (fun σ' H' => ∃ c : Nat, [some (V.ref d), some (.int (c : Int))] = σ' ∧ c < 60 ∧ H2 = H') ?_ ?_
    · walk_at "x"
      refine x_ite (fun h1 => ?_) (fun h1 => ?_)
      · walk_at "x"
        exact ⟨(y % 120 % 5).toNat, by rw [show (((y % 120 % 5).toNat : Nat) : Int) = y % 120 % 5 by omega], by omega, rfl⟩
      · walk_at "x"
        exact ⟨(y % 120).toNat, by rw [show (((y % 120).toNat : Nat) : Int) = y % 120 by omega], by omega, rfl⟩
    rintro _ _ ⟨c, rfl, hc, rfl⟩
    walk_at "x"
    refine ⟨by show 2 ≤ sizeLine; decide, fun t ht => ?_⟩
    have s := same_upd (o := .tup [.str "input", .int (c : Int)]) ht
    exact q _ _ ⟨t, .inp c, rfl, upd_same, hc⟩ (hD2.same s) (k2.trans (Same.keep s))


def sp_law_node (K : PySem.W.Frag) : Sp := fun vs H Q _ => ∃ (d n la : Addr) (most : Int) (cs : List Nat), vs = [.ref d, .ref la, .int most] ∧ H la = some (.lst (cInts cs)) ∧ la ≠ d ∧ cs.length ≤ 1000 ∧ Dr H d n ∧
  RetG d n (fun v H' => ∃ (r t : Addr) (b : SN), v = .ref r ∧ H' r = some (.lst [.ref t, .int ((cost1 cs b : Nat) : Int)]) ∧ r ≠ d ∧ H' t = some (.tup (snV b)) ∧ SnOk cs.length b ∧ ((cost1 cs b : Nat) : Int) ≤ max most (((cs.foldr max 1 : Nat)) : Int)) H Q
theorem ok_law_node (T : Txt K mg) : FnOk P w K mg base CX0 6 T.a_law_node T.fd_law_node ["draws", "costs", "most"] (sp_law_node K) := by
  refine T.F_law_node.ok sc_law_node (fun vs H Q E h => ?_) (fun cdv A outer s H vs Q E hr h => ?_)
  · obtain ⟨d, n, la, most, cs, rfl, _⟩ := h
    rfl
  · obtain ⟨d, n, la, most, cs, rfl, hla, hld, hl9, hD, q⟩ := h
    have hcl : (cInts cs).length = cs.length := cInts_len
    -- what every way ends with
    have fin : ∀ (b : SN) (x : Int) (H1 : Hp), Dr H1 d n → Keep d H H1 → SnOk cs.length b → x = ((cost1 cs b : Nat) : Int) → x ≤ max most (((cs.foldr max 1 : Nat)) : Int) → ∀ t, H1 t = some (.tup (snV b)) → ∀ r, H1 r = none → Q (.ref r) (upd H1 r (.lst [.ref t, .int x])) := fun b x H1 hD1 k1 ok hx hle t ht r hr => by
      subst hx
      have s2 := same_upd (o := .lst [.ref t, .int ((cost1 cs b : Nat) : Int)]) hr
      exact q _ _ ⟨r, t, b, rfl, upd_same, hD1.new hr, s2 _ _ ht, ok, hle⟩ (hD1.same s2) (k1.trans (Same.keep s2))
    have leaf : ∀ (b : SN) (H1 : Hp), Dr H1 d n → Keep d H H1 → leafN b → ∀ t, H1 t = some (.tup (snV b)) → ∀ r, H1 r = none → Q (.ref r) (upd H1 r (.lst [.ref t, .int 1])) := fun b H1 hD1 k1 hb => fin b 1 H1 hD1 k1 (leaf_ok hb) (by rw [leaf_cost hb]; rfl) (by have := (le_foldr (ls := cs) (i := 0)).2; omega)
    refine ⟨_, (pss_cons (ps_set (i := 3) sc_law_node.nd rfl (.inl rfl) (pe_callB (id := "len") (r := rLen K) cr_len (by rfl) T.m_len PySem.boot_len (pa_cons (pv 1) pa_nil)))
      (pss_cons (ps_set (i := 4) sc_law_node.nd rfl (.inl rfl) (pe_op op_mod (pe_call (ok_law_draw T) (hr.mono (by decide)) (by rfl) T.g_law_draw T.F_law_draw.kp T.b_law_draw .nil pass0 (pa_cons (pv 0) pa_nil)) pe_int))
      (pss_cons (ps_if (PW.pt (pw_or (pt_cmpR op_eq (pv 3) pe_int (nomark _)) (pw_or1 (pt_cmpR op_lt (pv 4) pe_int (nomark _)))))
      (pss_one (ps_ret (pe_lst (pa_cons (pe_call (ok_law_leaf T) hr (by rfl) T.g_law_leaf T.F_law_leaf.kp T.b_law_leaf .nil pass0 (pa_cons (pv 0) pa_nil)) (pa_cons pe_int pa_nil)))))
      pss_nil)
      (pss_cons (ps_set (i := 5) sc_law_node.nd rfl (.inl rfl) (pe_op op_sub (pe_op op_sub (pv 3) pe_int) (pe_op op_mod (pe_call (ok_law_draw T) (hr.mono (by decide)) (by rfl) T.g_law_draw T.F_law_draw.kp T.b_law_draw .nil pass0 (pa_cons (pv 0) pa_nil)) (pe_callB (id := "min") (r := rMin2) (cr_min2 rfl) (by rfl) T.m_min (by decide +kernel) (pa_cons (pv 3) (pa_cons pe_int pa_nil))))))
      (pss_cons (ps_set (i := 6) sc_law_node.nd rfl (.inl rfl) (pe_op op_mod (pe_call (ok_law_draw T) (hr.mono (by decide)) (by rfl) T.g_law_draw T.F_law_draw.kp T.b_law_draw .nil pass0 (pa_cons (pv 0) pa_nil)) (pv 3)))
      (pss_cons (ps_set (i := 7) sc_law_node.nd rfl (.inl rfl) (pe_op op_mod (pe_call (ok_law_draw T) (hr.mono (by decide)) (by rfl) T.g_law_draw T.F_law_draw.kp T.b_law_draw .nil pass0 (pa_cons (pv 0) pa_nil)) (pv 3)))
      (pss_cons (ps_set (i := 8) sc_law_node.nd rfl (.inl rfl) (pe_tup (pa_cons pe_str (pa_cons (pe_call (ok_law_constant T) (hr.mono (by decide)) (by rfl) T.g_law_constant T.F_law_constant.kp T.b_law_constant .nil pass0 (pa_cons (pv 0) pa_nil)) (pa_cons (pv 5) pa_nil)))))
      (pss_cons (ps_set (i := 9) sc_law_node.nd rfl (.inl rfl) (pe_ix (r := rIxL K) ix_list (pv 1) (pv 5) (fun _ _ => rfl)))
      (Evl.pss_cut (ps_if (pt_cmpR op_lt (pv 4) pe_int (nomark _))
      (pss_cons (ps_set (i := 8) sc_law_node.nd rfl (.inl rfl) (pe_tup (pa_cons pe_str (pa_cons (pv 5) (pa_cons (pv 6) pa_nil)))))
      (pss_one (ps_set (i := 9) sc_law_node.nd rfl (.inl rfl) (pe_op op_add (pe_ix (r := rIxL K) ix_list (pv 1) (pv 5) (fun _ _ => rfl)) (pe_ix (r := rIxL K) ix_list (pv 1) (pv 6) (fun _ _ => rfl))))))
      (pss_one (ps_if (pt_cmpR op_lt (pv 4) pe_int (nomark _))
      (pss_cons (ps_set (i := 8) sc_law_node.nd rfl (.inl rfl) (pe_tup (pa_cons pe_str (pa_cons (pv 5) (pa_cons (pv 6) pa_nil)))))
      (pss_one (ps_set (i := 9) sc_law_node.nd rfl (.inl rfl) (pe_op op_mul pe_int (pe_op op_add (pe_ix (r := rIxL K) ix_list (pv 1) (pv 5) (fun _ _ => rfl)) (pe_ix (r := rIxL K) ix_list (pv 1) (pv 6) (fun _ _ => rfl)))))))
      (pss_one (ps_if (pt_cmpR op_eq (pv 4) pe_int (nomark _))
      (pss_cons (ps_set (i := 8) sc_law_node.nd rfl (.inl rfl) (pe_tup (pa_cons pe_str (pa_cons (pv 5) (pa_cons (pv 6) (pa_cons (pv 7) pa_nil))))))
      (pss_one (ps_set (i := 9) sc_law_node.nd rfl (.inl rfl) (pe_op op_add (pe_ix (r := rIxL K) ix_list (pv 1) (pv 7) (fun _ _ => rfl)) (pe_op op_mul pe_int (pe_op op_add (pe_op op_add (pe_ix (r := rIxL K) ix_list (pv 1) (pv 5) (fun _ _ => rfl)) (pe_ix (r := rIxL K) ix_list (pv 1) (pv 6) (fun _ _ => rfl))) (pe_ix (r := rIxL K) ix_list (pv 1) (pv 7) (fun _ _ => rfl))))))))
      pss_nil)))))
      (pss_cons (ps_if (pt_cmpR op_gt (pv 9) (pv 2) (nomark _))
      (pss_one (ps_ret (pe_lst (pa_cons (pe_call (ok_law_leaf T) hr (by rfl) T.g_law_leaf T.F_law_leaf.kp T.b_law_leaf .nil pass0 (pa_cons (pv 0) pa_nil)) (pa_cons pe_int pa_nil)))))
      pss_nil)
      (pss_one (ps_ret (pe_lst (pa_cons (pv 8) (pa_cons (pv 9) pa_nil))))))))))))))), ?_⟩
    walk_at "start"
    walk_at "x"
    refine x_len (sq_of hla) ?_
    rw [hcl]
    walk_at "x"
    refine ⟨d, n, rfl, hD, ?_⟩
    rintro _ H1 ⟨z, rfl, z0, z1⟩ hD1 k1
    have hla1 := k1 _ _ hla hld
    walk_at "x"
    refine x_orI (decide (z % 9 < 2)) (fun _ R r => by walk_at "x"; exact r) ?_
    refine x_iteB (fun h0 => ?_) (fun h0 => ?_)
    · walk_at "x"
      refine ⟨d, n, rfl, hD1, ?_⟩
      rintro _ H2 ⟨t, b, rfl, ht, hb⟩ hD2 k2
      walk_at "x"
      exact ⟨by show 2 ≤ sizeLine; decide, fun r hr => leaf b H2 hD2 (k1.trans k2) hb t ht r hr⟩
    rw [Bool.or_eq_false_iff, decide_eq_false_iff_not, decide_eq_false_iff_not] at h0
    have hl0 : 0 < cs.length := by omega
    walk_at "x"
    refine ⟨d, n, rfl, hD1, ?_⟩
    rintro _ H2 ⟨y, rfl, y0, y1⟩ hD2 k2
    have hla2 := k2 _ _ hla1 hld
    have k2 := k1.trans k2
    walk_at "x"
    generalize hM : (if (3 : Int) < (cs.length : Int) then (3 : Int) else (cs.length : Int)) = M
    have M0 : 0 < M := by rw [← hM]; split <;> omega
    have M1 : M ≤ (cs.length : Int) := by rw [← hM]; split <;> omega
    walk_at "x"
    obtain ⟨i, ei, hi⟩ : ∃ i : Nat, (cs.length : Int) - 1 - y % M = (i : Int) ∧ i < cs.length := by
      have h1 := Int.emod_nonneg y (show M ≠ 0 by omega)
      have h2 := Int.emod_lt_of_pos y M0
      exact ⟨((cs.length : Int) - 1 - y % M).toNat, by omega, by omega⟩
    rw [ei]
    refine ⟨d, n, rfl, hD2, ?_⟩
    rintro _ H3 ⟨w, rfl, w0, w1⟩ hD3 k3
    have hla3 := k3 _ _ hla2 hld
    have k3 := k2.trans k3
    walk_at "x"
    obtain ⟨j, ej, hj⟩ := cast_lt (x := w % (cs.length : Int)) (c := cs.length) (Int.emod_nonneg w (by omega)) (Int.emod_lt_of_pos w (by omega))
    rw [ej]
    refine ⟨d, n, rfl, hD3, ?_⟩
    rintro _ H4 ⟨x, rfl, x0, x1⟩ hD4 k4
    have hla4 := k4 _ _ hla3 hld
    have k4 := k3.trans k4
    walk_at "x"
    obtain ⟨l, el, hl⟩ := cast_lt (x := x % (cs.length : Int)) (c := cs.length) (Int.emod_nonneg x (by omega)) (Int.emod_lt_of_pos x (by omega))
    rw [el]
    refine ⟨d, n, rfl, hD4, ?_⟩
    rintro _ H5 ⟨c, rfl, hc⟩ hD5 k5
    have hla5 := k5 _ _ hla4 hld
    have k5 := k4.trans k5
    clear hla1 hla2 hla3 hla4 hD1 hD2 hD3 hD4 k1 k2 k3 k4
    walk_at "x"
    refine ⟨by show 3 ≤ sizeLine; decide, fun t ht => ?_⟩
    have s6 := same_upd (o := .tup [.str "scaled", .int (c : Int), .int (i : Int)]) ht
    have e6 : (upd H5 t (.tup [.str "scaled", .int (c : Int), .int (i : Int)])) t = some (.tup (snV (.scl c i))) := upd_same
    have hD6 := hD5.same s6
    have hla6 := s6 _ _ hla5
    have k6 := k5.trans (Same.keep s6)
    generalize upd H5 t (.tup [.str "scaled", .int (c : Int), .int (i : Int)]) = H6 at s6 e6 hD6 hla6 k6
    clear hla5 hD5 k5 ht
    walk_at "x"
    refine x_ixL (sq_of hla6) (atI_nat (nat_get hi)) ?_
    walk_at "x"
    refine x_cut (fun σ' H' => ∃ (t : Addr) (b : SN), [some (V.ref d), some (.ref la), some (.int most), some (.int (cs.length : Int)), some (.int (z % 9)), some (.int (i : Int)), some (.int (j : Int)), some (.int (l : Int)), some (.ref t), some (.int ((cost1 cs b : Nat) : Int))] = σ' ∧ Dr H' d n ∧ Keep d H H' ∧ H' t = some (.tup (snV b)) ∧ SnOk cs.length b) ?_ ?_
    · walk_at "x"
      refine x_ite (fun h1 => ?_) (fun h1 => ?_)
      · walk_at "x"
        refine ⟨by show 3 ≤ sizeLine; decide, fun t ht => ?_⟩
        have s7 := same_upd (o := .tup [.str "sum", .int (i : Int), .int (j : Int)]) ht
        have hla7 := s7 _ _ hla6
        walk_at "x"
        refine x_ixL (sq_of hla7) (atI_nat (nat_get hi)) ?_
        walk_at "x"
        refine x_ixL (sq_of hla7) (atI_nat (nat_get hj)) ?_
        walk_at "x"
        exact ⟨t, .sum i j, rfl, hD6.same s7, k6.trans (Same.keep s7), upd_same, hi, hj⟩
      walk_at "x"
      refine x_ite (fun h2 => ?_) (fun h2 => ?_)
      · walk_at "x"
        refine ⟨by show 3 ≤ sizeLine; decide, fun t ht => ?_⟩
        have s7 := same_upd (o := .tup [.str "product", .int (i : Int), .int (j : Int)]) ht
        have hla7 := s7 _ _ hla6
        walk_at "x"
        refine x_ixL (sq_of hla7) (atI_nat (nat_get hi)) ?_
        walk_at "x"
        refine x_ixL (sq_of hla7) (atI_nat (nat_get hj)) ?_
        walk_at "x"
        exact ⟨t, .prod i j, rfl, hD6.same s7, k6.trans (Same.keep s7), upd_same, hi, hj⟩
      walk_at "x"
      refine x_ite (fun h3 => ?_) (fun h3 => ?_)
      · walk_at "x"
        refine ⟨by show 4 ≤ sizeLine; decide, fun t ht => ?_⟩
        have s7 := same_upd (o := .tup [.str "choose", .int (i : Int), .int (j : Int), .int (l : Int)]) ht
        have hla7 := s7 _ _ hla6
        walk_at "x"
        refine x_ixL (sq_of hla7) (atI_nat (nat_get hl)) ?_
        walk_at "x"
        refine x_ixL (sq_of hla7) (atI_nat (nat_get hi)) ?_
        walk_at "x"
        refine x_ixL (sq_of hla7) (atI_nat (nat_get hj)) ?_
        walk_at "x"
        refine x_ixL (sq_of hla7) (atI_nat (nat_get hl)) ?_
        walk_at "x"
        exact ⟨t, .cho i j l, rfl, hD6.same s7, k6.trans (Same.keep s7), upd_same, hi, hj, hl⟩
      · walk_at "x"
        exact ⟨t, .scl c i, rfl, hD6, k6, e6, hc, hi⟩
    clear hD6 k6 hla6 e6
    rintro _ H7 ⟨t, b, rfl, hD7, k7, ht, ok⟩
    walk_at "x"
    refine x_ite (fun h2 => ?_) (fun h2 => ?_)
    · walk_at "x"
      refine ⟨d, n, rfl, hD7, ?_⟩
      rintro _ H8 ⟨t, b, rfl, ht, hb⟩ hD8 k8
      walk_at "x"
      exact ⟨by show 2 ≤ sizeLine; decide, fun r hr => leaf b H8 hD8 (k7.trans k8) hb t ht r hr⟩
    · walk_at "x"
      exact ⟨by show 2 ≤ sizeLine; decide, fun r hr => fin b _ H7 hD7 k7 ok rfl (by omega) t ht r hr⟩


def sp_law_source (K : PySem.W.Frag) : Sp := fun vs H Q _ => ∃ (d n : Addr) (most : Int), vs = [.ref d, .int most] ∧ 1 ≤ most ∧ Dr H d n ∧
  RetG d n (fun v H' => ∃ (r t : Addr) (ns : List SN), v = .ref r ∧ H' r = some (.lst [.ref t, .int (((costsF ns).getD (ns.length - 1) 0 : Nat) : Int)]) ∧ r ≠ d ∧ DAt d H' (.ref t) (.tuple (ns.map snD)) ∧ SsOk ns ∧ ns.length ≤ 199 ∧ (((costsF ns).getD (ns.length - 1) 0 : Nat) : Int) ≤ most ∧ ∀ i, (((costsF ns).getD i 0 : Nat) : Int) ≤ most) H Q
theorem ok_law_source (T : Txt K mg) : FnOk P w K mg base CX0 7 T.a_law_source T.fd_law_source ["draws", "most"] (sp_law_source K) := by
  refine T.F_law_source.ok sc_law_source (fun vs H Q E h => ?_) (fun cdv A outer s H vs Q E hr h => ?_)
  · obtain ⟨d, n, most, rfl, _⟩ := h
    rfl
  · obtain ⟨d, n, most, rfl, hmost, hD, q⟩ := h
    refine ⟨_, (pss_cons (ps_set (i := 2) sc_law_source.nd rfl (.inl rfl) (pe_lst pa_nil))
      (pss_cons (ps_set (i := 3) sc_law_source.nd rfl (.inl rfl) (pe_lst pa_nil))
      (pss_cons (ps_set (i := 4) sc_law_source.nd rfl (.inl rfl) (pe_op op_add pe_int (pe_op op_mod (pe_call (ok_law_draw T) (hr.mono (by decide)) (by rfl) T.g_law_draw T.F_law_draw.kp T.b_law_draw .nil pass0 (pa_cons (pv 0) pa_nil)) pe_int)))
      (Evl.pss_cut (ps_if (pt_cmpR op_eq (pe_op op_mod (pe_call (ok_law_draw T) (hr.mono (by decide)) (by rfl) T.g_law_draw T.F_law_draw.kp T.b_law_draw .nil pass0 (pa_cons (pv 0) pa_nil)) pe_int) pe_int (nomark _))
      (pss_one (ps_set (i := 4) sc_law_source.nd rfl (.inl rfl) (pe_op op_add pe_int (pe_op op_mod (pe_call (ok_law_draw T) (hr.mono (by decide)) (by rfl) T.g_law_draw T.F_law_draw.kp T.b_law_draw .nil pass0 (pa_cons (pv 0) pa_nil)) pe_int))))
      pss_nil)
      (pss_cons (ps_for PassesOwn.never rfl (pi_range1 (by rfl) T.m_range (pa_cons (pv 4) pa_nil)) (pg_name (i := 5) sc_law_source.nd rfl (Or.inl rfl))
      (pss_cons (ps_set (i := 6) sc_law_source.nd rfl (.inl rfl) (pe_call (ok_law_node T) hr (by rfl) T.g_law_node T.F_law_node.kp T.b_law_node .nil pass0 (pa_cons (pv 0) (pa_cons (pv 3) (pa_cons (pv 1) pa_nil)))))
      (pss_cons (ps_expr (pe_bm PySem.F.plainAttrs_list PySem.F.slot_list_append PySem.F.type_list_append mt_append (pv 2) (pa_cons (pe_ix (r := rIxL K) ix_list (pv 6) pe_int (fun _ _ => rfl)) pa_nil)))
      (pss_one (ps_expr (pe_bm PySem.F.plainAttrs_list PySem.F.slot_list_append PySem.F.type_list_append mt_append (pv 3) (pa_cons (pe_ix (r := rIxL K) ix_list (pv 6) pe_int (fun _ _ => rfl)) pa_nil)))))))
      (pss_one (ps_ret (pe_lst (pa_cons (pe_callTy (T := "tuple") (r := rTupOf K) cr_tup_of (by rfl) T.m_tuple (by decide +kernel) (pa_cons (pv 2) pa_nil)) (pa_cons (pe_ix (r := rIxL K) ix_list (pv 3) (pe_op op_sub (pe_callB (id := "len") (r := rLen K) cr_len (by rfl) T.m_len PySem.boot_len (pa_cons (pv 3) pa_nil)) pe_int) (fun _ _ => rfl)) pa_nil)))))))))), ?_⟩
    walk_at "start"
    walk_at "x"
    refine ⟨by show 0 ≤ sizeLine; decide, fun na hna => ?_⟩
    have s1 := same_upd (o := .lst []) hna
    have e1 : (upd H na (.lst [])) na = some (.lst (([] : List Addr).map V.ref)) := upd_same
    have hnd := hD.new hna
    have hnn := hD.newN hna
    have hD1 := hD.same s1
    generalize upd H na (.lst []) = H1 at s1 e1 hD1
    walk_at "x"
    refine ⟨by show 0 ≤ sizeLine; decide, fun la hla => ?_⟩
    have hlad := hD1.new hla
    have hlan := hD1.newN hla
    have hnl : na ≠ la := fun e => by rw [e, hla] at e1; cases e1
    have s2 := same_upd (o := .lst []) hla
    have e2 := s2 _ _ e1
    have e3 : (upd H1 la (.lst [])) la = some (.lst (cInts [])) := upd_same
    have hD2 := hD1.same s2
    have s2 := s1.trans s2
    generalize upd H1 la (.lst []) = H2 at s2 e2 e3 hD2
    walk_at "x"
    refine ⟨d, n, rfl, hD2, ?_⟩
    rintro _ H3 ⟨z, rfl, z0, z1⟩ hD3 k3
    have e23 := k3 _ _ e2 hnd
    have e33 := k3 _ _ e3 hlad
    have k3 := (Same.keep s2).trans k3
    walk_at "x"
    refine x_cut (fun σ' H' => ∃ N : Nat, [some (V.ref d), some (.int most), some (.ref na), some (.ref la), some (.int (N : Int)), none, none] = σ' ∧ 1 ≤ N ∧ N ≤ 199 ∧ Dr H' d n ∧ Keep d H H' ∧ H' na = some (.lst (([] : List Addr).map V.ref)) ∧ H' la = some (.lst (cInts []))) ?_ ?_
    · walk_at "x"
      refine ⟨d, n, rfl, hD3, ?_⟩
      rintro _ H4 ⟨y, rfl, y0, y1⟩ hD4 k4
      have e24 := k4 _ _ e23 hnd
      have e34 := k4 _ _ e33 hlad
      have k4 := k3.trans k4
      walk_at "x"
      refine x_ite (fun h0 => ?_) (fun h0 => ?_)
      · walk_at "x"
        refine ⟨d, n, rfl, hD4, ?_⟩
        rintro _ H5 ⟨w, rfl, w0, w1⟩ hD5 k5
        walk_at "x"
        exact ⟨(10 + w % 190).toNat, by rw [show (((10 + w % 190).toNat : Nat) : Int) = 10 + w % 190 by omega], by omega, by omega, hD5, k4.trans k5, k5 _ _ e24 hnd, k5 _ _ e34 hlad⟩
      · walk_at "x"
        exact ⟨(1 + z % 9).toNat, by rw [show (((1 + z % 9).toNat : Nat) : Int) = 1 + z % 9 by omega], by omega, by omega, hD4, k4, e24, e34⟩
    clear e23 e33 k3 hD3
    rintro _ H4 ⟨N, rfl, N1, N2, hD4, k4, e24, e34⟩
    walk_at "x"
    refine x_forR1 (N : Int) (fun k σ' H' => ∃ (as : List Addr) (ns : List SN) (v5 v6 : Option V), σ' = [some (V.ref d), some (.int most), some (.ref na), some (.ref la), some (.int (N : Int)), v5, v6] ∧ Dr H' d n ∧ Keep d H H' ∧ H' na = some (.lst (as.map V.ref)) ∧ H' la = some (.lst (cInts (costsF ns))) ∧ ns.length = k ∧ as.length = k ∧ (∀ (i : Nat) b a, ns[i]? = some b → as[i]? = some a → H' a = some (.tup (snV b))) ∧ (∀ i b, ns[i]? = some b → SnOk i b) ∧ (((costsF ns).foldr max 1 : Nat) : Int) ≤ most) (fun R r => by walk_at "x"; exact r) (by omega) (by omega) ⟨[], [], _, _, rfl, hD4, k4, e24, e34, rfl, rfl, fun i b a h _ => by simp at h, fun i b h => by simp at h, by show ((1 : Nat) : Int) ≤ most; omega⟩ ?_ ?_
    · rintro k σ' H5 hk ⟨as, ns, v5, v6, rfl, hD5, k5, e25, e35, hnl2, hal2, hat, hok, hmx⟩
      walk_at "x"
      refine ⟨d, n, la, most, costsF ns, rfl, e35, hlad, by rw [costs_len]; omega, hD5, ?_⟩
      rintro _ H6 ⟨r, t, b, rfl, hr, hrd, ht, okb, hle⟩ hD6 k6
      have e26 := k6 _ _ e25 hnd
      have e36 := k6 _ _ e35 hlad
      have hat6 : ∀ (i : Nat) b a, ns[i]? = some b → as[i]? = some a → H6 a = some (.tup (snV b)) := fun i b a h1 h2 => keep_tupsG k6 hD5 _ _ (hat i b a h1 h2)
      have k6 := k5.trans k6
      rw [costs_len] at okb
      walk_at "x"
      refine x_tyL e26 ?_
      walk_at "x"
      refine x_ixL (v := .ref t) (sq_of hr) (atI_nat (j := 0) rfl) ?_
      walk_at "x"
      refine x_app e26 (by rw [List.length_map]; omega) ?_
      have kA : Keep na H6 (upd H6 na (.lst (as.map V.ref ++ [.ref t]))) := keep_upd
      have eA : (upd H6 na (.lst (as.map V.ref ++ [.ref t]))) na = some (.lst ((as ++ [t]).map V.ref)) := by rw [upd_same, List.map_append]; rfl
      have hD7 := hD6.upd (o := .lst (as.map V.ref ++ [.ref t])) hnd hnn
      have k7 : Keep d H (upd H6 na (.lst (as.map V.ref ++ [.ref t]))) := kput k6 hna
      generalize upd H6 na (.lst (as.map V.ref ++ [.ref t])) = H7 at kA eA hD7 k7
      have hrna : r ≠ na := fun e => by rw [e, e26] at hr; injection hr with hr; injection hr with hr; cases as with | nil => cases hr | cons x xs => cases xs with | nil => cases hr | cons y ys => (injection hr with h1 h2; injection h2 with h2 h3; cases h2)
      walk_at "x"
      refine x_tyL (kA _ _ e36 hnl.symm) ?_
      walk_at "x"
      refine x_ixL (v := .int ((cost1 (costsF ns) b : Nat) : Int)) (sq_of (kA _ _ hr hrna)) (atI_nat (j := 1) rfl) ?_
      walk_at "x"
      refine x_app (kA _ _ e36 hnl.symm) (by rw [cInts_len, costs_len]; omega) ?_
      have hT : ∀ c xs, H6 c = some (.tup xs) → (upd H7 la (.lst (cInts (costsF ns) ++ [.int ((cost1 (costsF ns) b : Nat) : Int)]))) c = some (.tup xs) := fun c xs e => by
        have e7 := kA _ _ e (ne_of e e26 (by intro z; cases z))
        rw [upd_ne (ne_of e7 (kA _ _ e36 hnl.symm) (by intro z; cases z))]
        exact e7
      walk_at "x"
      refine ⟨as ++ [t], ns ++ [b], _, _, rfl, hD7.upd hlad hlan, ?_, by rw [upd_ne hnl]; exact eA, by rw [upd_same, costs_snoc, cInts_snoc], by rw [List.length_append, hnl2]; rfl, by rw [List.length_append, hal2]; rfl, fun i c a h1 h2 => ?_, fun i c h1 => ?_, ?_⟩
      · exact fun b o e hne => by
          rw [upd_ne (fun e2 => by subst e2; have := s1 _ _ e; rw [hla] at this; cases this)]
          exact k7 b o e hne
      · rcases snoc_at rfl h1 with ⟨g1, h1⟩ | ⟨g1, rfl⟩
        · rcases snoc_at rfl h2 with ⟨g2, h2⟩ | ⟨g2, rfl⟩
          · exact hT _ _ (hat6 i c a h1 h2)
          · omega
        · rcases snoc_at rfl h2 with ⟨g2, h2⟩ | ⟨g2, rfl⟩
          · omega
          · exact hT _ _ ht
      · rcases snoc_at rfl h1 with ⟨g1, h1⟩ | ⟨g1, rfl⟩
        · exact hok i c h1
        · rw [g1]; exact okb
      · rw [costs_snoc, foldr_snoc]
        omega
    · rintro σ' H5 ⟨as, ns, v5, v6, rfl, hD5, k5, e25, e35, hnl2, hal2, hat, hok, hmx⟩
      have hnl2 : ns.length = N := hnl2
      have hal2 : as.length = N := hal2
      have hl2 : (cInts (costsF ns)).length = N := by rw [cInts_len, costs_len, hnl2]
      walk_at "x"
      refine x_tupL (sq_of e25) fun t ht => ?_
      have s6 := same_upd (o := .tup (as.map V.ref)) ht
      have e6 : (upd H5 t (.tup (as.map V.ref))) t = _ := upd_same
      have hD6 := hD5.same s6
      have k6 := k5.trans (Same.keep s6)
      generalize upd H5 t (.tup (as.map V.ref)) = H6 at s6 e6 hD6 k6
      walk_at "x"
      refine x_len (sq_of (s6 _ _ e35)) ?_
      rw [hl2]
      walk_at "x"
      rw [show (N : Int) - 1 = ((N - 1 : Nat) : Int) by omega]
      refine x_ixL (i := ((N - 1 : Nat) : Int)) (v := .int (((costsF ns).getD (ns.length - 1) 0 : Nat) : Int)) (sq_of (s6 _ _ e35)) (by rw [hnl2]; exact atI_nat (nat_get (by rw [costs_len]; omega))) ?_
      walk_at "x"
      refine ⟨by show 2 ≤ sizeLine; decide, fun r hr => ?_⟩
      have s7 := same_upd (o := .lst [.ref t, .int (((costsF ns).getD (ns.length - 1) 0 : Nat) : Int)]) hr
      refine q _ _ ⟨r, t, ns, rfl, upd_same, hD6.new hr, .tup (s7 _ _ e6) ?_, ⟨by omega, by omega, hok⟩, by omega, ?_⟩ (hD6.same s7) (k6.trans (Same.keep s7))
      · refine DAts.of (by rw [List.length_map, List.length_map, hnl2, hal2]) fun i x e h1 h2 => ?_
        obtain ⟨b, hb, rfl⟩ := map_getR h1
        rw [List.getElem?_map] at h2
        cases hn : ns[i]? with
        | none => rw [hn] at h2; cases h2
        | some c =>
          rw [hn] at h2
          cases h2
          exact sn_dat (s7 _ _ (s6 _ _ (hat i c b hn hb)))
      · have all : ∀ i, (((costsF ns).getD i 0 : Nat) : Int) ≤ most := fun i => by
          have := (le_foldr (ls := costsF ns) (i := i)).1
          omega
        exact ⟨all _, all⟩

end
end Br

namespace Br
open PySem PySem.Spec PyProof.Rows L2
local macro_rules | `(tactic| walk_at "x1") => `(tactic| (with_reducible first
  | refine Br.x_seq ?_ | refine Br.x_set ?_ | refine Br.x_asg ?_ | refine Br.x_next ?_ | refine Br.x_ret ?_ | refine Br.x_retN ?_ | refine Br.x_drop ?_ | refine Br.x_if ?_ | refine Br.x_brk ?_ | refine Br.x_cont ?_
  | refine Br.x_c ?_ | refine Br.x_op ?_ | refine Br.x_un ?_ | refine Br.x_I0 ?_ | refine Br.x_U ?_ | refine Br.x_EqI ?_ | refine Br.x_NeI ?_ | refine Br.x_EqB ?_ | refine Br.x_iN ?_ | refine Br.x_int1 ?_ | refine Br.x_min2 ?_ | refine Br.x_max2 ?_ | refine Br.x_nN ?_ | refine Br.x_ifE ?_
  | refine Br.x_test (b := ()) ?_ | refine Br.x_tB ?_ | refine Br.x_bl ?_ | refine Br.x_and ?_ | refine Br.x_or ?_ | refine Br.x_not ?_ | refine Br.x_andV ?_ | refine Br.x_orV ?_ | refine Br.x_notV ?_ | refine Br.x_blP ?_
  | refine Br.x_nil ?_ | refine Br.x_cons ?_ | refine Br.x_call ?_ | refine Br.x_CB ?_ | refine Br.x_BM ?_ | refine Br.x_tup ?_ | refine Br.x_lst ?_ | refine Br.x_chain ?_ | refine Br.x_par ?_ | refine Br.x_gSub ?_ | refine Br.x_gName ?_ | refine Br.x_fld ?_ | refine Br.x_fldS ?_ | refine Br.x_match ?_ | refine Br.x_else ?_ | refine Br.x_noCase ?_))
local macro_rules | `(tactic| walk_at "xv") => `(tactic| ((with_reducible refine' Br.x_var ?hvar ?_); (case hvar => rfl)))
local macro_rules | `(tactic| walk_at "xd") => `(tactic| (dsimp only [List.set_cons_zero, List.set_cons_succ, List.cons_append, List.nil_append, List.append_nil]))
local macro_rules | `(tactic| walk_at "xi") => `(tactic| ((with_reducible refine Br.x_I ?hside ?_); (case hside => first | exact Br.mul_r (by decide) (by decide) | exact Br.mul_l (by decide) (by decide) | exact Br.mul_l (by omega) (by omega) | exact Br.mul_r (by omega) (by omega) | (show (0 : Int) < _; first | decide | omega) | exact ⟨by decide, by decide⟩ | exact ⟨by omega, by omega⟩ | exact ⟨by decide, by decide, by decide⟩)))
local macro_rules | `(tactic| walk_at "x") => `(tactic| (repeat (first | walk_at "x1" | walk_at "xv" | walk_at "xi" | walk_at "xd")))
local macro_rules | `(tactic| walk_at "start") => `(tactic| (simp only [L2.start, List.map_cons, List.map_nil, List.length_cons, List.length_nil, Nat.reduceAdd, Nat.reduceSub, List.replicate, List.cons_append, List.nil_append, List.append_nil]))
local macro_rules | `(tactic| walk_at "isi") => `(tactic| first
  | refine Br.x_isi (b := true) (.base (.int _)) (by decide +kernel) ?_ | refine Br.x_isi (b := false) (.base (.int _)) (by decide +kernel) ?_
  | refine Br.x_isi (b := true) (.base (.bl _)) (by decide +kernel) ?_ | refine Br.x_isi (b := false) (.base (.bl _)) (by decide +kernel) ?_
  | refine Br.x_isi (b := false) (.base .non) (by decide +kernel) ?_
  | refine Br.x_isi (b := true) (.base (.str _)) (by decide +kernel) ?_ | refine Br.x_isi (b := false) (.base (.str _)) (by decide +kernel) ?_
  | refine Br.x_isi (b := true) (.base (.tup (by assumption))) (by decide +kernel) ?_ | refine Br.x_isi (b := false) (.base (.tup (by assumption))) (by decide +kernel) ?_
  | refine Br.x_isi (b := true) (.base (.lst (by assumption))) (by decide +kernel) ?_ | refine Br.x_isi (b := false) (.base (.lst (by assumption))) (by decide +kernel) ?_)
local macro_rules | `(tactic| walk_at "f") => `(tactic| (refine L2.iteF ?_; walk_at "x"))
local macro_rules | `(tactic| walk_at "t") => `(tactic| (refine L2.iteT ?_; walk_at "x"))
local macro_rules | `(tactic| walk_at "is") => `(tactic| (walk_at "isi"; walk_at "x"))
local macro_rules | `(tactic| walk_at "xb") => `(tactic| (simp only [Br.bindS, List.set_cons_zero, List.set_cons_succ]; walk_at "x"))

section
variable {P : Program} {w : World} {K : PySem.W.Frag} {mg : Str → Option Value} {base : Heap}


def sp_law_equal (n : Nat) (K : PySem.W.Frag) : Sp := fun vs H Q _ => ∃ v u, vs = [v, u] ∧ Eqv K H n v u ∧ Q (.bl true) H
def sp_law_all_equal (n : Nat) (K : PySem.W.Frag) : Sp := fun vs H Q _ => ∃ (a b : Addr) (xs ys : List V), vs = [.ref a, .ref b] ∧ ((H a = some (.lst xs) ∧ H b = some (.lst ys)) ∨ (H a = some (.tup xs) ∧ H b = some (.tup ys))) ∧ xs.length = ys.length ∧ ys.length ≤ 100000 ∧ (∀ (i : Nat) x y, xs[i]? = some x → ys[i]? = some y → Eqv K H n x y) ∧ Q (.bl true) H
theorem x_ixQ {K : PySem.W.Frag} {H : Hp} {a b : Addr} {xs ys : List V} {i : Int} {v : V} {Q : VK} (h : (H a = some (.lst xs) ∧ H b = some (.lst ys)) ∨ (H a = some (.tup xs) ∧ H b = some (.tup ys))) (hi : atI xs i = some v) (q : Q v H) : rIx K (.ref a) (.int i) H Q := by
  rcases h with h | h
  · exact .inl (x_ixL (sq_of h.1) hi q)
  · exact .inr (.inl (x_ixT (st_of h.1) hi q))
theorem x_ixQ2 {K : PySem.W.Frag} {H : Hp} {a b : Addr} {xs ys : List V} {i : Int} {v : V} {Q : VK} (h : (H a = some (.lst xs) ∧ H b = some (.lst ys)) ∨ (H a = some (.tup xs) ∧ H b = some (.tup ys))) (hi : atI ys i = some v) (q : Q v H) : rIx K (.ref b) (.int i) H Q := by
  rcases h with h | h
  · exact .inl (x_ixL (sq_of h.2) hi q)
  · exact .inr (.inl (x_ixT (st_of h.2) hi q))
theorem all_equal_of (T : Txt K mg) (n : Nat) (G_law_equal : FnOk P w K mg base CX0 (2 * n + 1) T.a_law_equal T.fd_law_equal ["actual", "due"] (sp_law_equal n K)) : FnOk P w K mg base CX0 (2 * n + 2) T.a_law_all_equal T.fd_law_all_equal ["actual", "due"] (sp_law_all_equal n K) := by
  refine T.F_law_all_equal.ok sc_law_all_equal (fun vs H Q E h => ?_) (fun cdv A outer s H vs Q E hr h => ?_)
  · obtain ⟨a, b, xs, ys, rfl, _⟩ := h
    rfl
  · obtain ⟨a, b, xs, ys, rfl, hab, hl, hz, he, q⟩ := h
    refine ⟨_, (pss_cons (ps_for PassesOwn.never rfl (pi_range1 (by rfl) T.m_range (pa_cons (pe_callB (id := "len") (r := rLen K) cr_len (by rfl) T.m_len PySem.boot_len (pa_cons (pv 1) pa_nil)) pa_nil)) (pg_name (i := 2) sc_law_all_equal.nd rfl (Or.inl rfl))
      (pss_one (ps_if (pt_not (pt_val (pe_call G_law_equal (hr.mono (by omega)) (by rfl) T.g_law_equal T.F_law_equal.kp T.b_law_equal .nil pass0 (pa_cons (pe_ix (r := rIx K) ix_seq (pv 0) (pv 2) (fun _ _ => rfl)) (pa_cons (pe_ix (r := rIx K) ix_seq (pv 1) (pv 2) (fun _ _ => rfl)) pa_nil)))))
      (pss_one (ps_ret pe_bl))
      pss_nil)))
      (pss_one (ps_ret pe_bl))), ?_⟩
    walk_at "start"
    refine x_forR1 (ys.length : Int) (fun i σ' H' => H = H' ∧ ∃ v2, σ' = [some (.ref a), some (.ref b), v2]) (fun R r => by
      walk_at "x"
      rcases hab with h | h
      · refine x_len (sq_of h.2) ?_
        exact r
      · refine x_lenT (st_of h.2) ?_
        exact r) (by omega) (by omega) ⟨rfl, _, rfl⟩ ?_ ?_
    · rintro i σ' H' hi ⟨rfl, v2, rfl⟩
      obtain ⟨x, gx⟩ : ∃ x, xs[i]? = some x := ⟨_, List.getElem?_eq_getElem (by omega)⟩
      obtain ⟨y, gy⟩ : ∃ y, ys[i]? = some y := ⟨_, List.getElem?_eq_getElem (by omega)⟩
      walk_at "x"
      refine x_ixQ hab (atI_nat gx) ?_
      walk_at "x"
      refine x_ixQ2 hab (atI_nat gy) ?_
      walk_at "x"
      refine ⟨x, y, rfl, he i x y gx gy, ?_⟩
      walk_at "x"
      walk_at "f"
      exact ⟨rfl, _, rfl⟩
    · rintro σ' H' ⟨rfl, v2, rfl⟩
      walk_at "x"
      exact q
theorem ok_law_equal (T : Txt K mg) : ∀ n : Nat, FnOk P w K mg base CX0 (2 * n + 1) T.a_law_equal T.fd_law_equal ["actual", "due"] (sp_law_equal n K)
  | 0 => by
    refine T.F_law_equal.ok sc_law_equal (fun vs H Q E h => ?_) (fun cdv A outer s H vs Q E hr h => ?_)
    · obtain ⟨v, u, rfl, h, _⟩ := h
      exact h.elim
    · obtain ⟨v, u, rfl, h, _⟩ := h
      exact h.elim
  | n + 1 => by
    have G_law_all_equal := all_equal_of T n (ok_law_equal T n)
    refine T.F_law_equal.ok (k := 2 * n + 2) sc_law_equal (fun vs H Q E h => ?_) (fun cdv A outer s H vs Q E hr h => ?_)
    · obtain ⟨v, u, rfl, _⟩ := h
      rfl
    · obtain ⟨v, u, rfl, h, q⟩ := h
      refine ⟨_, (pss_cons (ps_if (pt_val (pe_callB (id := "isinstance") (r := rIsi K) call_isi (by rfl) T.m_isinstance (by decide +kernel) (pa_cons (pv 1) (pa_cons (pe_bltn (v := .ty "list") (by rfl) T.m_list (by decide +kernel) rfl) pa_nil))))
      (pss_cons (ps_if (PW.pt (pw_or (pt_not (pt_val (pe_callB (id := "isinstance") (r := rIsi K) call_isi (by rfl) T.m_isinstance (by decide +kernel) (pa_cons (pv 0) (pa_cons (pe_bltn (v := .ty "list") (by rfl) T.m_list (by decide +kernel) rfl) pa_nil))))) (pw_or1 (pt_cmpR op_ne (pe_callB (id := "len") (r := rLen K) cr_len (by rfl) T.m_len PySem.boot_len (pa_cons (pv 0) pa_nil)) (pe_callB (id := "len") (r := rLen K) cr_len (by rfl) T.m_len PySem.boot_len (pa_cons (pv 1) pa_nil)) (nomark _)))))
      (pss_one (ps_ret pe_bl))
      pss_nil)
      (pss_one (ps_ret (pe_call G_law_all_equal (hr.mono (by omega)) (by rfl) T.g_law_all_equal T.F_law_all_equal.kp T.b_law_all_equal .nil pass0 (pa_cons (pv 0) (pa_cons (pv 1) pa_nil))))))
      pss_nil)
      (pss_cons (ps_if (pt_val (pe_callB (id := "isinstance") (r := rIsi K) call_isi (by rfl) T.m_isinstance (by decide +kernel) (pa_cons (pv 1) (pa_cons (pe_bltn (v := .ty "tuple") (by rfl) T.m_tuple (by decide +kernel) rfl) pa_nil))))
      (pss_cons (ps_if (PW.pt (pw_or (pt_not (pt_val (pe_callB (id := "isinstance") (r := rIsi K) call_isi (by rfl) T.m_isinstance (by decide +kernel) (pa_cons (pv 0) (pa_cons (pe_bltn (v := .ty "tuple") (by rfl) T.m_tuple (by decide +kernel) rfl) pa_nil))))) (pw_or1 (pt_cmpR op_ne (pe_callB (id := "len") (r := rLen K) cr_len (by rfl) T.m_len PySem.boot_len (pa_cons (pv 0) pa_nil)) (pe_callB (id := "len") (r := rLen K) cr_len (by rfl) T.m_len PySem.boot_len (pa_cons (pv 1) pa_nil)) (nomark _)))))
      (pss_one (ps_ret pe_bl))
      pss_nil)
      (pss_one (ps_ret (pe_call G_law_all_equal (hr.mono (by omega)) (by rfl) T.g_law_all_equal T.F_law_all_equal.kp T.b_law_all_equal .nil pass0 (pa_cons (pv 0) (pa_cons (pv 1) pa_nil))))))
      pss_nil)
      (pss_cons (ps_if (pt_val (pe_callB (id := "isinstance") (r := rIsi K) call_isi (by rfl) T.m_isinstance (by decide +kernel) (pa_cons (pv 1) (pa_cons (pe_bltn (v := .ty "bool") (by rfl) T.m_bool (by decide +kernel) rfl) pa_nil))))
      (pss_one (ps_ret (pe_and (pe_callB (id := "isinstance") (r := rIsi K) call_isi (by rfl) T.m_isinstance (by decide +kernel) (pa_cons (pv 0) (pa_cons (pe_bltn (v := .ty "bool") (by rfl) T.m_bool (by decide +kernel) rfl) pa_nil))) (pe_one (pe_cmpR op_eq (pv 0) (pv 1) (nomark _))))))
      pss_nil)
      (pss_cons (ps_if (pt_val (pe_callB (id := "isinstance") (r := rIsi K) call_isi (by rfl) T.m_isinstance (by decide +kernel) (pa_cons (pv 1) (pa_cons (pe_bltn (v := .ty "int") (by rfl) T.m_int (by decide +kernel) rfl) pa_nil))))
      (pss_one (ps_ret (pe_and (pe_callB (id := "isinstance") (r := rIsi K) call_isi (by rfl) T.m_isinstance (by decide +kernel) (pa_cons (pv 0) (pa_cons (pe_bltn (v := .ty "int") (by rfl) T.m_int (by decide +kernel) rfl) pa_nil))) (pe_and (pe_not (pe_callB (id := "isinstance") (r := rIsi K) call_isi (by rfl) T.m_isinstance (by decide +kernel) (pa_cons (pv 0) (pa_cons (pe_bltn (v := .ty "bool") (by rfl) T.m_bool (by decide +kernel) rfl) pa_nil)))) (pe_one (pe_cmpR op_eq (pv 0) (pv 1) (nomark _)))))))
      pss_nil)
      (pss_cons (ps_if (pt_val (pe_callB (id := "isinstance") (r := rIsi K) call_isi (by rfl) T.m_isinstance (by decide +kernel) (pa_cons (pv 1) (pa_cons (pe_bltn (v := .ty "str") (by rfl) T.m_str (by decide +kernel) rfl) pa_nil))))
      (pss_one (ps_ret (pe_and (pe_callB (id := "isinstance") (r := rIsi K) call_isi (by rfl) T.m_isinstance (by decide +kernel) (pa_cons (pv 0) (pa_cons (pe_bltn (v := .ty "str") (by rfl) T.m_str (by decide +kernel) rfl) pa_nil))) (pe_one (pe_cmpR op_eq (pv 0) (pv 1) (nomark _))))))
      pss_nil)
      (pss_one (ps_ret (pe_cmpR op_isN1 (pv 0) pe_non (nomark _))))))))), ?_⟩
      walk_at "start"
      rcases h with ⟨i, rfl, rfl⟩ | ⟨z, rfl, rfl⟩ | ⟨z, rfl, rfl⟩ | ⟨rfl, rfl⟩ | ⟨a, b, xs, ys, rfl, rfl, hab, hl, hz, he⟩
      · walk_at "x"
        walk_at "is"
        walk_at "f"
        walk_at "is"
        walk_at "f"
        walk_at "is"
        walk_at "f"
        walk_at "is"
        walk_at "t"
        walk_at "is"
        walk_at "t"
        walk_at "is"
        walk_at "t"
        rw [decide_eq_true rfl]
        exact q
      · walk_at "x"
        walk_at "is"
        walk_at "f"
        walk_at "is"
        walk_at "f"
        walk_at "is"
        walk_at "f"
        walk_at "is"
        walk_at "f"
        walk_at "is"
        walk_at "t"
        walk_at "is"
        walk_at "t"
        refine x_Eq rfl ?_
        rw [decide_eq_true rfl]
        exact q
      · walk_at "x"
        walk_at "is"
        walk_at "f"
        walk_at "is"
        walk_at "f"
        walk_at "is"
        walk_at "t"
        walk_at "is"
        walk_at "t"
        rw [decide_eq_true rfl]
        exact q
      · walk_at "x"
        walk_at "is"
        walk_at "f"
        walk_at "is"
        walk_at "f"
        walk_at "is"
        walk_at "f"
        walk_at "is"
        walk_at "f"
        walk_at "is"
        walk_at "f"
        rw [decide_eq_true rfl]
        exact q
      · rcases id hab with ⟨h1, h2⟩ | ⟨h1, h2⟩
        · walk_at "x"
          walk_at "is"
          walk_at "t"
          walk_at "is"
          walk_at "f"
          refine x_len (sq_of h1) ?_
          walk_at "x"
          refine x_len (sq_of h2) ?_
          walk_at "x"
          rw [hl, decide_eq_true rfl]
          walk_at "f"
          exact ⟨a, b, xs, ys, rfl, hab, hl, hz, he, q⟩
        · walk_at "x"
          walk_at "is"
          walk_at "f"
          walk_at "is"
          walk_at "t"
          walk_at "is"
          walk_at "f"
          refine x_lenT (st_of h1) ?_
          walk_at "x"
          refine x_lenT (st_of h2) ?_
          walk_at "x"
          rw [hl, decide_eq_true rfl]
          walk_at "f"
          exact ⟨a, b, xs, ys, rfl, hab, hl, hz, he, q⟩


end
end Br
namespace Br
open PySem PySem.Spec PyProof.Rows L2
local macro_rules | `(tactic| walk_at "x1") => `(tactic| (with_reducible first
  | refine Br.x_seq ?_ | refine Br.x_set ?_ | refine Br.x_asg ?_ | refine Br.x_next ?_ | refine Br.x_ret ?_ | refine Br.x_retN ?_ | refine Br.x_drop ?_ | refine Br.x_if ?_ | refine Br.x_brk ?_ | refine Br.x_cont ?_
  | refine Br.x_c ?_ | refine Br.x_op ?_ | refine Br.x_un ?_ | refine Br.x_I0 ?_ | refine Br.x_U ?_ | refine Br.x_EqI ?_ | refine Br.x_NeI ?_ | refine Br.x_EqB ?_ | refine Br.x_iN ?_ | refine Br.x_int1 ?_ | refine Br.x_min2 ?_ | refine Br.x_max2 ?_ | refine Br.x_nN ?_ | refine Br.x_ifE ?_
  | refine Br.x_test (b := ()) ?_ | refine Br.x_tB ?_ | refine Br.x_bl ?_ | refine Br.x_and ?_ | refine Br.x_or ?_ | refine Br.x_not ?_ | refine Br.x_andV ?_ | refine Br.x_orV ?_ | refine Br.x_notV ?_ | refine Br.x_blP ?_
  | refine Br.x_nil ?_ | refine Br.x_cons ?_ | refine Br.x_call ?_ | refine Br.x_CB ?_ | refine Br.x_BM ?_ | refine Br.x_tup ?_ | refine Br.x_lst ?_ | refine Br.x_chain ?_ | refine Br.x_par ?_ | refine Br.x_gSub ?_ | refine Br.x_gName ?_ | refine Br.x_fld ?_ | refine Br.x_fldS ?_ | refine Br.x_match ?_ | refine Br.x_else ?_ | refine Br.x_noCase ?_))
local macro_rules | `(tactic| walk_at "xv") => `(tactic| ((with_reducible refine' Br.x_var ?hvar ?_); (case hvar => rfl)))
local macro_rules | `(tactic| walk_at "xd") => `(tactic| (dsimp only [List.set_cons_zero, List.set_cons_succ, List.cons_append, List.nil_append, List.append_nil]))
local macro_rules | `(tactic| walk_at "xi") => `(tactic| ((with_reducible refine Br.x_I ?hside ?_); (case hside => first | exact Br.mul_r (by decide) (by decide) | exact Br.mul_l (by decide) (by decide) | exact Br.mul_l (by omega) (by omega) | exact Br.mul_r (by omega) (by omega) | (show (0 : Int) < _; first | decide | omega) | exact ⟨by decide, by decide⟩ | exact ⟨by omega, by omega⟩ | exact ⟨by decide, by decide, by decide⟩)))
local macro_rules | `(tactic| walk_at "x") => `(tactic| (repeat (first | walk_at "x1" | walk_at "xv" | walk_at "xi" | walk_at "xd")))
local macro_rules | `(tactic| walk_at "start") => `(tactic| (simp only [L2.start, List.map_cons, List.map_nil, List.length_cons, List.length_nil, Nat.reduceAdd, Nat.reduceSub, List.replicate, List.cons_append, List.nil_append, List.append_nil]))
local macro_rules | `(tactic| walk_at "isi") => `(tactic| first
  | refine Br.x_isi (b := true) (.base (.int _)) (by decide +kernel) ?_ | refine Br.x_isi (b := false) (.base (.int _)) (by decide +kernel) ?_
  | refine Br.x_isi (b := true) (.base (.bl _)) (by decide +kernel) ?_ | refine Br.x_isi (b := false) (.base (.bl _)) (by decide +kernel) ?_
  | refine Br.x_isi (b := false) (.base .non) (by decide +kernel) ?_
  | refine Br.x_isi (b := true) (.base (.str _)) (by decide +kernel) ?_ | refine Br.x_isi (b := false) (.base (.str _)) (by decide +kernel) ?_
  | refine Br.x_isi (b := true) (.base (.tup (by assumption))) (by decide +kernel) ?_ | refine Br.x_isi (b := false) (.base (.tup (by assumption))) (by decide +kernel) ?_
  | refine Br.x_isi (b := true) (.base (.lst (by assumption))) (by decide +kernel) ?_ | refine Br.x_isi (b := false) (.base (.lst (by assumption))) (by decide +kernel) ?_)
local macro_rules | `(tactic| walk_at "f") => `(tactic| (refine L2.iteF ?_; walk_at "x"))
local macro_rules | `(tactic| walk_at "t") => `(tactic| (refine L2.iteT ?_; walk_at "x"))
local macro_rules | `(tactic| walk_at "is") => `(tactic| (walk_at "isi"; walk_at "x"))
local macro_rules | `(tactic| walk_at "xb") => `(tactic| (simp only [Br.bindS, List.set_cons_zero, List.set_cons_succ]; walk_at "x"))

section
variable {P : Program} {w : World} {K : PySem.W.Frag} {mg : Str → Option Value} {base : Heap}

open Br
section
variable {σ : L2.St} {H : Hp} {D : Ends} {Q : VK} {K : PySem.W.Frag}
theorem x_tM0 {r : V → List V → Hp → VK → Prop} {to : TE} (h : to σ H fun x H1 => (∃ a, x = .str a) ∧ r x [] H1 Q) : tM0 r to σ H Q := h
theorem x_tM1 {r : V → List V → Hp → VK → Prop} {to te : TE} (h : to σ H fun x H1 => (∃ a, x = .str a) ∧ te σ H1 fun y H2 => r x [y] H2 Q) : tM1 r to te σ H Q := h
end
def rInt1S : List V → Hp → VK → Prop := fun xs H Q => ∃ a n, xs = [V.str a] ∧ intText? a = some n ∧ a.length ≤ 640 ∧ Q (V.int n) H
def optV : Option Nat → V
  | some n => .int (n : Int)
  | none => .non
theorem optV_d {d : Addr} {H : Hp} : ∀ {o : Option Nat}, DAt d H (optV o) (optD o)
  | some n => .int _
  | none => .non

def sp_number_in (K : PySem.W.Frag) : Sp := fun vs H Q _ => ∃ (w : List Nat) (mx : Nat), vs = [.str (tS w), .int (mx : Int)] ∧ w.length ≤ 100000 ∧ mx ≤ 640 ∧ Q (optV (numO mx w)) H
theorem sgn_eq {c : Nat} : decide (V.str (tS [c]) = V.str "0") = decide (c = 48) := by
  refine decide_eq_decide.mpr ⟨fun h => ?_, fun h => by rw [h]; rfl⟩
  have h := V.str.inj h
  have : [c] = [48] := SX.S_inj h
  exact (List.cons.inj this).1
theorem ok_number_in (T : Txt K mg) : FnOk P w K mg base CX0 1 T.a_number_in T.fd_number_in ["word", "most_figures"] (sp_number_in K) := by
  refine T.F_number_in.ok sc_number_in (fun vs H Q E h => ?_) (fun cdv A outer s H vs Q E hr h => ?_)
  · obtain ⟨w, mx, rfl, _⟩ := h
    rfl
  · obtain ⟨w, mx, rfl, hw, hm, q⟩ := h
    have hz : (tS w).length ≤ sizeLine := by rw [tS_len]; exact Nat.le_trans hw (by decide)
    have no : ¬ (w.length ≤ mx ∧ w ≠ [] ∧ w.all dig = true ∧ ¬ (w.head? = some 48 ∧ 1 < w.length)) → Q .non H := fun h => by
      unfold numO at q
      rw [if_neg h] at q
      exact q
    refine ⟨_, (pss_cons (ps_if (PW.pt (pw_or (pt_cmpR op_gt (pe_callB (id := "len") call_len_str (by rfl) T.m_len PySem.boot_len (pa_cons (pv 0) pa_nil)) (pv 1) (nomark _)) (pw_or (pt_not (pt_val (pe_m0 PySem.F.slot_str_isascii PySem.F.type_str_isascii mt_isascii (pv 0)))) (pw_or1 (pt_not (pt_val (pe_m0 PySem.F.slot_str_isdigit PySem.F.type_str_isdigit mt_isdigit (pv 0))))))))
      (pss_one (ps_ret pe_non))
      pss_nil)
      (pss_cons (ps_if (PW.pt (pw_and (pt_cmpR op_eq (pe_ix (r := rIxS) ix_str (pv 0) pe_int (fun _ _ => rfl)) pe_str (nomark _)) (pw_and1 (pt_cmpR op_gt (pe_callB (id := "len") call_len_str (by rfl) T.m_len PySem.boot_len (pa_cons (pv 0) pa_nil)) pe_int (nomark _)))))
      (pss_one (ps_ret pe_non))
      pss_nil)
      (pss_one (ps_ret (pe_callTy (T := "int") call_int_str (by rfl) T.m_int (by decide +kernel) (pa_cons (pv 0) pa_nil)))))), ?_⟩
    walk_at "start"
    walk_at "x"
    refine ⟨_, rfl, hz, ?_⟩
    rw [tS_len]
    walk_at "x"
    refine x_ite (fun h1 => ?_) (fun h1 => ?_)
    · walk_at "t"
      exact no fun z => by omega
    walk_at "x"
    refine x_tM0 ?_
    walk_at "x"
    refine ⟨⟨_, rfl⟩, _, rfl, rfl, trivial, ?_⟩
    rw [tS_asc]
    by_cases h2 : (w.all fun c => decide (c < 128)) = true
    · rw [h2]
      walk_at "x"
      walk_at "f"
      refine x_tM0 ?_
      walk_at "x"
      refine ⟨⟨_, rfl⟩, _, rfl, rfl, trivial, ?_⟩
      rw [tS_dig h2]
      by_cases h3 : w ≠ [] ∧ w.all dig = true
      · rw [h3.2, decide_eq_true h3.1]
        walk_at "x"
        walk_at "f"
        have wl : w.length ≤ mx := by omega
        obtain ⟨c, r, rfl⟩ : ∃ c r, w = c :: r := by
          cases w with
          | nil => exact absurd rfl h3.1
          | cons c r => exact ⟨c, r, rfl⟩
        have fin : ¬ (c = 48 ∧ 1 < (c :: r).length) → rInt1S [.str (tS (c :: r))] H Q := fun h4 => by
          refine ⟨_, _, rfl, dig_int h3.2 h3.1 (by omega), by rw [tS_len]; omega, ?_⟩
          unfold numO at q
          rw [if_pos ⟨wl, h3.1, h3.2, fun z => h4 ⟨Option.some.inj z.1, z.2⟩⟩] at q
          exact q
        refine ⟨_, 0, c, rfl, rfl, hz, atI_nat (j := 0) rfl, ?_⟩
        walk_at "x"
        refine x_Eq rfl ?_
        walk_at "x"
        rw [show decide (V.str { cps := #[c] } = V.str (Str.ofString "0")) = decide (c = 48) from sgn_eq]
        by_cases h4 : c = 48
        · rw [decide_eq_true h4]
          walk_at "t"
          refine ⟨_, rfl, hz, ?_⟩
          rw [tS_len]
          walk_at "x"
          refine x_ite (fun h5 => ?_) (fun h5 => ?_)
          · walk_at "x"
            exact no fun z => z.2.2.2 ⟨by rw [h4]; rfl, by omega⟩
          · walk_at "x"
            exact fin fun z => by omega
        · rw [decide_eq_false h4]
          walk_at "f"
          walk_at "f"
          exact fin fun z => h4 z.1
      · have h3 : (decide (w ≠ []) && w.all dig) = false := by
          rw [Bool.and_eq_false_iff, decide_eq_false_iff_not]
          by_cases h4 : w ≠ []
          · exact .inr (by rw [← Bool.not_eq_true]; exact fun h5 => h3 ⟨h4, h5⟩)
          · exact .inl h4
        rw [h3]
        walk_at "x"
        walk_at "t"
        exact no fun z => by rw [decide_eq_true z.2.1, z.2.2.1] at h3; cases h3
    · rw [Bool.not_eq_true] at h2
      rw [h2]
      walk_at "x"
      walk_at "t"
      exact no fun z => by rw [dig_asc z.2.2.1] at h2; cases h2


def sp_read_index (K : PySem.W.Frag) : Sp := fun vs H Q _ => ∃ (w : List Nat) (c : Nat), vs = [.str (tS [c]), .str (tS w)] ∧ w.length ≤ 100000 ∧ Q (optV (idxO c w)) H
theorem ok_read_index (T : Txt K mg) : FnOk P w K mg base CX0 2 T.a_read_index T.fd_read_index ["sign", "word"] (sp_read_index K) := by
  refine T.F_read_index.ok sc_read_index (fun vs H Q E h => ?_) (fun cdv A outer s H vs Q E hr h => ?_)
  · obtain ⟨w, c, rfl, _⟩ := h
    rfl
  · obtain ⟨w, c, rfl, hw, q⟩ := h
    have hz : (tS w).length ≤ sizeLine := by rw [tS_len]; exact Nat.le_trans hw (by decide)
    refine ⟨_, (pss_cons (ps_if (pt_not (pt_val (pe_m1 PySem.F.slot_str_startswith PySem.F.type_str_startswith mt_startswith (pv 1) (pv 0))))
      (pss_one (ps_ret pe_non))
      pss_nil)
      (pss_one (ps_ret (pe_call (ok_number_in T) hr (by rfl) T.g_number_in T.F_number_in.kp T.b_number_in .nil pass0 (pa_cons (pe_slice C8.sl_txt (pv 1) (po_some pe_int) po_none) (pa_cons (pe_glob (v := .int 9) (by rfl) T.c_MOST_FIGURES ⟨_, rfl⟩) pa_nil)))))), ?_⟩
    walk_at "start"
    walk_at "x"
    refine x_tM1 ?_
    walk_at "x"
    refine ⟨⟨_, rfl⟩, ?_⟩
    walk_at "x"
    refine ⟨_, _, rfl, rfl, ?_⟩
    rw [startsS]
    unfold idxO at q
    by_cases h : w.head? = some c
    · rw [if_pos h] at q
      rw [decide_eq_true h]
      walk_at "x"
      walk_at "f"
      refine x_sl2 ?_
      walk_at "x"
      refine x_part1 ?_
      walk_at "x"
      refine ⟨_, rfl, x_part0 ?_⟩
      refine ⟨_, rfl, hz, ?_⟩
      rw [SX.slice_from (by decide)]
      walk_at "x"
      exact ⟨_, 9, rfl, by rw [List.length_drop]; omega, by decide, q⟩
    · rw [if_neg h] at q
      rw [decide_eq_false h]
      walk_at "x"
      walk_at "t"
      exact q


def sp_read_leaf (K : PySem.W.Frag) : Sp := fun vs H Q _ => ∃ (w : List Nat), vs = [.str (tS w)] ∧ w.length ≤ 100000 ∧ ∀ v H', Same H H' → (∀ d, DAt d H' v (leafD w)) → Q v H'
theorem ok_read_leaf (T : Txt K mg) : FnOk P w K mg base CX0 3 T.a_read_leaf T.fd_read_leaf ["word"] (sp_read_leaf K) := by
  refine T.F_read_leaf.ok sc_read_leaf (fun vs H Q E h => ?_) (fun cdv A outer s H vs Q E hr h => ?_)
  · obtain ⟨w, rfl, _⟩ := h
    rfl
  · obtain ⟨w, rfl, hw, q⟩ := h
    refine ⟨_, (pss_cons (ps_if (pt_val (pe_m1 PySem.F.slot_str_startswith PySem.F.type_str_startswith mt_startswith (pv 0) pe_str))
      (pss_one (ps_ret (pe_tup (pa_cons pe_str (pa_cons (pe_call (ok_read_index T) hr (by rfl) T.g_read_index T.F_read_index.kp T.b_read_index .nil pass0 (pa_cons pe_str (pa_cons (pv 0) pa_nil))) pa_nil)))))
      pss_nil)
      (pss_one (ps_ret (pe_tup (pa_cons pe_str (pa_cons (pe_call (ok_number_in T) (hr.mono (by decide)) (by rfl) T.g_number_in T.F_number_in.kp T.b_number_in .nil pass0 (pa_cons (pv 0) (pa_cons (pe_glob (v := .int 9) (by rfl) T.c_MOST_FIGURES ⟨_, rfl⟩) pa_nil))) pa_nil)))))), ?_⟩
    walk_at "start"
    walk_at "x"
    refine x_tM1 ?_
    walk_at "x"
    refine ⟨⟨_, rfl⟩, ?_⟩
    walk_at "x"
    refine ⟨_, _, rfl, rfl, ?_⟩
    rw [show Txt.startswith (tS w) (Str.ofString "$") = decide (w.head? = some 36) from startsS]
    unfold leafD at q
    by_cases h : w.head? = some 36
    · rw [if_pos h] at q
      rw [decide_eq_true h]
      walk_at "x"
      walk_at "t"
      refine ⟨w, 36, rfl, hw, ?_⟩
      walk_at "x"
      refine ⟨by show 2 ≤ sizeLine; decide, fun p hp => ?_⟩
      exact q _ _ (same_upd hp) fun d => .tup upd_same (.cons (.str _) (.cons optV_d .nil))
    · rw [if_neg h] at q
      rw [decide_eq_false h]
      walk_at "x"
      walk_at "f"
      refine ⟨w, 9, rfl, hw, by decide, ?_⟩
      walk_at "x"
      refine ⟨by show 2 ≤ sizeLine; decide, fun p hp => ?_⟩
      exact q _ _ (same_upd hp) fun d => .tup upd_same (.cons (.str _) (.cons optV_d .nil))


def sp_read_node (K : PySem.W.Frag) : Sp := fun vs H Q _ => ∃ (t : List Nat), vs = [.str (tS t)] ∧ t.length ≤ 100000 ∧ ∀ v H', Same H H' → (∀ d, DAt d H' v (nodeT t)) → Q v H'
theorem spl_part_len : ∀ (S : List Nat) (l : List Nat) (k : Nat) (acc : List Nat), ∀ p ∈ TL.spl S k acc l, p.length ≤ acc.length + l.length
  | S, [], k, acc, p, hp => by
    rw [TL.spl_nil] at hp
    rw [List.mem_singleton.mp hp]
    exact Nat.le_refl _
  | S, c :: r, 0, acc, p, hp => by
    by_cases h : TL.pre S (c :: r) = true
    · rw [TL.spl_hit h] at hp
      rcases List.mem_cons.mp hp with rfl | hp
      · exact Nat.le_add_right _ _
      · have := spl_part_len S r (S.length - 1) [] p hp
        have e : ([] : List Nat).length = 0 := rfl
        show p.length ≤ acc.length + (r.length + 1)
        omega
    · rw [Bool.not_eq_true] at h
      rw [TL.spl_miss h] at hp
      have := spl_part_len S r 0 (acc ++ [c]) p hp
      rw [List.length_append] at this
      have e : ([c] : List Nat).length = 1 := rfl
      show p.length ≤ acc.length + (r.length + 1)
      omega
  | S, c :: r, k + 1, acc, p, hp => by
    have := spl_part_len S r k acc p hp
    show p.length ≤ acc.length + (r.length + 1)
    omega
theorem fitS_W {ws : List (List Nat)} : ∀ {ps : List (Option (List Nat))}, fitS (ps.map (Option.map tS)) (ws.map tS) = fitW ps ws := by
  induction ws with
  | nil =>
    intro ps
    cases ps with
    | nil => rfl
    | cons p ps => cases p <;> rfl
  | cons w ws ih =>
    intro ps
    cases ps with
    | nil => rfl
    | cons p ps =>
      cases p with
      | none => exact ih (ps := ps)
      | some p =>
        show (decide (tS w = tS p) && fitS (ps.map (Option.map tS)) (ws.map tS)) = (decide (w = p) && fitW ps ws)
        rw [ih]
        have e : decide (tS w = tS p) = decide (w = p) := decide_eq_decide.mpr ⟨fun h => SX.S_inj h, fun h => by rw [h]⟩
        rw [e]
theorem fitW_len {ws : List (List Nat)} : ∀ {ps : List (Option (List Nat))}, fitW ps ws = true → ws.length = ps.length := by
  intro ps h
  rw [← fitS_W] at h
  have := fitS_len h
  rw [List.length_map, List.length_map] at this
  exact this
theorem ok_read_node (T : Txt K mg) : FnOk P w K mg base CX0 4 T.a_read_node T.fd_read_node ["text"] (sp_read_node K) := by
  refine T.F_read_node.ok sc_read_node (fun vs H Q E h => ?_) (fun cdv A outer s H vs Q E hr h => ?_)
  · obtain ⟨t, rfl, _⟩ := h
    rfl
  · obtain ⟨t, rfl, ht, q⟩ := h
    refine ⟨_, (pss_cons (ps_set (i := 1) sc_read_node.nd rfl (.inl rfl) (pe_split (pv 0) pe_str))
      (pss_one (ps_match (pv 1) (pcs_strs rfl op_eq (pcm_name 2 sc_read_node.nd rfl (.inl rfl) pcm_nil)
      (pss_one (ps_ret (pe_call (ok_read_leaf T) hr (by rfl) T.g_read_leaf T.F_read_leaf.kp T.b_read_leaf .nil pass0 (pa_cons (pv 2) pa_nil))))
      (pcs_strs rfl op_eq (pcm_name 3 sc_read_node.nd rfl (.inl rfl) (pcm_word (pcm_name 4 sc_read_node.nd rfl (.inl rfl) pcm_nil)))
      (pss_one (ps_ret (pe_tup (pa_cons pe_str (pa_cons (pe_call (ok_read_index T) (hr.mono (by decide)) (by rfl) T.g_read_index T.F_read_index.kp T.b_read_index .nil pass0 (pa_cons pe_str (pa_cons (pv 3) pa_nil))) (pa_cons (pe_call (ok_read_index T) (hr.mono (by decide)) (by rfl) T.g_read_index T.F_read_index.kp T.b_read_index .nil pass0 (pa_cons pe_str (pa_cons (pv 4) pa_nil))) pa_nil))))))
      (pcs_strs rfl op_eq (pcm_name 3 sc_read_node.nd rfl (.inl rfl) (pcm_word (pcm_name 4 sc_read_node.nd rfl (.inl rfl) pcm_nil)))
      (pss_cons (ps_if (pt_val (pe_m1 PySem.F.slot_str_startswith PySem.F.type_str_startswith mt_startswith (pv 3) pe_str))
      (pss_one (ps_ret (pe_tup (pa_cons pe_str (pa_cons (pe_call (ok_read_index T) (hr.mono (by decide)) (by rfl) T.g_read_index T.F_read_index.kp T.b_read_index .nil pass0 (pa_cons pe_str (pa_cons (pv 3) pa_nil))) (pa_cons (pe_call (ok_read_index T) (hr.mono (by decide)) (by rfl) T.g_read_index T.F_read_index.kp T.b_read_index .nil pass0 (pa_cons pe_str (pa_cons (pv 4) pa_nil))) pa_nil))))))
      pss_nil)
      (pss_one (ps_ret (pe_tup (pa_cons pe_str (pa_cons (pe_call (ok_number_in T) (hr.mono (by decide)) (by rfl) T.g_number_in T.F_number_in.kp T.b_number_in .nil pass0 (pa_cons (pv 3) (pa_cons (pe_glob (v := .int 9) (by rfl) T.c_MOST_FIGURES ⟨_, rfl⟩) pa_nil))) (pa_cons (pe_call (ok_read_index T) (hr.mono (by decide)) (by rfl) T.g_read_index T.F_read_index.kp T.b_read_index .nil pass0 (pa_cons pe_str (pa_cons (pv 4) pa_nil))) pa_nil)))))))
      (pcs_strs rfl op_eq (pcm_name 5 sc_read_node.nd rfl (.inl rfl) (pcm_word (pcm_name 6 sc_read_node.nd rfl (.inl rfl) (pcm_word (pcm_name 7 sc_read_node.nd rfl (.inl rfl) pcm_nil)))))
      (pss_one (ps_ret (pe_tup (pa_cons pe_str (pa_cons (pe_call (ok_read_index T) (hr.mono (by decide)) (by rfl) T.g_read_index T.F_read_index.kp T.b_read_index .nil pass0 (pa_cons pe_str (pa_cons (pv 5) pa_nil))) (pa_cons (pe_call (ok_read_index T) (hr.mono (by decide)) (by rfl) T.g_read_index T.F_read_index.kp T.b_read_index .nil pass0 (pa_cons pe_str (pa_cons (pv 6) pa_nil))) (pa_cons (pe_call (ok_read_index T) (hr.mono (by decide)) (by rfl) T.g_read_index T.F_read_index.kp T.b_read_index .nil pass0 (pa_cons pe_str (pa_cons (pv 7) pa_nil))) pa_nil)))))))
      (pcs_else (rest := _) (pss_one (ps_ret pe_non)))))))))), ?_⟩
    walk_at "start"
    walk_at "x"
    refine x_tM1 ?_
    walk_at "x"
    refine ⟨⟨_, rfl⟩, ?_⟩
    walk_at "x"
    refine ⟨_, _, rfl, rfl, rfl, ?_, ?_⟩
    · rw [tS_len]; exact Nat.le_trans (Nat.add_le_add_right ht 2) (by decide)
    intro p hp
    have s1 := same_upd (o := .lst ((Txt.split (tS t) (Str.ofString " ")).map V.str)) hp
    have e1 : (upd H p (.lst ((Txt.split (tS t) (Str.ofString " ")).map V.str))) p = some (.lst ((Txt.split (tS t) (Str.ofString " ")).map V.str)) := upd_same
    generalize upd H p (.lst ((Txt.split (tS t) (Str.ofString " ")).map V.str)) = H1 at s1 e1
    rw [show Txt.split (tS t) (Str.ofString " ") = (TL.spl [32] 0 [] t).map tS from SX.split_S (b := [32]) (by decide) (by decide)] at e1
    have hl := spl_part_len [32] t 0 []
    unfold nodeT at q
    generalize TL.spl [32] 0 [] t = ws at q e1 hl
    have hl : ∀ p ∈ ws, p.length ≤ 100000 := fun p hp => by
      have := hl p hp
      have e : ([] : List Nat).length = 0 := rfl
      omega
    walk_at "x"
    refine x_matW e1 ?_
    rw [show patW _ = [none].map (Option.map tS) from rfl, fitS_W]
    by_cases h1 : fitW [none] ws = true
    · rw [if_pos h1]
      obtain ⟨w, rfl⟩ : ∃ w, ws = [w] := by
        have := fitW_len h1
        match ws, this with
        | [w], _ => exact ⟨w, rfl⟩
      simp only [List.map_cons, List.map_nil]
      walk_at "xb"
      exact ⟨w, rfl, hl w List.mem_cons_self, fun v H' s hv => q v H' (s1.trans s) hv⟩
    rw [if_neg h1]
    have three : ∀ {x : List Nat}, fitW [none, some x, none] ws = true → ∃ a b, ws = [a, x, b] := fun {x} h => by
      have := fitW_len h
      match ws, this, h with
      | [a, y, b], _, h =>
        have h : (decide (y = x) && true) = true := h
        rw [Bool.and_true, decide_eq_true_iff] at h
        exact ⟨a, b, by rw [h]⟩
    refine x_matW e1 ?_
    rw [show patW _ = [none, some [43], none].map (Option.map tS) from rfl, fitS_W]
    by_cases h2 : fitW [none, some [43], none] ws = true
    · rw [if_pos h2]
      obtain ⟨a, b, rfl⟩ := three h2
      simp only [List.map_cons, List.map_nil]
      walk_at "xb"
      refine ⟨a, 35, rfl, hl a (by simp), ?_⟩
      walk_at "x"
      refine ⟨b, 35, rfl, hl b (by simp), ?_⟩
      walk_at "x"
      refine ⟨by show 3 ≤ sizeLine; decide, fun p hp => ?_⟩
      rw [show nodeW [a, [43], b] = .tuple [.str "sum", optD (idxO 35 a), optD (idxO 35 b)] from rfl] at q
      exact q _ _ (s1.trans (same_upd hp)) fun d => .tup upd_same (.cons (.str _) (.cons optV_d (.cons optV_d .nil)))
    rw [if_neg h2]
    refine x_matW e1 ?_
    rw [show patW _ = [none, some [42], none].map (Option.map tS) from rfl, fitS_W]
    by_cases h3 : fitW [none, some [42], none] ws = true
    · rw [if_pos h3]
      obtain ⟨a, b, rfl⟩ := three h3
      simp only [List.map_cons, List.map_nil]
      walk_at "xb"
      refine x_tM1 ?_
      walk_at "x"
      refine ⟨⟨_, rfl⟩, ?_⟩
      walk_at "x"
      refine ⟨_, _, rfl, rfl, ?_⟩
      rw [show Txt.startswith (tS a) (Str.ofString "#") = decide (a.head? = some 35) from startsS]
      rw [show nodeW [a, [42], b] = (if a.head? = some 35 then .tuple [.str "product", optD (idxO 35 a), optD (idxO 35 b)] else .tuple [.str "scaled", optD (numO 9 a), optD (idxO 35 b)]) from rfl] at q
      by_cases h : a.head? = some 35
      · rw [if_pos h] at q
        rw [decide_eq_true h]
        walk_at "x"
        walk_at "t"
        refine ⟨a, 35, rfl, hl a (by simp), ?_⟩
        walk_at "x"
        refine ⟨b, 35, rfl, hl b (by simp), ?_⟩
        walk_at "x"
        refine ⟨by show 3 ≤ sizeLine; decide, fun p hp => ?_⟩
        exact q _ _ (s1.trans (same_upd hp)) fun d => .tup upd_same (.cons (.str _) (.cons optV_d (.cons optV_d .nil)))
      · rw [if_neg h] at q
        rw [decide_eq_false h]
        walk_at "x"
        walk_at "f"
        refine ⟨a, 9, rfl, hl a (by simp), by decide, ?_⟩
        walk_at "x"
        refine ⟨b, 35, rfl, hl b (by simp), ?_⟩
        walk_at "x"
        refine ⟨by show 3 ≤ sizeLine; decide, fun p hp => ?_⟩
        exact q _ _ (s1.trans (same_upd hp)) fun d => .tup upd_same (.cons (.str _) (.cons optV_d (.cons optV_d .nil)))
    rw [if_neg h3]
    refine x_matW e1 ?_
    rw [show patW _ = [none, some [63], none, some [58], none].map (Option.map tS) from rfl, fitS_W]
    by_cases h4 : fitW [none, some [63], none, some [58], none] ws = true
    · rw [if_pos h4]
      obtain ⟨a, b, c, rfl⟩ : ∃ a b c, ws = [a, [63], b, [58], c] := by
        have := fitW_len h4
        match ws, this, h4 with
        | [a, x, b, y, c], _, h =>
          have h : (decide (x = [63]) && (decide (y = [58]) && true)) = true := h
          rw [Bool.and_true, Bool.and_eq_true, decide_eq_true_iff, decide_eq_true_iff] at h
          exact ⟨a, b, c, by rw [h.1, h.2]⟩
      simp only [List.map_cons, List.map_nil]
      walk_at "xb"
      refine ⟨a, 35, rfl, hl a (by simp), ?_⟩
      walk_at "x"
      refine ⟨b, 35, rfl, hl b (by simp), ?_⟩
      walk_at "x"
      refine ⟨c, 35, rfl, hl c (by simp), ?_⟩
      walk_at "x"
      refine ⟨by show 4 ≤ sizeLine; decide, fun p hp => ?_⟩
      rw [show nodeW [a, [63], b, [58], c] = .tuple [.str "choose", optD (idxO 35 a), optD (idxO 35 b), optD (idxO 35 c)] from rfl] at q
      exact q _ _ (s1.trans (same_upd hp)) fun d => .tup upd_same (.cons (.str _) (.cons optV_d (.cons optV_d (.cons optV_d .nil))))
    rw [if_neg h4]
    walk_at "x"
    have e : nodeW ws = .none := by
      unfold nodeW
      rw [if_neg h1, if_neg h2, if_neg h3, if_neg h4]
    rw [e] at q
    exact q _ _ s1 fun d => .non


theorem optD_sh {m : Nat} : ∀ {o : Option Nat}, ShN m (optD o)
  | some _ => ShN.int
  | none => ShN.non
theorem ite_sh {m : Nat} {p : Prop} [Decidable p] {a b : PyData} (h1 : ShN m a) (h2 : ShN m b) : ShN m (if p then a else b) := by
  by_cases h : p
  · rw [if_pos h]; exact h1
  · rw [if_neg h]; exact h2
theorem nodeT_sh {t : List Nat} {m : Nat} : ShN (m + 1) (nodeT t) := by
  have w1 : ShN m (.str "const") := ShN.str (by decide +kernel)
  have w2 : ShN m (.str "input") := ShN.str (by decide +kernel)
  have w3 : ShN m (.str "sum") := ShN.str (by decide +kernel)
  have w4 : ShN m (.str "product") := ShN.str (by decide +kernel)
  have w5 : ShN m (.str "scaled") := ShN.str (by decide +kernel)
  have w6 : ShN m (.str "choose") := ShN.str (by decide +kernel)
  have t2 : ∀ {a b : PyData}, ShN m a → ShN m b → ShN (m + 1) (.tuple [a, b]) := fun h1 h2 => ShN.tup (sh_cons h1 (sh_cons h2 sh_nil))
  have t3 : ∀ {a b c : PyData}, ShN m a → ShN m b → ShN m c → ShN (m + 1) (.tuple [a, b, c]) := fun h1 h2 h3 => ShN.tup (sh_cons h1 (sh_cons h2 (sh_cons h3 sh_nil)))
  have t4 : ∀ {a b c e : PyData}, ShN m a → ShN m b → ShN m c → ShN m e → ShN (m + 1) (.tuple [a, b, c, e]) := fun h1 h2 h3 h4 => ShN.tup (sh_cons h1 (sh_cons h2 (sh_cons h3 (sh_cons h4 sh_nil))))
  unfold nodeT nodeW leafD
  exact ite_sh (ite_sh (t2 w2 optD_sh) (t2 w1 optD_sh)) (ite_sh (t3 w3 optD_sh optD_sh) (ite_sh (ite_sh (t3 w4 optD_sh optD_sh) (t3 w5 optD_sh optD_sh)) (ite_sh (t4 w6 optD_sh optD_sh optD_sh) ShN.non)))
theorem parseD_sh {t : List Nat} : Sh (parseD t) := (ShN.tup (n := 5) fun e he => by
  obtain ⟨p, _, rfl⟩ := List.mem_map.mp he
  exact nodeT_sh).sh (by decide)
theorem x_lcPreTx {te : TE} {ta : TE} {j : Nat} {vs : List Nat} {σ : L2.St} {H : Hp} {Q : VK} (h : ta σ H fun v H1 => tLc (iList K (tC v)) (gName j) tYes te vs σ H1 Q) : tLc (iList K ta) (gName j) tYes te vs σ H Q := h
def sp_parse_source (CT : Addr) (K : PySem.W.Frag) : Sp := fun vs H Q E => ∃ (t : List Nat), vs = [.str (tS t)] ∧ t.length ≤ 100000 ∧ (sourceD (parseD t) = false → ∀ H', Same H H' → E (.ref CT) none H') ∧ (sourceD (parseD t) = true → ∀ a H', Same H H' → H a = none → (∀ d, DAt d H' (.ref a) (parseD t)) → Q (.ref a) H')
theorem ok_parse_source (T : Txt K mg) : FnOk P w K mg base (L2.CX P w) 5 T.a_parse_source T.fd_parse_source ["text"] (sp_parse_source T.E_BadText K) := by
  refine T.F_parse_source.okX sc_parse_source (fun vs H Q E h => ?_) (fun cdv A outer s H vs Q E hr h => ?_)
  · obtain ⟨t, rfl, _⟩ := h
    rfl
  · obtain ⟨t, rfl, ht, hE, hQ⟩ := h
    refine ⟨_, (pss_cons (ps_if (pt_not (pt_val (pe_callB (id := "isinstance") (r := rIsi K) call_isi (by rfl) T.m_isinstance (by decide +kernel) (pa_cons (pv 0) (pa_cons (pe_bltn (v := .ty "str") (by rfl) T.m_str (by decide +kernel) rfl) pa_nil)))))
      (pss_one (ps_raise rfl (takes_of rfl rfl rfl rfl) (pmk_own PySem.F.excBase_ValueError T.xE_BadText T.gE_BadText T.kE_BadText (raises_own T.bE_BadText T.tE_BadText) (by exact rfl))))
      pss_nil)
      (pss_cons (ps_set (i := 1) sc_parse_source.nd rfl (.inl rfl) (pe_callTy (T := "tuple") (r := rTupOf K) cr_tup_of (by rfl) T.m_tuple (by decide +kernel) (pa_cons (pe_lc (own := [("part", 2)]) (g := gName 2) (tt := tYes) rfl sc_parse_source.nd (pi_list (pe_split (pv 0) pe_str)) (blkOk_by (N := N_parse_source) (sc := defScope s_parse_source) (by decide +kernel)) (fun _ _ _ _ _ => (pg_name (i := 2) sc_parse_source.nd rfl (Or.inl rfl))) (fun _ _ _ _ _ => pts_nil) (fun _ _ _ _ _ => (pe_call (ok_read_node T) hr (by rfl) T.g_read_node T.F_read_node.kp T.b_read_node .nil pass0 (pa_cons (pv 2) pa_nil)))) pa_nil)))
      (pss_cons (ps_if (pt_not (pt_val (pe_call (ok_is_source T) hr (by rfl) T.g_is_source T.F_is_source.kp T.b_is_source .nil pass0 (pa_cons (pv 1) pa_nil))))
      (pss_one (ps_raise rfl (takes_of rfl rfl rfl rfl) (pmk_own PySem.F.excBase_ValueError T.xE_BadText T.gE_BadText T.kE_BadText (raises_own T.bE_BadText T.tE_BadText) (by exact rfl))))
      pss_nil)
      (PSs.nox (pss_one (ps_ret (pv 1))))))), ?_⟩
    walk_at "start"
    walk_at "x"
    walk_at "is"
    walk_at "f"
    refine x_lcPreTx ?_
    refine x_tM1 ?_
    walk_at "x"
    refine ⟨⟨_, rfl⟩, ?_⟩
    walk_at "x"
    refine ⟨_, _, rfl, rfl, rfl, ?_, ?_⟩
    · rw [tS_len]; exact Nat.le_trans (Nat.add_le_add_right ht 2) (by decide)
    intro p hp
    have s1 := same_upd (o := .lst ((Txt.split (tS t) (Str.ofString "; ")).map V.str)) hp
    have e1 : (upd H p (.lst ((Txt.split (tS t) (Str.ofString "; ")).map V.str))) p = some (.lst ((Txt.split (tS t) (Str.ofString "; ")).map V.str)) := upd_same
    generalize upd H p (.lst ((Txt.split (tS t) (Str.ofString "; ")).map V.str)) = H1 at s1 e1
    rw [show Txt.split (tS t) (Str.ofString "; ") = (TL.spl [59, 32] 0 [] t).map tS from SX.split_S (b := [59, 32]) (by decide) (by decide), List.map_map] at e1
    have hl := spl_part_len [59, 32] t 0 []
    have hn := spl_len [59, 32] t 0 []
    have hsh := parseD_sh (t := t)
    unfold parseD at hE hQ hsh
    generalize TL.spl [59, 32] 0 [] t = ps at hE hQ hsh e1 hl hn
    have hl : ∀ p ∈ ps, p.length ≤ 100000 := fun p hp => by
      have := hl p hp
      have e : ([] : List Nat).length = 0 := rfl
      omega
    refine x_lcL (a := p) (ps.map (V.str ∘ tS)) (fun o k H' => Same H1 H' ∧ ∃ xs : List V, H' o = some (.lst xs) ∧ xs.length = k ∧ ∀ d, DAts d H' xs ((ps.take k).map nodeT)) (fun R r => r) (sq_of e1) (fun o ho => ⟨same_upd ho, [], upd_same, rfl, fun d => .nil⟩) (fun o k H' _ _ z => sq_of (z.1 _ _ e1)) (fun x => rfl) ?_ ?_
    · rintro o k x H2 ho hx ⟨s2, xs, hX, hxl, hd⟩
      obtain ⟨w, hw, rfl⟩ : ∃ w, ps[k]? = some w ∧ x = .str (tS w) := by
        rw [List.getElem?_map] at hx
        cases e : ps[k]? with
        | none => rw [e] at hx; cases hx
        | some w => rw [e] at hx; exact ⟨w, rfl, (Option.some.inj hx).symm⟩
      have hk : k < ps.length := (List.getElem?_eq_some_iff.mp hw).1
      walk_at "x"
      refine ⟨w, rfl, hl w (List.mem_of_getElem? hw), fun v H3 s3 hv => ?_⟩
      refine ⟨xs, s3 _ _ hX, lt_line (by omega), sput (s2.trans s3) ho, xs ++ [v], upd_same, by rw [List.length_append, hxl]; rfl, fun d => ?_⟩
      have e : (ps.take (k + 1)).map nodeT = (ps.take k).map nodeT ++ [nodeT w] := by rw [take_snocG hw, List.map_append]; rfl
      rw [e]
      have all : ∀ d, DAts d H3 (xs ++ [v]) ((ps.take k).map nodeT ++ [nodeT w]) := fun d => (DAts.same s3 _ (hd d)).snoc (hv d)
      exact DAts.keep2 (c := o) ⟨_, s3 _ _ hX⟩ keep_upd _ (all o) (all d)
    rintro o H2 ho ⟨s2, xs, hX, hxl, hd⟩
    rw [List.length_map, List.take_length] at hd
    walk_at "x"
    refine x_tupL (sq_of hX) fun r hr => ?_
    have s3 := same_upd (o := .tup xs) hr
    have e3 : (upd H2 r (.tup xs)) r = some (.tup xs) := upd_same
    generalize upd H2 r (.tup xs) = H3 at s3 e3
    have hv : ∀ d, DAt d H3 (.ref r) (.tuple (ps.map nodeT)) := fun d => .tup e3 (DAts.same s3 _ (hd d))
    have s13 := (s1.trans s2).trans s3
    have hr0 : H r = none := (s1.trans s2).free hr
    walk_at "x"
    refine ⟨p, .ref r, _, rfl, hv p, hsh, fun H4 s4 => ?_⟩
    walk_at "x"
    refine x_iteBN (fun h0 => ?_) (fun h0 => ?_)
    · exact hE h0 H4 (s13.trans s4)
    · walk_at "x"
      exact hQ h0 r H4 (s13.trans s4) hr0 fun d => DAt.same s4 _ (hv d)


end
end Br
namespace Br
open PySem PySem.Spec PyProof.Rows L2
local macro_rules | `(tactic| walk_at "x1") => `(tactic| (with_reducible first
  | refine Br.x_seq ?_ | refine Br.x_set ?_ | refine Br.x_asg ?_ | refine Br.x_next ?_ | refine Br.x_ret ?_ | refine Br.x_retN ?_ | refine Br.x_drop ?_ | refine Br.x_if ?_ | refine Br.x_brk ?_ | refine Br.x_cont ?_
  | refine Br.x_c ?_ | refine Br.x_op ?_ | refine Br.x_un ?_ | refine Br.x_I0 ?_ | refine Br.x_U ?_ | refine Br.x_EqI ?_ | refine Br.x_NeI ?_ | refine Br.x_EqB ?_ | refine Br.x_iN ?_ | refine Br.x_int1 ?_ | refine Br.x_min2 ?_ | refine Br.x_max2 ?_ | refine Br.x_nN ?_ | refine Br.x_ifE ?_
  | refine Br.x_test (b := ()) ?_ | refine Br.x_tB ?_ | refine Br.x_bl ?_ | refine Br.x_and ?_ | refine Br.x_or ?_ | refine Br.x_not ?_ | refine Br.x_andV ?_ | refine Br.x_orV ?_ | refine Br.x_notV ?_ | refine Br.x_blP ?_
  | refine Br.x_nil ?_ | refine Br.x_cons ?_ | refine Br.x_call ?_ | refine Br.x_CB ?_ | refine Br.x_BM ?_ | refine Br.x_tup ?_ | refine Br.x_lst ?_ | refine Br.x_chain ?_ | refine Br.x_par ?_ | refine Br.x_gSub ?_ | refine Br.x_gName ?_ | refine Br.x_fld ?_ | refine Br.x_fldS ?_ | refine Br.x_match ?_ | refine Br.x_else ?_ | refine Br.x_noCase ?_))
local macro_rules | `(tactic| walk_at "xv") => `(tactic| ((with_reducible refine' Br.x_var ?hvar ?_); (case hvar => rfl)))
local macro_rules | `(tactic| walk_at "xd") => `(tactic| (dsimp only [List.set_cons_zero, List.set_cons_succ, List.cons_append, List.nil_append, List.append_nil]))
local macro_rules | `(tactic| walk_at "xi") => `(tactic| ((with_reducible refine Br.x_I ?hside ?_); (case hside => first | exact Br.mul_r (by decide) (by decide) | exact Br.mul_l (by decide) (by decide) | exact Br.mul_l (by omega) (by omega) | exact Br.mul_r (by omega) (by omega) | (show (0 : Int) < _; first | decide | omega) | exact ⟨by decide, by decide⟩ | exact ⟨by omega, by omega⟩ | exact ⟨by decide, by decide, by decide⟩)))
local macro_rules | `(tactic| walk_at "x") => `(tactic| (repeat (first | walk_at "x1" | walk_at "xv" | walk_at "xi" | walk_at "xd")))
local macro_rules | `(tactic| walk_at "start") => `(tactic| (simp only [L2.start, List.map_cons, List.map_nil, List.length_cons, List.length_nil, Nat.reduceAdd, Nat.reduceSub, List.replicate, List.cons_append, List.nil_append, List.append_nil]))
local macro_rules | `(tactic| walk_at "isi") => `(tactic| first
  | refine Br.x_isi (b := true) (.base (.int _)) (by decide +kernel) ?_ | refine Br.x_isi (b := false) (.base (.int _)) (by decide +kernel) ?_
  | refine Br.x_isi (b := true) (.base (.bl _)) (by decide +kernel) ?_ | refine Br.x_isi (b := false) (.base (.bl _)) (by decide +kernel) ?_
  | refine Br.x_isi (b := false) (.base .non) (by decide +kernel) ?_
  | refine Br.x_isi (b := true) (.base (.str _)) (by decide +kernel) ?_ | refine Br.x_isi (b := false) (.base (.str _)) (by decide +kernel) ?_
  | refine Br.x_isi (b := true) (.base (.tup (by assumption))) (by decide +kernel) ?_ | refine Br.x_isi (b := false) (.base (.tup (by assumption))) (by decide +kernel) ?_
  | refine Br.x_isi (b := true) (.base (.lst (by assumption))) (by decide +kernel) ?_ | refine Br.x_isi (b := false) (.base (.lst (by assumption))) (by decide +kernel) ?_)
local macro_rules | `(tactic| walk_at "f") => `(tactic| (refine L2.iteF ?_; walk_at "x"))
local macro_rules | `(tactic| walk_at "t") => `(tactic| (refine L2.iteT ?_; walk_at "x"))
local macro_rules | `(tactic| walk_at "is") => `(tactic| (walk_at "isi"; walk_at "x"))
local macro_rules | `(tactic| walk_at "xb") => `(tactic| (simp only [Br.bindS, List.set_cons_zero, List.set_cons_succ]; walk_at "x"))

section
variable {P : Program} {w : World} {K : PySem.W.Frag} {mg : Str → Option Value} {base : Heap}

open Br
theorem tS_cat (a b : List Nat) : tS a ++ tS b = tS (a ++ b) := SX.S_cat a b
theorem num_tS (n : Nat) : Str.ofString (toString ((n : Nat) : Int)) = tS (TL.numL n) := SX.num_S n
section
variable {σ : L2.St} {H : Hp} {Q : VK}
theorem log_n9 {n : Nat} (h : n < 1000000000) : ((n : Int)).natAbs.log2 < 1920 := log_nat (Nat.lt_of_lt_of_le h (by decide))
theorem x_jsE {acc : Str} {R : Str → Hp → Prop} (h : R acc H) : tJs [] acc σ H R := h
theorem x_jsS {w acc : List Nat} {z : Str} {ts : List TE} {R : Str → Hp → Prop} (hz : z = tS w) (hl : acc.length + w.length ≤ 1000000) (h : tJs ts (tS (acc ++ w)) σ H R) : tJs (tC (V.str z) :: ts) (tS acc) σ H R := by
  subst hz
  refine ⟨_, rfl, ?_, ?_⟩
  · rw [tS_cat, tS_len, List.length_append]; exact Nat.le_trans hl (by decide)
  · rw [tS_cat]; exact h
theorem x_jsN {i n : Nat} {acc : List Nat} {ts : List TE} {R : Str → Hp → Prop} (hv : σ[i]? = some (some (.int (n : Int)))) (hn : n < 1000000000) (hl : acc.length ≤ 900000) (h : tJs ts (tS (acc ++ TL.numL n)) σ H R) : tJs (tFmt (tVar i) :: ts) (tS acc) σ H R := by
  refine ⟨_, hv, .inr ⟨_, rfl, log_n9 hn, ?_⟩⟩
  rw [num_tS]
  have := numL_len9 hn
  refine ⟨_, rfl, ?_, ?_⟩
  · rw [tS_cat, tS_len, List.length_append]; exact Nat.le_trans (show acc.length + (TL.numL n).length ≤ 1000000 by omega) (by decide)
  · rw [tS_cat]; exact h
theorem x_addS {a b : List Nat} {x y : Str} (hx : x = tS a) (hy : y = tS b) (hl : a.length + b.length ≤ 1000000) (q : Q (.str (tS (a ++ b))) H) : ∃ i j, V.str x = .str i ∧ V.str y = .str j ∧ i.length + j.length ≤ sizeLine ∧ Q (.str (i ++ j)) H := by
  subst hx; subst hy
  exact ⟨_, _, rfl, rfl, by rw [tS_len, tS_len]; exact Nat.le_trans hl (by decide), by rw [tS_cat]; exact q⟩
theorem x_strN {n : Nat} (hn : n < 1000000000) (q : Q (.str (tS (TL.numL n))) H) : ∃ i : Int, [V.int (n : Int)] = [.int i] ∧ i.natAbs.log2 < 1920 ∧ Q (.str (Str.ofString (toString i))) H := ⟨_, rfl, log_n9 hn, by rw [num_tS]; exact q⟩
end
theorem len_tS2 {x y : Str} {a b : List Nat} (hx : x = tS a) (hy : y = tS b) (h : a.length + b.length ≤ 1000000) : x.length + y.length ≤ sizeLine := by
  subst hx; subst hy
  rw [tS_len, tS_len]
  exact Nat.le_trans h (by decide)
theorem add_tS {x y : Str} {a b : List Nat} (hx : x = tS a) (hy : y = tS b) : x ++ y = tS (a ++ b) := by rw [hx, hy, tS_cat]
theorem join_len {ws : List (List Nat)} {a : List Nat} {B : Nat} (h : ∀ w ∈ ws, w.length ≤ B) (hb : ws.length * (B + a.length) ≤ 16777216) : ((ws.map tS).map (·.length)).sum + (ws.map tS).length * (tS a).length ≤ 16777216 := by
  have h1 : ∀ y ∈ ws.map tS, y.length ≤ B := fun y hy => by
    obtain ⟨w, hw, rfl⟩ := List.mem_map.mp hy
    rw [tS_len]; exact h w hw
  have h2 := PySem.StrLaws.sumLen_le (ws.map tS) h1
  rw [tS_len]
  rw [List.length_map] at h2 ⊢
  rw [Nat.mul_add] at hb
  omega
theorem join_tS (a : List Nat) (ws : List (List Nat)) : Txt.join (tS a) (ws.map tS) = tS (TL.joinL a ws) := SX.join_S a ws
/-- the texts of the nodes of a tuple -/
theorem x_lcTxt {K : PySem.W.Frag} {te ta : TE} {j : Nat} {vs : List Nat} {σ : L2.St} {H : Hp} {Q : VK} {t : Addr} {ns : List SN} (d : Addr) (hn : ∀ R : V → Hp → Prop, R (.ref t) H → ta σ H R) (ht : DAt d H (.ref t) (.tuple (ns.map snD))) (hw : ∀ x, wipe ((wipe σ vs).set j (some x)) vs = wipe σ vs) (ok : SsOk ns)
    (hs : ∀ (i : Nat) n b H' (R : VK), ns[i]? = some n → Same H H' → H' b = some (.tup (snV n)) → SnOk i n → R (.str (tS (textN n))) H' → te ((wipe σ vs).set j (some (.ref b))) H' R)
    (hd : ∀ p H', H p = none → Same H H' → H' p = some (.lst (((ns.map textN).map tS).map V.str)) → Q (.ref p) H') : tLc (iTup K ta) (gName j) tYes te vs σ H Q := by
  obtain ⟨o1, o2, o3⟩ := ok
  cases ht with
  | tup ha hs2 =>
    rename_i xs
    obtain ⟨as, rfl, hal, hat⟩ := sns_at hs2
    refine x_lcI (J := Itt K t) (n := (as.map V.ref).length) (G := fun H => SqT K H t (as.map V.ref)) (fun R r => hn _ ⟨t, rfl, ⟨_, st_of ha⟩, r⟩) walk_tup (fun p k H' => Same H H' ∧ H' p = some (.lst ((((ns.take k).map textN).map tS).map V.str))) (fun p hp => ⟨same_upd hp, upd_same⟩) (fun p k H' _ _ z => st_of (z.1 _ _ ha)) ?_ (fun x σ' H' R R' z h => z _ _ h) ?_
    · rintro p k x _ H2 hk hp ⟨s2, e2⟩ ⟨rfl, hx⟩
      obtain ⟨b, hb, rfl⟩ := map_getR hx
      obtain ⟨n, hn2⟩ : ∃ n, ns[k]? = some n := ⟨_, List.getElem?_eq_getElem (by rw [List.length_map] at hk; omega)⟩
      refine ⟨hw _, ?_⟩
      refine hs k n b H2 _ hn2 s2 (s2 _ _ (hat k n b hn2 hb)) (o3 k n hn2) ?_
      refine ⟨_, e2, lt_line ?_, sput s2 hp, ?_⟩
      · rw [List.length_map, List.length_map, List.length_map, List.length_take]; omega
      · rw [upd_same, take_snocG hn2, List.map_append, List.map_append, List.map_append]; rfl
    · rintro p H' hp ⟨s2, e2⟩
      rw [List.length_map, hal, List.take_length] at e2
      exact hd p H' hp s2 e2
theorem texts_len {ns : List SN} (ok : SsOk ns) : ∀ w ∈ ns.map textN, w.length ≤ 55 := fun w hw => by
  obtain ⟨n, hn, rfl⟩ := List.mem_map.mp hw
  obtain ⟨i, hi⟩ := List.getElem?_of_mem hn
  exact textN_len (ok.ok i n hi) (by have := (List.getElem?_eq_some_iff.mp hi).1; have := ok.l2; omega)
theorem sns_eqv {K : PySem.W.Frag} {d d' : Addr} {H : Hp} {v u : V} {ns : List SN} (h1 : DAt d H v (.tuple (ns.map snD))) (h2 : DAt d' H u (.tuple (ns.map snD))) (hl : ns.length ≤ 100000) : Eqv K H 5 v u := by
  cases h1 with
  | tup a1 s1 =>
    cases h2 with
    | tup a2 s2 =>
      have l1 := s1.len
      have l2 := s2.len
      rw [List.length_map] at l1 l2
      refine Eqv.tup (n := 4) a1 a2 (by omega) (by omega) fun i x y e1 e2 => ?_
      obtain ⟨f, hf, hx⟩ := s1.get e1
      obtain ⟨g, hg, hy⟩ := s2.get e2
      rw [hf] at hg
      cases hg
      rw [List.getElem?_map] at hf
      cases hn : ns[i]? with
      | none => rw [hn] at hf; cases hf
      | some n =>
        rw [hn] at hf
        cases hf
        obtain ⟨a, rfl, ha⟩ := snD_at hx
        obtain ⟨b, rfl, hb⟩ := snD_at hy
        have c : ∀ {y : V} {ys : List V}, ((∃ i : Int, y = .int i) ∨ ∃ z, y = .str z) → (∀ x ∈ ys, (∃ i : Int, x = .int i) ∨ ∃ z, x = .str z) → ∀ x ∈ y :: ys, (∃ i : Int, x = .int i) ∨ ∃ z, x = .str z := fun h hs x hx => (List.mem_cons.mp hx).elim (fun e => by rw [e]; exact h) (hs x)
        have z : ∀ x ∈ ([] : List V), (∃ i : Int, x = .int i) ∨ ∃ z, x = .str z := fun x hx => by cases hx
        have w : ∀ {w : Str}, (∃ i : Int, V.str w = .int i) ∨ ∃ z, V.str w = .str z := .inr ⟨_, rfl⟩
        have k : ∀ {w : Int}, (∃ i : Int, V.int w = .int i) ∨ ∃ z, V.int w = .str z := .inl ⟨_, rfl⟩
        have fl : ∀ x ∈ snV n, (∃ i : Int, x = .int i) ∨ ∃ z, x = .str z := by
          cases n with
          | con a => exact c w (c k z)
          | inp a => exact c w (c k z)
          | sum i j => exact c w (c k (c k z))
          | prod i j => exact c w (c k (c k z))
          | scl i j => exact c w (c k (c k z))
          | cho i j l => exact c w (c k (c k (c k z)))
        have sl : (snV n).length ≤ 100000 := by cases n <;> exact Nat.le_of_ble_eq_true rfl
        refine Eqv.tup (n := 3) ha hb rfl sl fun j x y e1 e2 => ?_
        rw [e1] at e2
        cases e2
        rcases fl x (List.mem_of_getElem? e1) with ⟨i, rfl⟩ | ⟨z, rfl⟩
        · exact .int
        · exact .str


theorem digits_in {c : Nat} : decide (c ∈ (Str.ofString "0123456789").cps.toList) = dig c := by
  rw [show (Str.ofString "0123456789").cps.toList = [48, 49, 50, 51, 52, 53, 54, 55, 56, 57] from rfl]
  unfold dig
  by_cases h : 48 ≤ c ∧ c ≤ 57
  · rw [decide_eq_true h.1, decide_eq_true h.2]
    refine decide_eq_true ?_
    simp only [List.mem_cons, List.not_mem_nil, or_false]
    omega
  · rw [decide_eq_false (fun z => h ?_)]
    · rw [← Bool.decide_and, decide_eq_false h]
    · simp only [List.mem_cons, List.not_mem_nil, or_false] at z
      omega
theorem take_eq {w : List Nat} {c : Nat} : decide (V.str (tS (w.take 1)) = V.str (tS [c])) = decide (w.head? = some c) := by
  refine decide_eq_decide.mpr ⟨fun h => ?_, fun h => ?_⟩
  · have h := SX.S_inj (V.str.inj h)
    cases w with
    | nil => cases h
    | cons a l => rw [show (a :: l).take 1 = [a] from rfl] at h; rw [(List.cons.inj h).1]; rfl
  · cases w with
    | nil => cases h
    | cons a l => cases h; rfl
def sp_law_count (K : PySem.W.Frag) : Sp := fun vs H Q _ => ∃ (w : List Nat) (b : Nat), vs = [.str (tS w), .int (b : Int)] ∧ w.length ≤ 100000 ∧ Q (optV (countO b w)) H
theorem ok_law_count (T : Txt K mg) : FnOk P w K mg base CX0 1 T.a_law_count T.fd_law_count ["word", "bound"] (sp_law_count K) := by
  refine T.F_law_count.ok sc_law_count (fun vs H Q E h => ?_) (fun cdv A outer s H vs Q E hr h => ?_)
  · obtain ⟨w, b, rfl, _⟩ := h
    rfl
  · obtain ⟨w, b, rfl, hw, q⟩ := h
    have hz : (tS w).length ≤ sizeLine := by rw [tS_len]; exact Nat.le_trans hw (by decide)
    have no : ¬ (1 ≤ w.length ∧ w.length ≤ 12 ∧ w.all dig = true ∧ ¬ (w.head? = some 48 ∧ 1 < w.length) ∧ NumText.digitsVal w < b) → Q .non H := fun h => by
      unfold countO at q
      rw [if_neg h] at q
      exact q
    refine ⟨_, (pss_cons (ps_if (PW.pt (pw_or (pt_cmpR op_lt (pe_callB (id := "len") call_len_str (by rfl) T.m_len PySem.boot_len (pa_cons (pv 0) pa_nil)) pe_int (nomark _)) (pw_or1 (pt_cmpR op_gt (pe_callB (id := "len") call_len_str (by rfl) T.m_len PySem.boot_len (pa_cons (pv 0) pa_nil)) pe_int (nomark _)))))
      (pss_one (ps_ret pe_non))
      pss_nil)
      (pss_cons (ps_for PassesOwn.never rfl (pi_str (pv 0)) (pg_name (i := 2) sc_law_count.nd rfl (Or.inl rfl))
      (pss_one (ps_if (pt_cmpR op_notInS (pv 2) pe_str (by with_unfolding_all rfl))
      (pss_one (ps_ret pe_non))
      pss_nil)))
      (pss_cons (ps_if (PW.pt (pw_or (PW.pt (pw_and (pt_cmpR op_eq (pe_ix (r := rIxS) ix_str (pv 0) pe_int (fun _ _ => rfl)) pe_str (nomark _)) (pw_and1 (pt_cmpR op_gt (pe_callB (id := "len") call_len_str (by rfl) T.m_len PySem.boot_len (pa_cons (pv 0) pa_nil)) pe_int (nomark _))))) (pw_or1 (pt_cmpR op_ge (pe_callTy (T := "int") call_int_str (by rfl) T.m_int (by decide +kernel) (pa_cons (pv 0) pa_nil)) (pv 1) (nomark _)))))
      (pss_one (ps_ret pe_non))
      pss_nil)
      (pss_one (ps_ret (pe_callTy (T := "int") call_int_str (by rfl) T.m_int (by decide +kernel) (pa_cons (pv 0) pa_nil))))))), ?_⟩
    walk_at "start"
    walk_at "x"
    refine ⟨_, rfl, hz, ?_⟩
    rw [tS_len]
    walk_at "x"
    refine x_ite (fun h1 => ?_) (fun h1 => ?_)
    · walk_at "t"
      exact no fun z => by omega
    walk_at "x"
    refine ⟨_, rfl, hz, ?_⟩
    rw [tS_len]
    walk_at "x"
    refine x_ite (fun h2 => ?_) (fun h2 => ?_)
    · walk_at "x"
      exact no fun z => by omega
    walk_at "x"
    refine x_forI (J := Its (tS w)) (n := (tS w).cps.size) (fun R r => ⟨_, rfl, _, rfl, r⟩) walk_str (fun k σ' H' => H = H' ∧ (w.take k).all dig = true ∧ ∃ v2, σ' = [some (V.str (tS w)), some (.int (b : Int)), v2]) ⟨rfl, rfl, _, rfl⟩ (fun _ _ _ _ _ => trivial) ?_ ?_
    · rintro k x σ' _ H2 hk ⟨rfl, hd, v2, rfl⟩ ⟨rfl, c, hc, rfl⟩
      have hc : w[k]? = some c := by
        have hc : w.toArray[k]? = some c := hc
        rw [List.getElem?_toArray] at hc
        exact hc
      walk_at "x"
      refine ⟨c, _, rfl, rfl, ?_⟩
      rw [digits_in]
      walk_at "x"
      refine x_iteBN (fun h3 => ?_) (fun h3 => ?_)
      · walk_at "x"
        refine no fun z => ?_
        have := List.all_eq_true.mp z.2.2.1 c (List.mem_of_getElem? hc)
        rw [h3] at this; cases this
      · walk_at "x"
        refine ⟨rfl, ?_, _, rfl⟩
        rw [take_snocG hc, List.all_append, hd, Bool.true_and]
        show (dig c && true) = true
        rw [h3]; rfl
    rintro σ' _ ⟨rfl, hd, v2, rfl⟩
    have hd : w.all dig = true := by
      have e : (tS w).cps.size = w.length := by show w.toArray.size = w.length; exact List.size_toArray ..
      rw [e, List.take_length] at hd
      exact hd
    walk_at "x"
    obtain ⟨c, r, rfl⟩ : ∃ c r, w = c :: r := by
      cases w with
      | nil => exact absurd h1 (by decide)
      | cons c r => exact ⟨c, r, rfl⟩
    have hi : intText? (tS (c :: r)) = some ((NumText.digitsVal (c :: r) : Nat) : Int) := dig_int hd (by intro z; cases z) (by omega)
    have h640 : (tS (c :: r)).length ≤ 640 := by rw [tS_len]; omega
    refine ⟨_, 0, c, rfl, rfl, hz, atI_nat (j := 0) rfl, ?_⟩
    walk_at "x"
    refine x_Eq rfl ?_
    walk_at "x"
    rw [show decide (V.str { cps := #[c] } = V.str (Str.ofString "0")) = decide (c = 48) from sgn_eq]
    by_cases h4 : c = 48
    · rw [decide_eq_true h4]
      walk_at "t"
      refine ⟨_, rfl, hz, ?_⟩
      rw [tS_len]
      walk_at "x"
      refine x_ite (fun h5 => ?_) (fun h5 => ?_)
      · walk_at "t"
        exact no fun z => z.2.2.2.1 ⟨by rw [h4]; rfl, by omega⟩
      · walk_at "x"
        refine ⟨_, _, rfl, hi, h640, ?_⟩
        walk_at "x"
        refine x_ite (fun h6 => ?_) (fun h6 => ?_)
        · walk_at "x"
          exact no fun z => by omega
        · walk_at "x"
          refine ⟨_, _, rfl, hi, h640, ?_⟩
          unfold countO at q
          rw [if_pos ⟨by omega, by omega, hd, fun z => by omega, by omega⟩] at q
          exact q
    · rw [decide_eq_false h4]
      walk_at "f"
      walk_at "f"
      refine ⟨_, _, rfl, hi, h640, ?_⟩
      walk_at "x"
      refine x_ite (fun h6 => ?_) (fun h6 => ?_)
      · walk_at "x"
        exact no fun z => by omega
      · walk_at "x"
        refine ⟨_, _, rfl, hi, h640, ?_⟩
        unfold countO at q
        rw [if_pos ⟨by omega, by omega, hd, fun z => h4 (Option.some.inj z.1), by omega⟩] at q
        exact q


def sp_law_reference (K : PySem.W.Frag) : Sp := fun vs H Q _ => ∃ (w : List Nat) (b : Nat), vs = [.str (tS w), .int (b : Int)] ∧ w.length ≤ 100000 ∧ Q (optV (refO b w)) H
theorem ok_law_reference (T : Txt K mg) : FnOk P w K mg base CX0 2 T.a_law_reference T.fd_law_reference ["word", "at"] (sp_law_reference K) := by
  refine T.F_law_reference.ok sc_law_reference (fun vs H Q E h => ?_) (fun cdv A outer s H vs Q E hr h => ?_)
  · obtain ⟨w, b, rfl, _⟩ := h
    rfl
  · obtain ⟨w, b, rfl, hw, q⟩ := h
    have hz : (tS w).length ≤ sizeLine := by rw [tS_len]; exact Nat.le_trans hw (by decide)
    refine ⟨_, (pss_cons (ps_if (pt_cmpR op_ne (pe_slice C8.sl_txt (pv 0) po_none (po_some pe_int)) pe_str (nomark _))
      (pss_one (ps_ret pe_non))
      pss_nil)
      (pss_one (ps_ret (pe_call (ok_law_count T) hr (by rfl) T.g_law_count T.F_law_count.kp T.b_law_count .nil pass0 (pa_cons (pe_slice C8.sl_txt (pv 0) (po_some pe_int) po_none) (pa_cons (pv 1) pa_nil)))))), ?_⟩
    walk_at "start"
    walk_at "x"
    refine x_sl2 ?_
    walk_at "x"
    refine x_part0 ?_
    refine x_part1 ?_
    walk_at "x"
    refine ⟨_, rfl, ?_⟩
    refine ⟨_, rfl, hz, ?_⟩
    rw [SX.slice_to (by decide)]
    walk_at "x"
    refine x_Ne rfl ?_
    walk_at "x"
    rw [show decide (V.str (tS (w.take (1 : Int).toNat)) = V.str (Str.ofString "#")) = decide (w.head? = some 35) from take_eq]
    unfold refO at q
    refine x_iteN (fun h1 => ?_) (fun h1 => ?_)
    · walk_at "x"
      rw [if_neg h1] at q
      exact q
    · rw [if_pos h1] at q
      walk_at "x"
      refine x_sl2 ?_
      walk_at "x"
      refine x_part1 ?_
      walk_at "x"
      refine ⟨_, rfl, x_part0 ?_⟩
      refine ⟨_, rfl, hz, ?_⟩
      rw [SX.slice_from (by decide)]
      walk_at "x"
      exact ⟨_, b, rfl, by rw [List.length_drop]; omega, q⟩


theorem neW {p q : List Nat} (h : p ≠ q) : ¬ V.str (tS p) = V.str (tS q) := fun z => h (SX.S_inj (V.str.inj z))
/-- the shapes of more than one word -/
theorem nodeW_cases {ws : List (List Nat)} (h : 2 ≤ ws.length) :
    (∃ a b, ws = [a, [43], b] ∧ nodeW ws = .tuple [.str "sum", optD (idxO 35 a), optD (idxO 35 b)]) ∨
    (∃ a b, ws = [a, [42], b] ∧ a.head? = some 35 ∧ nodeW ws = .tuple [.str "product", optD (idxO 35 a), optD (idxO 35 b)]) ∨
    (∃ a b, ws = [a, [42], b] ∧ a.head? ≠ some 35 ∧ nodeW ws = .tuple [.str "scaled", optD (numO 9 a), optD (idxO 35 b)]) ∨
    (∃ a b c, ws = [a, [63], b, [58], c] ∧ nodeW ws = .tuple [.str "choose", optD (idxO 35 a), optD (idxO 35 b), optD (idxO 35 c)]) ∨
    (nodeW ws = .none ∧ (∀ a b, ws ≠ [a, [43], b]) ∧ (∀ a b, ws ≠ [a, [42], b]) ∧ ∀ a b c, ws ≠ [a, [63], b, [58], c]) := by
  have three : ∀ {x : List Nat}, fitW [none, some x, none] ws = true → ∃ a b, ws = [a, x, b] := fun {x} h => by
    have := fitW_len h
    match ws, this, h with
    | [a, y, b], _, h =>
      have h : (decide (y = x) && true) = true := h
      rw [Bool.and_true, decide_eq_true_iff] at h
      exact ⟨a, b, by rw [h]⟩
  by_cases h2 : fitW [none, some [43], none] ws = true
  · obtain ⟨a, b, rfl⟩ := three h2
    exact .inl ⟨a, b, rfl, rfl⟩
  by_cases h3 : fitW [none, some [42], none] ws = true
  · obtain ⟨a, b, rfl⟩ := three h3
    have e : nodeW [a, [42], b] = (if a.head? = some 35 then .tuple [.str "product", optD (idxO 35 a), optD (idxO 35 b)] else .tuple [.str "scaled", optD (numO 9 a), optD (idxO 35 b)]) := rfl
    by_cases h : a.head? = some 35
    · rw [if_pos h] at e
      exact .inr (.inl ⟨a, b, rfl, h, e⟩)
    · rw [if_neg h] at e
      exact .inr (.inr (.inl ⟨a, b, rfl, h, e⟩))
  by_cases h4 : fitW [none, some [63], none, some [58], none] ws = true
  · have := fitW_len h4
    match ws, this, h4 with
    | [a, x, b, y, c], _, h =>
      have h : (decide (x = [63]) && (decide (y = [58]) && true)) = true := h
      rw [Bool.and_true, Bool.and_eq_true, decide_eq_true_iff, decide_eq_true_iff] at h
      obtain ⟨rfl, rfl⟩ := h
      exact .inr (.inr (.inr (.inl ⟨a, b, c, rfl, rfl⟩)))
  refine .inr (.inr (.inr (.inr ⟨?_, fun a b e => h2 (by rw [e]; rfl), fun a b e => h3 (by rw [e]; rfl), fun a b c e => h4 (by rw [e]; rfl)⟩)))
  unfold nodeW
  rw [if_neg (fun h1 => by have := fitW_len h1; simp at this; omega), if_neg h2, if_neg h3, if_neg h4]
/-- what the law read, as it stands -/
def ResAt (H : Hp) (v : V) : Option SN → Prop
  | none => v = .non
  | some n => ∃ a, v = .ref a ∧ H a = some (.tup (snV n))
def sp_law_read (K : PySem.W.Frag) : Sp := fun vs H Q _ => ∃ (t : List Nat) (b : Nat), vs = [.str (tS t), .int (b : Int)] ∧ t.length ≤ 100000 ∧ b ≤ 1000 ∧ ∀ v H', Same H H' → ResAt H' v (readW b (TL.spl [32] 0 [] t)) → Q v H'
theorem ok_law_read (T : Txt K mg) : FnOk P w K mg base CX0 3 T.a_law_read T.fd_law_read ["text", "at"] (sp_law_read K) := by
  refine T.F_law_read.ok sc_law_read (fun vs H Q E h => ?_) (fun cdv A outer s H vs Q E hr h => ?_)
  · obtain ⟨t, b, rfl, _⟩ := h
    rfl
  · obtain ⟨t, b, rfl, ht, hb, q⟩ := h
    have hz : (tS t).length ≤ sizeLine := by rw [tS_len]; exact Nat.le_trans ht (by decide)
    refine ⟨_, (pss_cons (ps_set (i := 2) sc_law_read.nd rfl (.inl rfl) (pe_split (pv 0) pe_str))
      (pss_cons (ps_if (pt_cmpR op_eq (pe_callB (id := "len") (r := rLen K) cr_len (by rfl) T.m_len PySem.boot_len (pa_cons (pv 2) pa_nil)) pe_int (nomark _))
      (pss_cons (ps_if (pt_cmpR op_eq (pe_slice C8.sl_txt (pv 0) po_none (po_some pe_int)) pe_str (nomark _))
      (pss_cons (ps_set (i := 3) sc_law_read.nd rfl (.inl rfl) (pe_call (ok_law_count T) (hr.mono (by decide)) (by rfl) T.g_law_count T.F_law_count.kp T.b_law_count .nil pass0 (pa_cons (pe_slice C8.sl_txt (pv 0) (po_some pe_int) po_none) (pa_cons pe_int pa_nil))))
      (pss_one (ps_ret (pe_ifExp (pt_cmpR op_isN1 (pv 3) pe_non (nomark _)) pe_non (pe_tup (pa_cons pe_str (pa_cons (pv 3) pa_nil)))))))
      pss_nil)
      (pss_cons (ps_set (i := 3) sc_law_read.nd rfl (.inl rfl) (pe_call (ok_law_count T) (hr.mono (by decide)) (by rfl) T.g_law_count T.F_law_count.kp T.b_law_count .nil pass0 (pa_cons (pv 0) (pa_cons (pe_op op_pow pe_int pe_int) pa_nil))))
      (pss_one (ps_ret (pe_ifExp (pt_cmpR op_isN1 (pv 3) pe_non (nomark _)) pe_non (pe_tup (pa_cons pe_str (pa_cons (pv 3) pa_nil))))))))
      pss_nil)
      (pss_cons (ps_set (i := 4) sc_law_read.nd rfl (.inl rfl) (pe_call (ok_law_reference T) hr (by rfl) T.g_law_reference T.F_law_reference.kp T.b_law_reference .nil pass0 (pa_cons (pe_ix (r := rIxL K) ix_list (pv 2) (pe_op op_sub (pe_callB (id := "len") (r := rLen K) cr_len (by rfl) T.m_len PySem.boot_len (pa_cons (pv 2) pa_nil)) pe_int) (fun _ _ => rfl)) (pa_cons (pv 1) pa_nil))))
      (pss_cons (ps_set (i := 5) sc_law_read.nd rfl (.inl rfl) (pe_call (ok_law_reference T) hr (by rfl) T.g_law_reference T.F_law_reference.kp T.b_law_reference .nil pass0 (pa_cons (pe_ix (r := rIxL K) ix_list (pv 2) pe_int (fun _ _ => rfl)) (pa_cons (pv 1) pa_nil))))
      (pss_cons (ps_if (pt_cmpR op_isN1 (pv 4) pe_non (nomark _))
      (pss_one (ps_ret pe_non))
      pss_nil)
      (pss_cons (ps_if (PW.pt (pw_and (pt_cmpR op_eq (pe_callB (id := "len") (r := rLen K) cr_len (by rfl) T.m_len PySem.boot_len (pa_cons (pv 2) pa_nil)) pe_int (nomark _)) (pw_and (pt_cmpR op_eq (pe_ix (r := rIxL K) ix_list (pv 2) pe_int (fun _ _ => rfl)) pe_str (nomark _)) (pw_and1 (pt_cmpR op_ne (pe_slice C8.sl_txt (pe_ix (r := rIxL K) ix_list (pv 2) pe_int (fun _ _ => rfl)) po_none (po_some pe_int)) pe_str (nomark _))))))
      (pss_cons (ps_set (i := 3) sc_law_read.nd rfl (.inl rfl) (pe_call (ok_law_count T) (hr.mono (by decide)) (by rfl) T.g_law_count T.F_law_count.kp T.b_law_count .nil pass0 (pa_cons (pe_ix (r := rIxL K) ix_list (pv 2) pe_int (fun _ _ => rfl)) (pa_cons (pe_op op_pow pe_int pe_int) pa_nil))))
      (pss_one (ps_ret (pe_ifExp (pt_cmpR op_isN1 (pv 3) pe_non (nomark _)) pe_non (pe_tup (pa_cons pe_str (pa_cons (pv 3) (pa_cons (pv 4) pa_nil))))))))
      pss_nil)
      (pss_cons (ps_if (pt_cmpR op_isN1 (pv 5) pe_non (nomark _))
      (pss_one (ps_ret pe_non))
      pss_nil)
      (pss_cons (ps_if (PW.pt (pw_and (pt_cmpR op_eq (pe_callB (id := "len") (r := rLen K) cr_len (by rfl) T.m_len PySem.boot_len (pa_cons (pv 2) pa_nil)) pe_int (nomark _)) (pw_and1 (pt_cmpR op_eq (pe_ix (r := rIxL K) ix_list (pv 2) pe_int (fun _ _ => rfl)) pe_str (nomark _)))))
      (pss_one (ps_ret (pe_tup (pa_cons pe_str (pa_cons (pv 5) (pa_cons (pv 4) pa_nil))))))
      pss_nil)
      (pss_cons (ps_if (PW.pt (pw_and (pt_cmpR op_eq (pe_callB (id := "len") (r := rLen K) cr_len (by rfl) T.m_len PySem.boot_len (pa_cons (pv 2) pa_nil)) pe_int (nomark _)) (pw_and1 (pt_cmpR op_eq (pe_ix (r := rIxL K) ix_list (pv 2) pe_int (fun _ _ => rfl)) pe_str (nomark _)))))
      (pss_one (ps_ret (pe_tup (pa_cons pe_str (pa_cons (pv 5) (pa_cons (pv 4) pa_nil))))))
      pss_nil)
      (pss_cons (ps_if (PW.pt (pw_or (pt_cmpR op_ne (pe_callB (id := "len") (r := rLen K) cr_len (by rfl) T.m_len PySem.boot_len (pa_cons (pv 2) pa_nil)) pe_int (nomark _)) (pw_or (pt_cmpR op_ne (pe_ix (r := rIxL K) ix_list (pv 2) pe_int (fun _ _ => rfl)) pe_str (nomark _)) (pw_or1 (pt_cmpR op_ne (pe_ix (r := rIxL K) ix_list (pv 2) pe_int (fun _ _ => rfl)) pe_str (nomark _))))))
      (pss_one (ps_ret pe_non))
      pss_nil)
      (pss_cons (ps_set (i := 6) sc_law_read.nd rfl (.inl rfl) (pe_call (ok_law_reference T) hr (by rfl) T.g_law_reference T.F_law_reference.kp T.b_law_reference .nil pass0 (pa_cons (pe_ix (r := rIxL K) ix_list (pv 2) pe_int (fun _ _ => rfl)) (pa_cons (pv 1) pa_nil))))
      (pss_one (ps_ret (pe_ifExp (pt_cmpR op_isN1 (pv 6) pe_non (nomark _)) pe_non (pe_tup (pa_cons pe_str (pa_cons (pv 5) (pa_cons (pv 6) (pa_cons (pv 4) pa_nil))))))))))))))))))), ?_⟩
    walk_at "start"
    walk_at "x"
    refine x_tM1 ?_
    walk_at "x"
    refine ⟨⟨_, rfl⟩, ?_⟩
    walk_at "x"
    refine ⟨_, _, rfl, rfl, rfl, ?_, ?_⟩
    · rw [tS_len]; exact Nat.le_trans (Nat.add_le_add_right ht 2) (by decide)
    intro p hp
    have s1 := same_upd (o := .lst ((Txt.split (tS t) (Str.ofString " ")).map V.str)) hp
    have e1 : (upd H p (.lst ((Txt.split (tS t) (Str.ofString " ")).map V.str))) p = some (.lst ((Txt.split (tS t) (Str.ofString " ")).map V.str)) := upd_same
    generalize upd H p (.lst ((Txt.split (tS t) (Str.ofString " ")).map V.str)) = H1 at s1 e1
    rw [show Txt.split (tS t) (Str.ofString " ") = (TL.spl [32] 0 [] t).map tS from SX.split_S (b := [32]) (by decide) (by decide), List.map_map] at e1
    have hl := spl_part_len [32] t 0 []
    have hne := spl_ne [32] t 0 []
    have hone := @spl_one [32] t
    generalize TL.spl [32] 0 [] t = ws at q e1 hl hne hone
    have hl : ∀ p ∈ ws, p.length ≤ 100000 := fun p hp => by
      have := hl p hp
      have e : ([] : List Nat).length = 0 := rfl
      omega
    have q : ∀ v H', Same H1 H' → ResAt H' v (readW b ws) → Q v H' := fun v H' s => q v H' (s1.trans s)
    clear s1
    walk_at "x"
    refine x_len (sq_of e1) ?_
    walk_at "x"
    rw [List.length_map]
    refine x_ite (fun h1 => ?_) (fun h1 => ?_)
    · obtain ⟨w, rfl⟩ : ∃ w, ws = [w] := by
        match ws, h1 with
        | [w], _ => exact ⟨w, rfl⟩
        | [], h1 => exact absurd h1 (by decide)
        | _ :: _ :: _, h1 => simp at h1; omega
      obtain rfl := hone (by decide) (by decide) rfl
      clear hl hne hone
      have eN : nodeW [w] = leafD w := rfl
      walk_at "x"
      refine x_sl2 ?_
      walk_at "x"
      refine x_part0 ?_
      refine x_part1 ?_
      walk_at "x"
      refine ⟨_, rfl, ?_⟩
      refine ⟨_, rfl, hz, ?_⟩
      rw [SX.slice_to (by decide)]
      walk_at "x"
      refine x_Eq rfl ?_
      walk_at "x"
      rw [show decide (V.str (tS (w.take (1 : Int).toNat)) = V.str (Str.ofString "$")) = decide (w.head? = some 36) from take_eq]
      unfold leafD at eN
      refine x_ite (fun h2 => ?_) (fun h2 => ?_)
      · rw [if_pos h2] at eN
        unfold idxO at eN
        rw [if_pos h2] at eN
        walk_at "x"
        refine x_sl2 ?_
        walk_at "x"
        refine x_part1 ?_
        walk_at "x"
        refine ⟨_, rfl, x_part0 ?_⟩
        refine ⟨_, rfl, hz, ?_⟩
        rw [SX.slice_from (by decide)]
        walk_at "x"
        refine ⟨w.drop 1, 60, rfl, by rw [List.length_drop]; omega, ?_⟩
        walk_at "x"
        cases hc : countO 60 (w.drop 1) with
        | none =>
          have hr : readW b [w] = none := read_no (by rw [eN, sn1, if_neg (by decide), if_pos rfl]; exact count_no (by decide) hc)
          rw [hr] at q
          rw [decide_eq_true (show optV none = .non from rfl)]
          walk_at "t"
          exact q _ _ (Same.refl _) rfl
        | some n =>
          obtain ⟨c1, c2⟩ := count_yes (by decide) hc
          have hr : readW b [w] = some (.inp n) := read_yes (by rw [eN, c1]; rfl) c2
          rw [hr] at q
          rw [decide_eq_false (show ¬ optV (some n) = .non from fun z => by cases z)]
          walk_at "f"
          refine ⟨by show 2 ≤ sizeLine; decide, fun r hr => ?_⟩
          exact q _ _ (same_upd hr) ⟨r, rfl, upd_same⟩
      · rw [if_neg h2] at eN
        walk_at "x"
        refine ⟨w, 1000000000, by rw [show (10 ^ (9 : Int).toNat : Int) = ((1000000000 : Nat) : Int) by decide], by omega, ?_⟩
        walk_at "x"
        cases hc : countO 1000000000 w with
        | none =>
          have hr : readW b [w] = none := read_no (by rw [eN, sn1, if_pos rfl]; exact count_no (by decide) hc)
          rw [hr] at q
          rw [decide_eq_true (show optV none = .non from rfl)]
          walk_at "t"
          exact q _ _ (Same.refl _) rfl
        | some n =>
          obtain ⟨c1, c2⟩ := count_yes (by decide) hc
          have hr : readW b [w] = some (.con n) := read_yes (by rw [eN, c1]; rfl) c2
          rw [hr] at q
          rw [decide_eq_false (show ¬ optV (some n) = .non from fun z => by cases z)]
          walk_at "f"
          refine ⟨by show 2 ≤ sizeLine; decide, fun r hr => ?_⟩
          exact q _ _ (same_upd hr) ⟨r, rfl, upd_same⟩
    have h2 : 2 ≤ ws.length := by
      have : ws.length ≠ 0 := fun z => hne (List.length_eq_zero_iff.mp z)
      omega
    clear hne hone
    -- the last and the first word
    obtain ⟨wl, gl⟩ : ∃ w, ws[ws.length - 1]? = some w := ⟨_, List.getElem?_eq_getElem (by omega)⟩
    obtain ⟨wf, gf⟩ : ∃ w, ws[0]? = some w := ⟨_, List.getElem?_eq_getElem (by omega)⟩
    have ix : ∀ {k : Nat} {w : List Nat}, ws[k]? = some w → atI (ws.map (V.str ∘ tS)) (k : Int) = some (.str (tS w)) := fun {k w} h => atI_nat (by rw [List.getElem?_map, h]; rfl)
    walk_at "x"
    refine x_len (sq_of e1) ?_
    walk_at "x"
    rw [List.length_map, show ((ws.length : Int) - 1) = ((ws.length - 1 : Nat) : Int) by omega]
    refine x_ixL (v := .str (tS wl)) (sq_of e1) (ix gl) ?_
    walk_at "x"
    refine ⟨wl, b, rfl, hl wl (List.mem_of_getElem? gl), ?_⟩
    walk_at "x"
    refine x_ixL (v := .str (tS wf)) (sq_of e1) (ix (k := 0) gf) ?_
    walk_at "x"
    refine ⟨wf, b, rfl, hl wf (List.mem_of_getElem? gf), ?_⟩
    walk_at "x"
    rcases nodeW_cases h2 with ⟨a, c, rfl, eN⟩ | ⟨a, c, rfl, hh, eN⟩ | ⟨a, c, rfl, hh, eN⟩ | ⟨a, m, c, rfl, eN⟩ | ⟨eN, n1, n2, n3⟩
    · cases gl
      cases gf
      cases hL : refO b wl with
      | none =>
        have hr : readW b [wf, [43], wl] = none := read_no (by rw [eN, sn2, if_pos rfl, ref_no (by omega) hL, Bool.and_false])
        rw [hr] at q
        rw [decide_eq_true (show optV none = .non from rfl)]
        walk_at "t"
        exact q _ _ (Same.refl _) rfl
      | some nl =>
        obtain ⟨l1, l2, l3⟩ := ref_yes (by omega) hL
        rw [decide_eq_false (show ¬ optV (some nl) = .non from fun z => by cases z)]
        walk_at "f"
        refine x_len (sq_of e1) ?_
        walk_at "x"
        rw [show (((([wf, [43], wl] : List (List Nat)).map (V.str ∘ tS)).length : Nat) : Int) = 3 from rfl, decide_eq_true (show (3 : Int) = 3 from rfl)]
        walk_at "t"
        refine x_ixL (v := .str (tS [43])) (sq_of e1) (ix (k := 1) rfl) ?_
        walk_at "x"
        refine x_Eq rfl ?_
        walk_at "x"
        rw [decide_eq_false (show ¬ V.str (tS [43]) = V.str (Str.ofString "*") from neW (q := [42]) (by decide))]
        walk_at "x"
        walk_at "f"
        walk_at "f"
        cases hF : refO b wf with
        | none =>
          have hr : readW b [wf, [43], wl] = none := read_no (by rw [eN, sn2, if_pos rfl, ref_no (by omega) hF, Bool.false_and])
          rw [hr] at q
          rw [decide_eq_true (show optV none = .non from rfl)]
          walk_at "t"
          exact q _ _ (Same.refl _) rfl
        | some nf =>
          obtain ⟨f1, f2, f3⟩ := ref_yes (by omega) hF
          rw [decide_eq_false (show ¬ optV (some nf) = .non from fun z => by cases z)]
          walk_at "f"
          refine x_len (sq_of e1) ?_
          walk_at "x"
          rw [show (((([wf, [43], wl] : List (List Nat)).map (V.str ∘ tS)).length : Nat) : Int) = 3 from rfl, decide_eq_true (show (3 : Int) = 3 from rfl)]
          walk_at "t"
          refine x_ixL (v := .str (tS [43])) (sq_of e1) (ix (k := 1) rfl) ?_
          walk_at "x"
          refine x_Eq rfl ?_
          walk_at "x"
          rw [decide_eq_true (show V.str (tS [43]) = V.str (Str.ofString "+") from rfl)]
          walk_at "x"
          walk_at "t"
          have hr : readW b [wf, [43], wl] = some (.sum nf nl) := read_yes (by rw [eN, f1, l1]; rfl) ⟨f2, l2⟩
          rw [hr] at q
          refine ⟨by show 3 ≤ sizeLine; decide, fun r hr => ?_⟩
          exact q _ _ (same_upd hr) ⟨r, rfl, upd_same⟩
    · cases gl
      cases gf
      cases hL : refO b wl with
      | none =>
        have hr : readW b [wf, [42], wl] = none := read_no (by rw [eN, sn2, if_neg (by decide), if_pos rfl, ref_no (by omega) hL, Bool.and_false])
        rw [hr] at q
        rw [decide_eq_true (show optV none = .non from rfl)]
        walk_at "t"
        exact q _ _ (Same.refl _) rfl
      | some nl =>
        obtain ⟨l1, l2, l3⟩ := ref_yes (by omega) hL
        rw [decide_eq_false (show ¬ optV (some nl) = .non from fun z => by cases z)]
        walk_at "f"
        refine x_len (sq_of e1) ?_
        walk_at "x"
        rw [show (((([wf, [42], wl] : List (List Nat)).map (V.str ∘ tS)).length : Nat) : Int) = 3 from rfl, decide_eq_true (show (3 : Int) = 3 from rfl)]
        walk_at "t"
        refine x_ixL (v := .str (tS [42])) (sq_of e1) (ix (k := 1) rfl) ?_
        walk_at "x"
        refine x_Eq rfl ?_
        walk_at "x"
        rw [decide_eq_true (show V.str (tS [42]) = V.str (Str.ofString "*") from rfl)]
        walk_at "x"
        walk_at "t"
        refine x_sl2 ?_
        walk_at "x"
        refine x_ixL (v := .str (tS wf)) (sq_of e1) (ix (k := 0) rfl) ?_
        walk_at "x"
        refine x_part0 ?_
        refine x_part1 ?_
        walk_at "x"
        refine ⟨_, rfl, ?_⟩
        refine ⟨_, rfl, by rw [tS_len]; exact Nat.le_trans (hl wf (by simp)) (by decide), ?_⟩
        rw [SX.slice_to (by decide)]
        walk_at "x"
        refine x_Ne rfl ?_
        walk_at "x"
        rw [show decide (V.str (tS (wf.take (1 : Int).toNat)) = V.str (Str.ofString "#")) = decide (wf.head? = some 35) from take_eq]
        rw [decide_eq_true hh]
        walk_at "f"
        cases hF : refO b wf with
        | none =>
          have hr : readW b [wf, [42], wl] = none := read_no (by rw [eN, sn2, if_neg (by decide), if_pos rfl, ref_no (by omega) hF, Bool.false_and])
          rw [hr] at q
          rw [decide_eq_true (show optV none = .non from rfl)]
          walk_at "t"
          exact q _ _ (Same.refl _) rfl
        | some nf =>
          obtain ⟨f1, f2, f3⟩ := ref_yes (by omega) hF
          rw [decide_eq_false (show ¬ optV (some nf) = .non from fun z => by cases z)]
          walk_at "f"
          refine x_len (sq_of e1) ?_
          walk_at "x"
          rw [show (((([wf, [42], wl] : List (List Nat)).map (V.str ∘ tS)).length : Nat) : Int) = 3 from rfl, decide_eq_true (show (3 : Int) = 3 from rfl)]
          walk_at "t"
          refine x_ixL (v := .str (tS [42])) (sq_of e1) (ix (k := 1) rfl) ?_
          walk_at "x"
          refine x_Eq rfl ?_
          walk_at "x"
          rw [decide_eq_false (show ¬ V.str (tS [42]) = V.str (Str.ofString "+") from neW (q := [43]) (by decide))]
          walk_at "x"
          walk_at "f"
          refine x_len (sq_of e1) ?_
          walk_at "x"
          rw [show (((([wf, [42], wl] : List (List Nat)).map (V.str ∘ tS)).length : Nat) : Int) = 3 from rfl, decide_eq_true (show (3 : Int) = 3 from rfl)]
          walk_at "t"
          refine x_ixL (v := .str (tS [42])) (sq_of e1) (ix (k := 1) rfl) ?_
          walk_at "x"
          refine x_Eq rfl ?_
          walk_at "x"
          rw [decide_eq_true (show V.str (tS [42]) = V.str (Str.ofString "*") from rfl)]
          walk_at "x"
          walk_at "t"
          have hr : readW b [wf, [42], wl] = some (.prod nf nl) := read_yes (by rw [eN, f1, l1]; rfl) ⟨f2, l2⟩
          rw [hr] at q
          refine ⟨by show 3 ≤ sizeLine; decide, fun r hr => ?_⟩
          exact q _ _ (same_upd hr) ⟨r, rfl, upd_same⟩
    · cases gl
      cases gf
      cases hL : refO b wl with
      | none =>
        have hr : readW b [wf, [42], wl] = none := read_no (by rw [eN, sn2, if_neg (by decide), if_neg (by decide), if_pos rfl, ref_no (by omega) hL, Bool.and_false])
        rw [hr] at q
        rw [decide_eq_true (show optV none = .non from rfl)]
        walk_at "t"
        exact q _ _ (Same.refl _) rfl
      | some nl =>
        obtain ⟨l1, l2, l3⟩ := ref_yes (by omega) hL
        rw [decide_eq_false (show ¬ optV (some nl) = .non from fun z => by cases z)]
        walk_at "f"
        refine x_len (sq_of e1) ?_
        walk_at "x"
        rw [show (((([wf, [42], wl] : List (List Nat)).map (V.str ∘ tS)).length : Nat) : Int) = 3 from rfl, decide_eq_true (show (3 : Int) = 3 from rfl)]
        walk_at "t"
        refine x_ixL (v := .str (tS [42])) (sq_of e1) (ix (k := 1) rfl) ?_
        walk_at "x"
        refine x_Eq rfl ?_
        walk_at "x"
        rw [decide_eq_true (show V.str (tS [42]) = V.str (Str.ofString "*") from rfl)]
        walk_at "x"
        walk_at "t"
        refine x_sl2 ?_
        walk_at "x"
        refine x_ixL (v := .str (tS wf)) (sq_of e1) (ix (k := 0) rfl) ?_
        walk_at "x"
        refine x_part0 ?_
        refine x_part1 ?_
        walk_at "x"
        refine ⟨_, rfl, ?_⟩
        refine ⟨_, rfl, by rw [tS_len]; exact Nat.le_trans (hl wf (by simp)) (by decide), ?_⟩
        rw [SX.slice_to (by decide)]
        walk_at "x"
        refine x_Ne rfl ?_
        walk_at "x"
        rw [show decide (V.str (tS (wf.take (1 : Int).toNat)) = V.str (Str.ofString "#")) = decide (wf.head? = some 35) from take_eq]
        rw [decide_eq_false hh]
        walk_at "t"
        refine x_ixL (v := .str (tS wf)) (sq_of e1) (ix (k := 0) rfl) ?_
        walk_at "x"
        refine ⟨wf, 1000000000, by rw [show (10 ^ (9 : Int).toNat : Int) = ((1000000000 : Nat) : Int) by decide], hl wf (by simp), ?_⟩
        walk_at "x"
        cases hc : countO 1000000000 wf with
        | none =>
          have hr : readW b [wf, [42], wl] = none := read_no (by rw [eN, sn2, if_neg (by decide), if_neg (by decide), if_pos rfl, show isBD 1000000000 (optD (numO 9 wf)) = false from count_no (by decide) hc, Bool.false_and])
          rw [hr] at q
          rw [decide_eq_true (show optV none = .non from rfl)]
          walk_at "t"
          exact q _ _ (Same.refl _) rfl
        | some n =>
          obtain ⟨c1, c2⟩ := count_yes (by decide) hc
          have hr : readW b [wf, [42], wl] = some (.scl n nl) := read_yes (by rw [eN, c1, l1]; rfl) ⟨c2, l2⟩
          rw [hr] at q
          rw [decide_eq_false (show ¬ optV (some n) = .non from fun z => by cases z)]
          walk_at "f"
          refine ⟨by show 3 ≤ sizeLine; decide, fun r hr => ?_⟩
          exact q _ _ (same_upd hr) ⟨r, rfl, upd_same⟩
    · cases gl
      cases gf
      cases hL : refO b wl with
      | none =>
        have hr : readW b [wf, [63], m, [58], wl] = none := read_no (by rw [eN, sn3, if_pos rfl, ref_no (by omega) hL, Bool.and_false, Bool.and_false])
        rw [hr] at q
        rw [decide_eq_true (show optV none = .non from rfl)]
        walk_at "t"
        exact q _ _ (Same.refl _) rfl
      | some nl =>
        obtain ⟨l1, l2, l3⟩ := ref_yes (by omega) hL
        rw [decide_eq_false (show ¬ optV (some nl) = .non from fun z => by cases z)]
        walk_at "f"
        refine x_len (sq_of e1) ?_
        walk_at "x"
        rw [show (((([wf, [63], m, [58], wl] : List (List Nat)).map (V.str ∘ tS)).length : Nat) : Int) = 5 from rfl, decide_eq_false (show ¬ (5 : Int) = 3 by decide)]
        walk_at "f"
        walk_at "f"
        cases hF : refO b wf with
        | none =>
          have hr : readW b [wf, [63], m, [58], wl] = none := read_no (by rw [eN, sn3, if_pos rfl, ref_no (by omega) hF, Bool.false_and])
          rw [hr] at q
          rw [decide_eq_true (show optV none = .non from rfl)]
          walk_at "t"
          exact q _ _ (Same.refl _) rfl
        | some nf =>
          obtain ⟨f1, f2, f3⟩ := ref_yes (by omega) hF
          rw [decide_eq_false (show ¬ optV (some nf) = .non from fun z => by cases z)]
          walk_at "f"
          refine x_len (sq_of e1) ?_
          walk_at "x"
          rw [show (((([wf, [63], m, [58], wl] : List (List Nat)).map (V.str ∘ tS)).length : Nat) : Int) = 5 from rfl, decide_eq_false (show ¬ (5 : Int) = 3 by decide)]
          walk_at "f"
          walk_at "f"
          refine x_len (sq_of e1) ?_
          walk_at "x"
          rw [show (((([wf, [63], m, [58], wl] : List (List Nat)).map (V.str ∘ tS)).length : Nat) : Int) = 5 from rfl, decide_eq_false (show ¬ (5 : Int) = 3 by decide)]
          walk_at "f"
          walk_at "f"
          refine x_len (sq_of e1) ?_
          walk_at "x"
          rw [show (((([wf, [63], m, [58], wl]) : List (List Nat)).map (V.str ∘ tS)).length : Int) = 5 from rfl, decide_eq_true (show (5 : Int) = 5 from rfl)]
          walk_at "x"
          walk_at "f"
          refine x_ixL (v := .str (tS [63])) (sq_of e1) (ix (k := 1) rfl) ?_
          walk_at "x"
          refine x_Ne rfl ?_
          walk_at "x"
          rw [decide_eq_true (show V.str (tS [63]) = V.str (Str.ofString "?") from rfl)]
          walk_at "x"
          walk_at "f"
          refine x_ixL (v := .str (tS [58])) (sq_of e1) (ix (k := 3) rfl) ?_
          walk_at "x"
          refine x_Ne rfl ?_
          walk_at "x"
          rw [decide_eq_true (show V.str (tS [58]) = V.str (Str.ofString ":") from rfl)]
          walk_at "x"
          walk_at "f"
          refine x_ixL (v := .str (tS m)) (sq_of e1) (ix (k := 2) rfl) ?_
          walk_at "x"
          refine ⟨m, b, rfl, hl m (by simp), ?_⟩
          walk_at "x"
          cases hM : refO b m with
          | none =>
            have hr : readW b [wf, [63], m, [58], wl] = none := read_no (by rw [eN, sn3, if_pos rfl, ref_no (by omega) hM, Bool.false_and, Bool.and_false])
            rw [hr] at q
            rw [decide_eq_true (show optV none = .non from rfl)]
            walk_at "t"
            exact q _ _ (Same.refl _) rfl
          | some nm =>
            obtain ⟨m1, m2, m3⟩ := ref_yes (by omega) hM
            have hr : readW b [wf, [63], m, [58], wl] = some (.cho nf nm nl) := read_yes (by rw [eN, f1, m1, l1]; rfl) ⟨f2, m2, l2⟩
            rw [hr] at q
            rw [decide_eq_false (show ¬ optV (some nm) = .non from fun z => by cases z)]
            walk_at "f"
            refine ⟨by show 4 ≤ sizeLine; decide, fun r hr => ?_⟩
            exact q _ _ (same_upd hr) ⟨r, rfl, upd_same⟩
    · have hr : readW b ws = none := read_no (by rw [eN]; rfl)
      rw [hr] at q
      have fin : Q .non H1 := q _ _ (Same.refl _) rfl
      cases refO b wl with
      | none =>
        rw [decide_eq_true (show optV none = .non from rfl)]
        walk_at "t"
        exact fin
      | some nl =>
        rw [decide_eq_false (show ¬ optV (some nl) = .non from fun z => by cases z)]
        walk_at "f"
        by_cases h3 : ws.length = 3
        · obtain ⟨a, x, c, rfl⟩ : ∃ a x c, ws = [a, x, c] := by
            match ws, h3 with
            | [a, x, c], _ => exact ⟨a, x, c, rfl⟩
          have x43 : x ≠ [43] := fun z => n1 a c (by rw [z])
          have x42 : x ≠ [42] := fun z => n2 a c (by rw [z])
          refine x_len (sq_of e1) ?_
          walk_at "x"
          rw [show (((([a, x, c] : List (List Nat)).map (V.str ∘ tS)).length : Nat) : Int) = 3 from rfl, decide_eq_true (show (3 : Int) = 3 from rfl)]
          walk_at "x"
          walk_at "t"
          refine x_ixL (v := .str (tS x)) (sq_of e1) (ix (k := 1) rfl) ?_
          walk_at "x"
          refine x_Eq rfl ?_
          walk_at "x"
          rw [decide_eq_false (show ¬ V.str (tS x) = V.str (Str.ofString "*") from neW (q := [42]) x42)]
          walk_at "x"
          walk_at "f"
          walk_at "f"
          cases refO b wf with
          | none =>
            rw [decide_eq_true (show optV none = .non from rfl)]
            walk_at "t"
            exact fin
          | some nf =>
            rw [decide_eq_false (show ¬ optV (some nf) = .non from fun z => by cases z)]
            walk_at "f"
            refine x_len (sq_of e1) ?_
            walk_at "x"
            rw [show (((([a, x, c] : List (List Nat)).map (V.str ∘ tS)).length : Nat) : Int) = 3 from rfl, decide_eq_true (show (3 : Int) = 3 from rfl)]
            walk_at "x"
            walk_at "t"
            refine x_ixL (v := .str (tS x)) (sq_of e1) (ix (k := 1) rfl) ?_
            walk_at "x"
            refine x_Eq rfl ?_
            walk_at "x"
            rw [decide_eq_false (show ¬ V.str (tS x) = V.str (Str.ofString "+") from neW (q := [43]) x43)]
            walk_at "x"
            walk_at "f"
            refine x_len (sq_of e1) ?_
            walk_at "x"
            rw [show (((([a, x, c] : List (List Nat)).map (V.str ∘ tS)).length : Nat) : Int) = 3 from rfl, decide_eq_true (show (3 : Int) = 3 from rfl)]
            walk_at "x"
            walk_at "t"
            refine x_ixL (v := .str (tS x)) (sq_of e1) (ix (k := 1) rfl) ?_
            walk_at "x"
            refine x_Eq rfl ?_
            walk_at "x"
            rw [decide_eq_false (show ¬ V.str (tS x) = V.str (Str.ofString "*") from neW (q := [42]) x42)]
            walk_at "x"
            walk_at "f"
            refine x_len (sq_of e1) ?_
            walk_at "x"
            rw [show (((([a, x, c] : List (List Nat)).map (V.str ∘ tS)).length : Nat) : Int) = 3 from rfl, decide_eq_false (show ¬ (3 : Int) = 5 by decide)]
            walk_at "x"
            walk_at "t"
            walk_at "t"
            exact fin
        · refine x_len (sq_of e1) ?_
          walk_at "x"
          rw [List.length_map, decide_eq_false (show ¬ ((ws.length : Nat) : Int) = 3 by omega)]
          walk_at "x"
          walk_at "f"
          walk_at "f"
          cases refO b wf with
          | none =>
            rw [decide_eq_true (show optV none = .non from rfl)]
            walk_at "t"
            exact fin
          | some nf =>
            rw [decide_eq_false (show ¬ optV (some nf) = .non from fun z => by cases z)]
            walk_at "f"
            refine x_len (sq_of e1) ?_
            walk_at "x"
            rw [List.length_map, decide_eq_false (show ¬ ((ws.length : Nat) : Int) = 3 by omega)]
            walk_at "x"
            walk_at "f"
            walk_at "f"
            refine x_len (sq_of e1) ?_
            walk_at "x"
            rw [List.length_map, decide_eq_false (show ¬ ((ws.length : Nat) : Int) = 3 by omega)]
            walk_at "x"
            walk_at "f"
            walk_at "f"
            by_cases h5 : ws.length = 5
            · obtain ⟨a, x, m, y, c, rfl⟩ : ∃ a x m y c, ws = [a, x, m, y, c] := by
                match ws, h5 with
                | [a, x, m, y, c], _ => exact ⟨a, x, m, y, c, rfl⟩
              refine x_len (sq_of e1) ?_
              walk_at "x"
              rw [show (((([a, x, m, y, c] : List (List Nat)).map (V.str ∘ tS)).length : Nat) : Int) = 5 from rfl, decide_eq_true (show (5 : Int) = 5 from rfl)]
              walk_at "x"
              walk_at "f"
              by_cases x63 : x = [63]
              · have y58 : y ≠ [58] := fun z => n3 a m c (by rw [x63, z])
                refine x_ixL (v := .str (tS x)) (sq_of e1) (ix (k := 1) rfl) ?_
                walk_at "x"
                refine x_Ne rfl ?_
                walk_at "x"
                rw [decide_eq_true (show V.str (tS x) = V.str (Str.ofString "?") by rw [x63]; rfl)]
                walk_at "x"
                walk_at "f"
                refine x_ixL (v := .str (tS y)) (sq_of e1) (ix (k := 3) rfl) ?_
                walk_at "x"
                refine x_Ne rfl ?_
                walk_at "x"
                rw [decide_eq_false (show ¬ V.str (tS y) = V.str (Str.ofString ":") from neW (q := [58]) y58)]
                walk_at "x"
                walk_at "t"
                exact fin
              · refine x_ixL (v := .str (tS x)) (sq_of e1) (ix (k := 1) rfl) ?_
                walk_at "x"
                refine x_Ne rfl ?_
                walk_at "x"
                rw [decide_eq_false (show ¬ V.str (tS x) = V.str (Str.ofString "?") from neW (q := [63]) x63)]
                walk_at "x"
                walk_at "t"
                walk_at "t"
                exact fin
            · refine x_len (sq_of e1) ?_
              walk_at "x"
              rw [List.length_map, decide_eq_false (show ¬ ((ws.length : Nat) : Int) = 5 by omega)]
              walk_at "x"
              walk_at "t"
              walk_at "t"
              exact fin


def sp_law_parsed (K : PySem.W.Frag) : Sp := fun vs H Q _ => ∃ (t : List Nat), vs = [.str (tS t)] ∧ t.length ≤ 100000 ∧ (sourceD (parseD t) = false → ∀ H', Same H H' → Q .non H') ∧ (∀ (ns : List SN) r H', parseD t = .tuple (ns.map snD) → SsOk ns → Same H H' → (∀ d, DAt d H' (.ref r) (.tuple (ns.map snD))) → Q (.ref r) H')
theorem x_forPre14 {K : PySem.W.Frag} {σ : L2.St} {H : Hp} {D : Ends} {ta : TE} {g : TG} {tb : TS} (h : ta σ H fun v H1 => tFor (iList K (tC v)) g tb D σ H1) : tFor (iList K ta) g tb D σ H := h
theorem ok_law_parsed (T : Txt K mg) : FnOk P w K mg base CX0 4 T.a_law_parsed T.fd_law_parsed ["text"] (sp_law_parsed K) := by
  refine T.F_law_parsed.ok sc_law_parsed (fun vs H Q E h => ?_) (fun cdv A outer s H vs Q E hr h => ?_)
  · obtain ⟨t, rfl, _⟩ := h
    rfl
  · obtain ⟨t, rfl, ht, hno, hyes⟩ := h
    refine ⟨_, (pss_cons (ps_set (i := 1) sc_law_parsed.nd rfl (.inl rfl) (pe_lst pa_nil))
      (pss_cons (ps_for PassesOwn.never rfl (pi_list (pe_split (pv 0) pe_str)) (pg_name (i := 2) sc_law_parsed.nd rfl (Or.inl rfl))
      (pss_cons (ps_set (i := 3) sc_law_parsed.nd rfl (.inl rfl) (pe_call (ok_law_read T) hr (by rfl) T.g_law_read T.F_law_read.kp T.b_law_read .nil pass0 (pa_cons (pv 2) (pa_cons (pe_callB (id := "len") (r := rLen K) cr_len (by rfl) T.m_len PySem.boot_len (pa_cons (pv 1) pa_nil)) pa_nil))))
      (pss_cons (ps_if (PW.pt (pw_or (pt_cmpR op_isN1 (pv 3) pe_non (nomark _)) (pw_or1 (pt_cmpR op_eq (pe_callB (id := "len") (r := rLen K) cr_len (by rfl) T.m_len PySem.boot_len (pa_cons (pv 1) pa_nil)) pe_int (nomark _)))))
      (pss_one (ps_ret pe_non))
      pss_nil)
      (pss_one (ps_expr (pe_bm PySem.F.plainAttrs_list PySem.F.slot_list_append PySem.F.type_list_append mt_append (pv 1) (pa_cons (pv 3) pa_nil)))))))
      (pss_one (ps_ret (pe_callTy (T := "tuple") (r := rTupOf K) cr_tup_of (by rfl) T.m_tuple (by decide +kernel) (pa_cons (pv 1) pa_nil)))))), ?_⟩
    walk_at "start"
    walk_at "x"
    refine ⟨by show 0 ≤ sizeLine; decide, fun o ho => ?_⟩
    have s0 := same_upd (o := .lst []) ho
    have e0 : (upd H o (.lst [])) o = some (.lst (([] : List Addr).map V.ref)) := upd_same
    generalize upd H o (.lst []) = H0 at s0 e0
    walk_at "x"
    refine x_forPre14 ?_
    refine x_tM1 ?_
    walk_at "x"
    refine ⟨⟨_, rfl⟩, ?_⟩
    walk_at "x"
    refine ⟨_, _, rfl, rfl, rfl, ?_, ?_⟩
    · rw [tS_len]; exact Nat.le_trans (Nat.add_le_add_right ht 2) (by decide)
    intro p hp
    have hpo : p ≠ o := fun z => by rw [z, e0] at hp; cases hp
    have s1 := same_upd (o := .lst ((Txt.split (tS t) (Str.ofString "; ")).map V.str)) hp
    have e1 : (upd H0 p (.lst ((Txt.split (tS t) (Str.ofString "; ")).map V.str))) p = some (.lst ((Txt.split (tS t) (Str.ofString "; ")).map V.str)) := upd_same
    have e0 := s1 _ _ e0
    generalize upd H0 p (.lst ((Txt.split (tS t) (Str.ofString "; ")).map V.str)) = H1 at s1 e1 e0
    rw [show Txt.split (tS t) (Str.ofString "; ") = (TL.spl [59, 32] 0 [] t).map tS from SX.split_S (b := [59, 32]) (by decide) (by decide), List.map_map] at e1
    have hl := spl_part_len [59, 32] t 0 []
    have hn := spl_len [59, 32] t 0 []
    have hne := spl_ne [59, 32] t 0 []
    unfold parseD at hno hyes
    generalize TL.spl [59, 32] 0 [] t = ps at hno hyes e1 hl hn hne
    have hl : ∀ p ∈ ps, p.length ≤ 100000 := fun p hp => by
      have := hl p hp
      have e : ([] : List Nat).length = 0 := rfl
      omega
    have s01 : Same H H1 := s0.trans s1
    -- a part that is no node, or too many: no source
    have bad : ∀ (k : Nat) (w : List Nat), ps[k]? = some w → readW k (TL.spl [32] 0 [] w) = none ∨ k = 200 → sourceD (.tuple (ps.map nodeT)) = false := fun k w hw hk => by
      rw [← Bool.not_eq_true]
      intro z
      obtain ⟨ns, e, ok⟩ := sourceD_iff.mp z
      have e := PyData.tuple.inj e
      have h1 : (ps.map nodeT)[k]? = some (nodeT w) := by rw [List.getElem?_map, hw]; rfl
      rw [e, List.getElem?_map] at h1
      cases hn2 : ns[k]? with
      | none => rw [hn2] at h1; cases h1
      | some n =>
        rw [hn2] at h1
        have h1 : snD n = nodeT w := Option.some.inj h1
        rcases hk with hk | rfl
        · rw [read_yes (n := n) h1.symm (ok.ok k n hn2)] at hk; cases hk
        · have := (List.getElem?_eq_some_iff.mp hn2).1
          have := ok.l2
          omega
    refine x_forL (p := p) (ps.map (V.str ∘ tS)) (fun k σ' H' => Same H H' ∧ H' p = some (.lst (ps.map (V.str ∘ tS))) ∧ ∃ (as : List Addr) (ns : List SN) (v2 v3 : Option V), σ' = [some (V.str (tS t)), some (.ref o), v2, v3] ∧ H' o = some (.lst (as.map V.ref)) ∧ as.length = k ∧ ns.length = k ∧ k ≤ 200 ∧ (∀ (i : Nat) n a, ns[i]? = some n → as[i]? = some a → H' a = some (.tup (snV n))) ∧ (∀ i n, ns[i]? = some n → SnOk i n) ∧ (ps.take k).map nodeT = ns.map snD) (fun R r => r) (sq_of e1) ⟨s01, e1, [], [], _, _, rfl, e0, rfl, rfl, by decide, fun i n a h _ => by simp at h, fun i n h => by simp at h, rfl⟩ (fun k σ' H' _ z => sq_of z.2.1) ?_ ?_
    · rintro k x σ' H2 hx ⟨s2, hP, as, ns, v2, v3, rfl, hO, hal, hnl, k200, hat, hok, hmap⟩
      obtain ⟨w, hw, rfl⟩ : ∃ w, ps[k]? = some w ∧ x = .str (tS w) := by
        rw [List.getElem?_map] at hx
        cases e : ps[k]? with
        | none => rw [e] at hx; cases hx
        | some w => rw [e] at hx; exact ⟨w, rfl, (Option.some.inj hx).symm⟩
      walk_at "x"
      refine x_len (sq_of hO) ?_
      walk_at "x"
      rw [List.length_map, hal]
      refine ⟨w, k, rfl, hl w (List.mem_of_getElem? hw), by omega, fun v H3 s3 hv => ?_⟩
      have hO3 := s3 _ _ hO
      walk_at "x"
      cases hr : readW k (TL.spl [32] 0 [] w) with
      | none =>
        rw [hr] at hv
        obtain rfl : v = .non := hv
        rw [decide_eq_true (show V.non = .non from rfl)]
        walk_at "x"
        walk_at "t"
        walk_at "t"
        exact hno (bad k w hw (.inl hr)) H3 (s2.trans s3)
      | some n =>
        rw [hr] at hv
        obtain ⟨a, rfl, ha⟩ := hv
        rw [decide_eq_false (show ¬ V.ref a = .non from fun z => by cases z)]
        walk_at "x"
        walk_at "f"
        refine x_len (sq_of hO3) ?_
        walk_at "x"
        rw [List.length_map, hal]
        refine x_ite (fun h2 => ?_) (fun h2 => ?_)
        · walk_at "x"
          exact hno (bad k w hw (.inr (by omega))) H3 (s2.trans s3)
        · obtain ⟨r1, r2⟩ := read_some hr
          walk_at "x"
          refine x_tyL hO3 ?_
          walk_at "x"
          refine x_app hO3 (by rw [List.length_map]; omega) ?_
          have nt : ∀ {b : Addr} {xs : List V}, H3 b = some (.tup xs) → (upd H3 o (.lst (as.map V.ref ++ [V.ref a]))) b = some (.tup xs) := fun {b xs} h => by rw [upd_ne (ne_of h hO3 (by intro z; cases z))]; exact h
          refine ⟨sput (s2.trans s3) ho, by rw [upd_ne hpo]; exact s3 _ _ hP, as ++ [a], ns ++ [n], _, _, rfl, by rw [upd_same, List.map_append]; rfl, by rw [List.length_append, hal]; rfl, by rw [List.length_append, hnl]; rfl, by omega, fun i m b h1 h2 => ?_, fun i m h1 => ?_, ?_⟩
          · rcases snoc_at hnl h1 with ⟨g1, h1⟩ | ⟨g1, rfl⟩
            · rcases snoc_at hal h2 with ⟨g2, h2⟩ | ⟨g2, rfl⟩
              · exact nt (s3 _ _ (hat i m b h1 h2))
              · omega
            · rcases snoc_at hal h2 with ⟨g2, h2⟩ | ⟨g2, rfl⟩
              · omega
              · exact nt ha
          · rcases snoc_at hnl h1 with ⟨g1, h1⟩ | ⟨g1, rfl⟩
            · exact hok i m h1
            · rw [g1]; exact r2
          · rw [take_snocG hw, List.map_append, List.map_append, hmap]
            show _ ++ [nodeT w] = _ ++ [snD n]
            rw [show nodeT w = snD n from r1]
    · rintro σ' H2 ⟨s2, hP, as, ns, v2, v3, rfl, hO, hal, hnl, k200, hat, hok, hmap⟩
      rw [List.length_map, List.take_length] at hmap
      rw [List.length_map] at hal hnl k200
      walk_at "x"
      refine x_tupL (sq_of hO) fun r hr => ?_
      have s3 := same_upd (o := .tup (as.map V.ref)) hr
      refine hyes ns r _ (by rw [hmap]) ⟨?_, by omega, hok⟩ (s2.trans s3) fun d => .tup upd_same (sns_dats (by omega) fun i n a h1 h2 => s3 _ _ (hat i n a h1 h2))
      have : ps.length ≠ 0 := fun z => hne (List.length_eq_zero_iff.mp z)
      omega


end
end Br
namespace Br
open PySem PySem.Spec PyProof.Rows L2
local macro_rules | `(tactic| walk_at "x1") => `(tactic| (with_reducible first
  | refine Br.x_seq ?_ | refine Br.x_set ?_ | refine Br.x_asg ?_ | refine Br.x_next ?_ | refine Br.x_ret ?_ | refine Br.x_retN ?_ | refine Br.x_drop ?_ | refine Br.x_if ?_ | refine Br.x_brk ?_ | refine Br.x_cont ?_
  | refine Br.x_c ?_ | refine Br.x_op ?_ | refine Br.x_un ?_ | refine Br.x_I0 ?_ | refine Br.x_U ?_ | refine Br.x_EqI ?_ | refine Br.x_NeI ?_ | refine Br.x_EqB ?_ | refine Br.x_iN ?_ | refine Br.x_int1 ?_ | refine Br.x_min2 ?_ | refine Br.x_max2 ?_ | refine Br.x_nN ?_ | refine Br.x_ifE ?_
  | refine Br.x_test (b := ()) ?_ | refine Br.x_tB ?_ | refine Br.x_bl ?_ | refine Br.x_and ?_ | refine Br.x_or ?_ | refine Br.x_not ?_ | refine Br.x_andV ?_ | refine Br.x_orV ?_ | refine Br.x_notV ?_ | refine Br.x_blP ?_
  | refine Br.x_nil ?_ | refine Br.x_cons ?_ | refine Br.x_call ?_ | refine Br.x_CB ?_ | refine Br.x_BM ?_ | refine Br.x_tup ?_ | refine Br.x_lst ?_ | refine Br.x_chain ?_ | refine Br.x_par ?_ | refine Br.x_gSub ?_ | refine Br.x_gName ?_ | refine Br.x_fld ?_ | refine Br.x_fldS ?_ | refine Br.x_match ?_ | refine Br.x_else ?_ | refine Br.x_noCase ?_))
local macro_rules | `(tactic| walk_at "xv") => `(tactic| ((with_reducible refine' Br.x_var ?hvar ?_); (case hvar => rfl)))
local macro_rules | `(tactic| walk_at "xd") => `(tactic| (dsimp only [List.set_cons_zero, List.set_cons_succ, List.cons_append, List.nil_append, List.append_nil]))
local macro_rules | `(tactic| walk_at "xi") => `(tactic| ((with_reducible refine Br.x_I ?hside ?_); (case hside => first | exact Br.mul_r (by decide) (by decide) | exact Br.mul_l (by decide) (by decide) | exact Br.mul_l (by omega) (by omega) | exact Br.mul_r (by omega) (by omega) | (show (0 : Int) < _; first | decide | omega) | exact ⟨by decide, by decide⟩ | exact ⟨by omega, by omega⟩ | exact ⟨by decide, by decide, by decide⟩)))
local macro_rules | `(tactic| walk_at "x") => `(tactic| (repeat (first | walk_at "x1" | walk_at "xv" | walk_at "xi" | walk_at "xd")))
local macro_rules | `(tactic| walk_at "start") => `(tactic| (simp only [L2.start, List.map_cons, List.map_nil, List.length_cons, List.length_nil, Nat.reduceAdd, Nat.reduceSub, List.replicate, List.cons_append, List.nil_append, List.append_nil]))
local macro_rules | `(tactic| walk_at "isi") => `(tactic| first
  | refine Br.x_isi (b := true) (.base (.int _)) (by decide +kernel) ?_ | refine Br.x_isi (b := false) (.base (.int _)) (by decide +kernel) ?_
  | refine Br.x_isi (b := true) (.base (.bl _)) (by decide +kernel) ?_ | refine Br.x_isi (b := false) (.base (.bl _)) (by decide +kernel) ?_
  | refine Br.x_isi (b := false) (.base .non) (by decide +kernel) ?_
  | refine Br.x_isi (b := true) (.base (.str _)) (by decide +kernel) ?_ | refine Br.x_isi (b := false) (.base (.str _)) (by decide +kernel) ?_
  | refine Br.x_isi (b := true) (.base (.tup (by assumption))) (by decide +kernel) ?_ | refine Br.x_isi (b := false) (.base (.tup (by assumption))) (by decide +kernel) ?_
  | refine Br.x_isi (b := true) (.base (.lst (by assumption))) (by decide +kernel) ?_ | refine Br.x_isi (b := false) (.base (.lst (by assumption))) (by decide +kernel) ?_)
local macro_rules | `(tactic| walk_at "f") => `(tactic| (refine L2.iteF ?_; walk_at "x"))
local macro_rules | `(tactic| walk_at "t") => `(tactic| (refine L2.iteT ?_; walk_at "x"))
local macro_rules | `(tactic| walk_at "is") => `(tactic| (walk_at "isi"; walk_at "x"))
local macro_rules | `(tactic| walk_at "xb") => `(tactic| (simp only [Br.bindS, List.set_cons_zero, List.set_cons_succ]; walk_at "x"))

section
variable {P : Program} {w : World} {K : PySem.W.Frag} {mg : Str → Option Value} {base : Heap}

open Br

def sp_law_written (K : PySem.W.Frag) : Sp := fun vs H Q _ => ∃ (a : Addr) (n : SN) (m : Nat), vs = [.ref a] ∧ H a = some (.tup (snV n)) ∧ SnOk m n ∧ m ≤ 1000000000 ∧ Q (.str (tS (textN n))) H
theorem ok_law_written (T : Txt K mg) : FnOk P w K mg base CX0 1 T.a_law_written T.fd_law_written ["node"] (sp_law_written K) := by
  refine T.F_law_written.ok sc_law_written (fun vs H Q E h => ?_) (fun cdv A outer s H vs Q E hr h => ?_)
  · obtain ⟨a, n, m, rfl, _⟩ := h
    rfl
  · obtain ⟨a, n, m, rfl, ha, ok, hm, q⟩ := h
    refine ⟨_, (pss_cons (ps_if (pt_cmpR op_eq (pe_ix (r := rIxT K) ix_tup (pv 0) pe_int (fun _ _ => rfl)) pe_str (nomark _))
      (pss_one (ps_ret (pe_callTy (T := "str") call_str_int (by rfl) T.m_str (by decide +kernel) (pa_cons (pe_ix (r := rIxT K) ix_tup (pv 0) pe_int (fun _ _ => rfl)) pa_nil))))
      pss_nil)
      (pss_cons (ps_if (pt_cmpR op_eq (pe_ix (r := rIxT K) ix_tup (pv 0) pe_int (fun _ _ => rfl)) pe_str (nomark _))
      (pss_one (ps_ret (pe_op op_add_str pe_str (pe_callTy (T := "str") call_str_int (by rfl) T.m_str (by decide +kernel) (pa_cons (pe_ix (r := rIxT K) ix_tup (pv 0) pe_int (fun _ _ => rfl)) pa_nil)))))
      pss_nil)
      (pss_cons (ps_if (pt_cmpR op_eq (pe_ix (r := rIxT K) ix_tup (pv 0) pe_int (fun _ _ => rfl)) pe_str (nomark _))
      (pss_one (ps_ret (pe_op op_add_str (pe_op op_add_str (pe_op op_add_str pe_str (pe_callTy (T := "str") call_str_int (by rfl) T.m_str (by decide +kernel) (pa_cons (pe_ix (r := rIxT K) ix_tup (pv 0) pe_int (fun _ _ => rfl)) pa_nil))) pe_str) (pe_callTy (T := "str") call_str_int (by rfl) T.m_str (by decide +kernel) (pa_cons (pe_ix (r := rIxT K) ix_tup (pv 0) pe_int (fun _ _ => rfl)) pa_nil)))))
      pss_nil)
      (pss_cons (ps_if (pt_cmpR op_eq (pe_ix (r := rIxT K) ix_tup (pv 0) pe_int (fun _ _ => rfl)) pe_str (nomark _))
      (pss_one (ps_ret (pe_op op_add_str (pe_op op_add_str (pe_op op_add_str pe_str (pe_callTy (T := "str") call_str_int (by rfl) T.m_str (by decide +kernel) (pa_cons (pe_ix (r := rIxT K) ix_tup (pv 0) pe_int (fun _ _ => rfl)) pa_nil))) pe_str) (pe_callTy (T := "str") call_str_int (by rfl) T.m_str (by decide +kernel) (pa_cons (pe_ix (r := rIxT K) ix_tup (pv 0) pe_int (fun _ _ => rfl)) pa_nil)))))
      pss_nil)
      (pss_cons (ps_if (pt_cmpR op_eq (pe_ix (r := rIxT K) ix_tup (pv 0) pe_int (fun _ _ => rfl)) pe_str (nomark _))
      (pss_one (ps_ret (pe_op op_add_str (pe_op op_add_str (pe_callTy (T := "str") call_str_int (by rfl) T.m_str (by decide +kernel) (pa_cons (pe_ix (r := rIxT K) ix_tup (pv 0) pe_int (fun _ _ => rfl)) pa_nil)) pe_str) (pe_callTy (T := "str") call_str_int (by rfl) T.m_str (by decide +kernel) (pa_cons (pe_ix (r := rIxT K) ix_tup (pv 0) pe_int (fun _ _ => rfl)) pa_nil)))))
      pss_nil)
      (pss_one (ps_ret (pe_op op_add_str (pe_op op_add_str (pe_op op_add_str (pe_op op_add_str (pe_op op_add_str pe_str (pe_callTy (T := "str") call_str_int (by rfl) T.m_str (by decide +kernel) (pa_cons (pe_ix (r := rIxT K) ix_tup (pv 0) pe_int (fun _ _ => rfl)) pa_nil))) pe_str) (pe_callTy (T := "str") call_str_int (by rfl) T.m_str (by decide +kernel) (pa_cons (pe_ix (r := rIxT K) ix_tup (pv 0) pe_int (fun _ _ => rfl)) pa_nil))) pe_str) (pe_callTy (T := "str") call_str_int (by rfl) T.m_str (by decide +kernel) (pa_cons (pe_ix (r := rIxT K) ix_tup (pv 0) pe_int (fun _ _ => rfl)) pa_nil)))))))))), ?_⟩
    walk_at "start"
    walk_at "x"
    cases n with
    | con c =>
      have ha : H a = some (.tup [.str "const", .int (c : Int)]) := ha
      refine x_ixT (v := .str "const") (st_of ha) (atI_nat (j := 0) rfl) ?_
      walk_at "x"
      refine x_Eq rfl ?_
      walk_at "x"
      rw [decide_eq_true rfl]
      walk_at "t"
      refine x_ixT (v := .int (c : Int)) (st_of ha) (atI_nat (j := 1) rfl) ?_
      walk_at "x"
      exact x_strN ok q
    | inp c =>
      have ha : H a = some (.tup [.str "input", .int (c : Int)]) := ha
      have ok : c < 60 := ok
      have l1 := numL_len9 (n := c) (by omega)
      refine x_ixT (v := .str "input") (st_of ha) (atI_nat (j := 0) rfl) ?_
      walk_at "x"
      refine x_Eq rfl ?_
      walk_at "x"
      rw [decide_eq_false (by decide : ¬ (V.str "input" = V.str "const"))]
      walk_at "f"
      refine x_ixT (v := .str "input") (st_of ha) (atI_nat (j := 0) rfl) ?_
      walk_at "x"
      refine x_Eq rfl ?_
      walk_at "x"
      rw [decide_eq_true rfl]
      walk_at "t"
      refine x_ixT (v := .int (c : Int)) (st_of ha) (atI_nat (j := 1) rfl) ?_
      walk_at "x"
      refine ⟨_, rfl, log_n9 (by omega), ?_⟩
      rw [num_tS]
      walk_at "x"
      refine ⟨_, _, rfl, rfl, len_tS2 (x := Str.ofString "$") (y := tS (TL.numL c)) (a := [36]) (b := TL.numL c) rfl rfl (by first | decide | (simp only [List.length_append, List.length_cons, List.length_nil]; omega)), ?_⟩
      rw [add_tS (x := Str.ofString "$") (y := tS (TL.numL c)) (a := [36]) (b := TL.numL c) rfl rfl]
      walk_at "x"
      exact q
    | sum i j =>
      have ha : H a = some (.tup [.str "sum", .int (i : Int), .int (j : Int)]) := ha
      have ok : i < m ∧ j < m := ok
      have l1 := numL_len9 (n := i) (by omega)
      have l2 := numL_len9 (n := j) (by omega)
      refine x_ixT (v := .str "sum") (st_of ha) (atI_nat (j := 0) rfl) ?_
      walk_at "x"
      refine x_Eq rfl ?_
      walk_at "x"
      rw [decide_eq_false (by decide : ¬ (V.str "sum" = V.str "const"))]
      walk_at "f"
      refine x_ixT (v := .str "sum") (st_of ha) (atI_nat (j := 0) rfl) ?_
      walk_at "x"
      refine x_Eq rfl ?_
      walk_at "x"
      rw [decide_eq_false (by decide : ¬ (V.str "sum" = V.str "input"))]
      walk_at "f"
      refine x_ixT (v := .str "sum") (st_of ha) (atI_nat (j := 0) rfl) ?_
      walk_at "x"
      refine x_Eq rfl ?_
      walk_at "x"
      rw [decide_eq_true rfl]
      walk_at "t"
      refine x_ixT (v := .int (i : Int)) (st_of ha) (atI_nat (j := 1) rfl) ?_
      walk_at "x"
      refine ⟨_, rfl, log_n9 (by omega), ?_⟩
      rw [num_tS]
      walk_at "x"
      refine ⟨_, _, rfl, rfl, len_tS2 (x := Str.ofString "#") (y := tS (TL.numL i)) (a := [35]) (b := TL.numL i) rfl rfl (by first | decide | (simp only [List.length_append, List.length_cons, List.length_nil]; omega)), ?_⟩
      rw [add_tS (x := Str.ofString "#") (y := tS (TL.numL i)) (a := [35]) (b := TL.numL i) rfl rfl]
      walk_at "x"
      refine ⟨_, _, rfl, rfl, len_tS2 (x := tS (35 :: TL.numL i)) (y := Str.ofString " + #") (a := 35 :: TL.numL i) (b := [32, 43, 32, 35]) rfl rfl (by first | decide | (simp only [List.length_append, List.length_cons, List.length_nil]; omega)), ?_⟩
      rw [add_tS (x := tS (35 :: TL.numL i)) (y := Str.ofString " + #") (a := 35 :: TL.numL i) (b := [32, 43, 32, 35]) rfl rfl]
      walk_at "x"
      refine x_ixT (v := .int (j : Int)) (st_of ha) (atI_nat (j := 2) rfl) ?_
      walk_at "x"
      refine ⟨_, rfl, log_n9 (by omega), ?_⟩
      rw [num_tS]
      walk_at "x"
      refine ⟨_, _, rfl, rfl, len_tS2 (x := tS (35 :: (TL.numL i ++ [32, 43, 32, 35]))) (y := tS (TL.numL j)) (a := 35 :: (TL.numL i ++ [32, 43, 32, 35])) (b := TL.numL j) rfl rfl (by first | decide | (simp only [List.length_append, List.length_cons, List.length_nil]; omega)), ?_⟩
      rw [add_tS (x := tS (35 :: (TL.numL i ++ [32, 43, 32, 35]))) (y := tS (TL.numL j)) (a := 35 :: (TL.numL i ++ [32, 43, 32, 35])) (b := TL.numL j) rfl rfl]
      walk_at "x"
      rw [show textN (.sum i j) = 35 :: (TL.numL i ++ [32, 43, 32, 35] ++ TL.numL j) by simp [textN, wordsN, TL.joinL, idxN]] at q
      exact q
    | prod i j =>
      have ha : H a = some (.tup [.str "product", .int (i : Int), .int (j : Int)]) := ha
      have ok : i < m ∧ j < m := ok
      have l1 := numL_len9 (n := i) (by omega)
      have l2 := numL_len9 (n := j) (by omega)
      refine x_ixT (v := .str "product") (st_of ha) (atI_nat (j := 0) rfl) ?_
      walk_at "x"
      refine x_Eq rfl ?_
      walk_at "x"
      rw [decide_eq_false (by decide : ¬ (V.str "product" = V.str "const"))]
      walk_at "f"
      refine x_ixT (v := .str "product") (st_of ha) (atI_nat (j := 0) rfl) ?_
      walk_at "x"
      refine x_Eq rfl ?_
      walk_at "x"
      rw [decide_eq_false (by decide : ¬ (V.str "product" = V.str "input"))]
      walk_at "f"
      refine x_ixT (v := .str "product") (st_of ha) (atI_nat (j := 0) rfl) ?_
      walk_at "x"
      refine x_Eq rfl ?_
      walk_at "x"
      rw [decide_eq_false (by decide : ¬ (V.str "product" = V.str "sum"))]
      walk_at "f"
      refine x_ixT (v := .str "product") (st_of ha) (atI_nat (j := 0) rfl) ?_
      walk_at "x"
      refine x_Eq rfl ?_
      walk_at "x"
      rw [decide_eq_true rfl]
      walk_at "t"
      refine x_ixT (v := .int (i : Int)) (st_of ha) (atI_nat (j := 1) rfl) ?_
      walk_at "x"
      refine ⟨_, rfl, log_n9 (by omega), ?_⟩
      rw [num_tS]
      walk_at "x"
      refine ⟨_, _, rfl, rfl, len_tS2 (x := Str.ofString "#") (y := tS (TL.numL i)) (a := [35]) (b := TL.numL i) rfl rfl (by first | decide | (simp only [List.length_append, List.length_cons, List.length_nil]; omega)), ?_⟩
      rw [add_tS (x := Str.ofString "#") (y := tS (TL.numL i)) (a := [35]) (b := TL.numL i) rfl rfl]
      walk_at "x"
      refine ⟨_, _, rfl, rfl, len_tS2 (x := tS (35 :: TL.numL i)) (y := Str.ofString " * #") (a := 35 :: TL.numL i) (b := [32, 42, 32, 35]) rfl rfl (by first | decide | (simp only [List.length_append, List.length_cons, List.length_nil]; omega)), ?_⟩
      rw [add_tS (x := tS (35 :: TL.numL i)) (y := Str.ofString " * #") (a := 35 :: TL.numL i) (b := [32, 42, 32, 35]) rfl rfl]
      walk_at "x"
      refine x_ixT (v := .int (j : Int)) (st_of ha) (atI_nat (j := 2) rfl) ?_
      walk_at "x"
      refine ⟨_, rfl, log_n9 (by omega), ?_⟩
      rw [num_tS]
      walk_at "x"
      refine ⟨_, _, rfl, rfl, len_tS2 (x := tS (35 :: (TL.numL i ++ [32, 42, 32, 35]))) (y := tS (TL.numL j)) (a := 35 :: (TL.numL i ++ [32, 42, 32, 35])) (b := TL.numL j) rfl rfl (by first | decide | (simp only [List.length_append, List.length_cons, List.length_nil]; omega)), ?_⟩
      rw [add_tS (x := tS (35 :: (TL.numL i ++ [32, 42, 32, 35]))) (y := tS (TL.numL j)) (a := 35 :: (TL.numL i ++ [32, 42, 32, 35])) (b := TL.numL j) rfl rfl]
      walk_at "x"
      rw [show textN (.prod i j) = 35 :: (TL.numL i ++ [32, 42, 32, 35] ++ TL.numL j) by simp [textN, wordsN, TL.joinL, idxN]] at q
      exact q
    | scl c i =>
      have ha : H a = some (.tup [.str "scaled", .int (c : Int), .int (i : Int)]) := ha
      have ok : c < 1000000000 ∧ i < m := ok
      have l1 := numL_len9 (n := c) ok.1
      have l2 := numL_len9 (n := i) (by omega)
      refine x_ixT (v := .str "scaled") (st_of ha) (atI_nat (j := 0) rfl) ?_
      walk_at "x"
      refine x_Eq rfl ?_
      walk_at "x"
      rw [decide_eq_false (by decide : ¬ (V.str "scaled" = V.str "const"))]
      walk_at "f"
      refine x_ixT (v := .str "scaled") (st_of ha) (atI_nat (j := 0) rfl) ?_
      walk_at "x"
      refine x_Eq rfl ?_
      walk_at "x"
      rw [decide_eq_false (by decide : ¬ (V.str "scaled" = V.str "input"))]
      walk_at "f"
      refine x_ixT (v := .str "scaled") (st_of ha) (atI_nat (j := 0) rfl) ?_
      walk_at "x"
      refine x_Eq rfl ?_
      walk_at "x"
      rw [decide_eq_false (by decide : ¬ (V.str "scaled" = V.str "sum"))]
      walk_at "f"
      refine x_ixT (v := .str "scaled") (st_of ha) (atI_nat (j := 0) rfl) ?_
      walk_at "x"
      refine x_Eq rfl ?_
      walk_at "x"
      rw [decide_eq_false (by decide : ¬ (V.str "scaled" = V.str "product"))]
      walk_at "f"
      refine x_ixT (v := .str "scaled") (st_of ha) (atI_nat (j := 0) rfl) ?_
      walk_at "x"
      refine x_Eq rfl ?_
      walk_at "x"
      rw [decide_eq_true rfl]
      walk_at "t"
      refine x_ixT (v := .int (c : Int)) (st_of ha) (atI_nat (j := 1) rfl) ?_
      walk_at "x"
      refine ⟨_, rfl, log_n9 ok.1, ?_⟩
      rw [num_tS]
      walk_at "x"
      refine ⟨_, _, rfl, rfl, len_tS2 (x := tS (TL.numL c)) (y := Str.ofString " * #") (a := TL.numL c) (b := [32, 42, 32, 35]) rfl rfl (by first | decide | (simp only [List.length_append, List.length_cons, List.length_nil]; omega)), ?_⟩
      rw [add_tS (x := tS (TL.numL c)) (y := Str.ofString " * #") (a := TL.numL c) (b := [32, 42, 32, 35]) rfl rfl]
      walk_at "x"
      refine x_ixT (v := .int (i : Int)) (st_of ha) (atI_nat (j := 2) rfl) ?_
      walk_at "x"
      refine ⟨_, rfl, log_n9 (by omega), ?_⟩
      rw [num_tS]
      walk_at "x"
      refine ⟨_, _, rfl, rfl, len_tS2 (x := tS (TL.numL c ++ [32, 42, 32, 35])) (y := tS (TL.numL i)) (a := TL.numL c ++ [32, 42, 32, 35]) (b := TL.numL i) rfl rfl (by first | decide | (simp only [List.length_append, List.length_cons, List.length_nil]; omega)), ?_⟩
      rw [add_tS (x := tS (TL.numL c ++ [32, 42, 32, 35])) (y := tS (TL.numL i)) (a := TL.numL c ++ [32, 42, 32, 35]) (b := TL.numL i) rfl rfl]
      walk_at "x"
      rw [show textN (.scl c i) = TL.numL c ++ [32, 42, 32, 35] ++ TL.numL i by simp [textN, wordsN, TL.joinL, idxN]] at q
      exact q
    | cho i j l =>
      have ha : H a = some (.tup [.str "choose", .int (i : Int), .int (j : Int), .int (l : Int)]) := ha
      have ok : i < m ∧ j < m ∧ l < m := ok
      have l1 := numL_len9 (n := i) (by omega)
      have l2 := numL_len9 (n := j) (by omega)
      have l3 := numL_len9 (n := l) (by omega)
      refine x_ixT (v := .str "choose") (st_of ha) (atI_nat (j := 0) rfl) ?_
      walk_at "x"
      refine x_Eq rfl ?_
      walk_at "x"
      rw [decide_eq_false (by decide : ¬ (V.str "choose" = V.str "const"))]
      walk_at "f"
      refine x_ixT (v := .str "choose") (st_of ha) (atI_nat (j := 0) rfl) ?_
      walk_at "x"
      refine x_Eq rfl ?_
      walk_at "x"
      rw [decide_eq_false (by decide : ¬ (V.str "choose" = V.str "input"))]
      walk_at "f"
      refine x_ixT (v := .str "choose") (st_of ha) (atI_nat (j := 0) rfl) ?_
      walk_at "x"
      refine x_Eq rfl ?_
      walk_at "x"
      rw [decide_eq_false (by decide : ¬ (V.str "choose" = V.str "sum"))]
      walk_at "f"
      refine x_ixT (v := .str "choose") (st_of ha) (atI_nat (j := 0) rfl) ?_
      walk_at "x"
      refine x_Eq rfl ?_
      walk_at "x"
      rw [decide_eq_false (by decide : ¬ (V.str "choose" = V.str "product"))]
      walk_at "f"
      refine x_ixT (v := .str "choose") (st_of ha) (atI_nat (j := 0) rfl) ?_
      walk_at "x"
      refine x_Eq rfl ?_
      walk_at "x"
      rw [decide_eq_false (by decide : ¬ (V.str "choose" = V.str "scaled"))]
      walk_at "f"
      refine x_ixT (v := .int (i : Int)) (st_of ha) (atI_nat (j := 1) rfl) ?_
      walk_at "x"
      refine ⟨_, rfl, log_n9 (by omega), ?_⟩
      rw [num_tS]
      walk_at "x"
      refine ⟨_, _, rfl, rfl, len_tS2 (x := Str.ofString "#") (y := tS (TL.numL i)) (a := [35]) (b := TL.numL i) rfl rfl (by first | decide | (simp only [List.length_append, List.length_cons, List.length_nil]; omega)), ?_⟩
      rw [add_tS (x := Str.ofString "#") (y := tS (TL.numL i)) (a := [35]) (b := TL.numL i) rfl rfl]
      walk_at "x"
      refine ⟨_, _, rfl, rfl, len_tS2 (x := tS (35 :: TL.numL i)) (y := Str.ofString " ? #") (a := 35 :: TL.numL i) (b := [32, 63, 32, 35]) rfl rfl (by first | decide | (simp only [List.length_append, List.length_cons, List.length_nil]; omega)), ?_⟩
      rw [add_tS (x := tS (35 :: TL.numL i)) (y := Str.ofString " ? #") (a := 35 :: TL.numL i) (b := [32, 63, 32, 35]) rfl rfl]
      walk_at "x"
      refine x_ixT (v := .int (j : Int)) (st_of ha) (atI_nat (j := 2) rfl) ?_
      walk_at "x"
      refine ⟨_, rfl, log_n9 (by omega), ?_⟩
      rw [num_tS]
      walk_at "x"
      refine ⟨_, _, rfl, rfl, len_tS2 (x := tS (35 :: (TL.numL i ++ [32, 63, 32, 35]))) (y := tS (TL.numL j)) (a := 35 :: (TL.numL i ++ [32, 63, 32, 35])) (b := TL.numL j) rfl rfl (by first | decide | (simp only [List.length_append, List.length_cons, List.length_nil]; omega)), ?_⟩
      rw [add_tS (x := tS (35 :: (TL.numL i ++ [32, 63, 32, 35]))) (y := tS (TL.numL j)) (a := 35 :: (TL.numL i ++ [32, 63, 32, 35])) (b := TL.numL j) rfl rfl]
      walk_at "x"
      refine ⟨_, _, rfl, rfl, len_tS2 (x := tS (35 :: (TL.numL i ++ [32, 63, 32, 35] ++ TL.numL j))) (y := Str.ofString " : #") (a := 35 :: (TL.numL i ++ [32, 63, 32, 35] ++ TL.numL j)) (b := [32, 58, 32, 35]) rfl rfl (by first | decide | (simp only [List.length_append, List.length_cons, List.length_nil]; omega)), ?_⟩
      rw [add_tS (x := tS (35 :: (TL.numL i ++ [32, 63, 32, 35] ++ TL.numL j))) (y := Str.ofString " : #") (a := 35 :: (TL.numL i ++ [32, 63, 32, 35] ++ TL.numL j)) (b := [32, 58, 32, 35]) rfl rfl]
      walk_at "x"
      refine x_ixT (v := .int (l : Int)) (st_of ha) (atI_nat (j := 3) rfl) ?_
      walk_at "x"
      refine ⟨_, rfl, log_n9 (by omega), ?_⟩
      rw [num_tS]
      walk_at "x"
      refine ⟨_, _, rfl, rfl, len_tS2 (x := tS (35 :: (TL.numL i ++ [32, 63, 32, 35] ++ TL.numL j ++ [32, 58, 32, 35]))) (y := tS (TL.numL l)) (a := 35 :: (TL.numL i ++ [32, 63, 32, 35] ++ TL.numL j ++ [32, 58, 32, 35])) (b := TL.numL l) rfl rfl (by first | decide | (simp only [List.length_append, List.length_cons, List.length_nil]; omega)), ?_⟩
      rw [add_tS (x := tS (35 :: (TL.numL i ++ [32, 63, 32, 35] ++ TL.numL j ++ [32, 58, 32, 35]))) (y := tS (TL.numL l)) (a := 35 :: (TL.numL i ++ [32, 63, 32, 35] ++ TL.numL j ++ [32, 58, 32, 35])) (b := TL.numL l) rfl rfl]
      walk_at "x"
      rw [show textN (.cho i j l) = 35 :: (TL.numL i ++ [32, 63, 32, 35] ++ TL.numL j ++ [32, 58, 32, 35] ++ TL.numL l) by simp [textN, wordsN, TL.joinL, idxN]] at q
      exact q



theorem atI_lt {α : Type} {xs : List α} {i : Int} (h0 : 0 ≤ i) (h1 : i < (xs.length : Int)) : ∃ v, atI xs i = some v := by
  obtain ⟨j, rfl⟩ : ∃ j : Nat, i = (j : Int) := ⟨i.toNat, by omega⟩
  have hj : j < xs.length := by omega
  exact ⟨xs[j], atI_nat (List.getElem?_eq_getElem hj)⟩
/-- texts of moderate length -/
def StrsOk (xs : List V) : Prop := ∀ v ∈ xs, ∃ w : List Nat, v = .str (tS w) ∧ w.length ≤ 30000
theorem StrsOk.nil : StrsOk [] := fun v h => by cases h
theorem StrsOk.cons {x : Str} {xs : List V} (h : x.length ≤ 30000) (hs : StrsOk xs) : StrsOk (.str x :: xs) := fun v hv => (List.mem_cons.mp hv).elim (fun e => ⟨TL.tl x, by rw [e, tS_tl], by rw [← TL.len_tl]; exact h⟩) (hs v)
theorem StrsOk.app {xs ys : List V} (h1 : StrsOk xs) (h2 : StrsOk ys) : StrsOk (xs ++ ys) := fun v hv => (List.mem_append.mp hv).elim (h1 v) (h2 v)
theorem lstS_of {xs : List V} {H : Hp} {Q : VK} {k : Nat} (hl : xs.length = k) (hk : k ≤ 1000) (ok : StrsOk xs) (h : ∀ p H' ys, Same H H' → H p = none → H' p = some (.lst ys) → StrsOk ys → ys.length = k → Q (.ref p) H') : xs.length ≤ sizeLine ∧ ∀ p, H p = none → Q (.ref p) (upd H p (.lst xs)) :=
  ⟨Nat.le_trans (by omega : xs.length ≤ 1000) (by decide), fun p hp => h p _ xs (same_upd hp) hp upd_same ok hl⟩

def sp_law_spoilt (K : PySem.W.Frag) : Sp := fun vs H Q _ => ∃ (d n : Addr) (t : List Nat), vs = [.ref d, .str (tS t)] ∧ t.length ≤ 20000 ∧ Dr H d n ∧ RetD d n (fun v => ∃ w : List Nat, v = .str (tS w) ∧ w.length ≤ 30000) H Q
theorem ok_law_spoilt (T : Txt K mg) : FnOk P w K mg base CX0 3 T.a_law_spoilt T.fd_law_spoilt ["draws", "text"] (sp_law_spoilt K) := by
  refine T.F_law_spoilt.ok sc_law_spoilt (fun vs H Q E h => ?_) (fun cdv A outer s H vs Q E hr h => ?_)
  · obtain ⟨d, n, t, rfl, _⟩ := h
    rfl
  · obtain ⟨d, n, t, rfl, ht, hD, q⟩ := h
    have hz : (tS t).length ≤ sizeLine := by rw [tS_len]; exact Nat.le_trans ht (by decide)
    refine ⟨_, (pss_cons (ps_set (i := 2) sc_law_spoilt.nd rfl (.inl rfl) pe_str)
      (pss_cons (ps_set (i := 3) sc_law_spoilt.nd rfl (.inl rfl) (pe_op op_mod (pe_call (ok_law_draw T) hr (by rfl) T.g_law_draw T.F_law_draw.kp T.b_law_draw .nil pass0 (pa_cons (pv 0) pa_nil)) (pe_op op_add (pe_callB (id := "len") call_len_str (by rfl) T.m_len PySem.boot_len (pa_cons (pv 1) pa_nil)) pe_int)))
      (pss_cons (ps_set (i := 4) sc_law_spoilt.nd rfl (.inl rfl) (pe_ix (r := rIxS) ix_str (pv 2) (pe_op op_mod (pe_call (ok_law_draw T) hr (by rfl) T.g_law_draw T.F_law_draw.kp T.b_law_draw .nil pass0 (pa_cons (pv 0) pa_nil)) pe_int) (fun _ _ => rfl)))
      (pss_cons (ps_set (i := 5) sc_law_spoilt.nd rfl (.inl rfl) (pe_op op_mod (pe_call (ok_law_draw T) hr (by rfl) T.g_law_draw T.F_law_draw.kp T.b_law_draw .nil pass0 (pa_cons (pv 0) pa_nil)) pe_int))
      (pss_cons (ps_if (pt_cmpR op_eq (pv 5) pe_int (nomark _))
      (pss_one (ps_ret (pe_op op_add_str (pe_op op_add_str (pe_slice C8.sl_txt (pv 1) po_none (po_some (pv 3))) (pv 4)) (pe_slice C8.sl_txt (pv 1) (po_some (pv 3)) po_none))))
      pss_nil)
      (pss_cons (ps_if (pt_cmpR op_eq (pv 5) pe_int (nomark _))
      (pss_one (ps_ret (pe_op op_add_str (pe_op op_add_str (pe_slice C8.sl_txt (pv 1) po_none (po_some (pv 3))) (pv 4)) (pe_slice C8.sl_txt (pv 1) (po_some (pe_op op_add (pv 3) pe_int)) po_none))))
      pss_nil)
      (pss_one (ps_ret (pe_op op_add_str (pe_slice C8.sl_txt (pv 1) po_none (po_some (pv 3))) (pe_slice C8.sl_txt (pv 1) (po_some (pe_op op_add (pv 3) pe_int)) po_none)))))))))), ?_⟩
    walk_at "start"
    walk_at "x"
    refine ⟨d, n, rfl, hD, ?_⟩
    rintro _ H1 ⟨z, rfl, z0, z1⟩ hD1 k1
    walk_at "x"
    refine ⟨_, rfl, hz, ?_⟩
    rw [tS_len]
    walk_at "x"
    obtain ⟨a, ea, ha⟩ : ∃ a : Nat, z % ((t.length : Int) + 1) = (a : Int) ∧ a ≤ t.length := by
      have h0 := Int.emod_nonneg z (show (t.length : Int) + 1 ≠ 0 by omega)
      have h1 := Int.emod_lt_of_pos z (show (0 : Int) < (t.length : Int) + 1 by omega)
      exact ⟨(z % ((t.length : Int) + 1)).toNat, by omega, by omega⟩
    rw [ea]
    refine ⟨d, n, rfl, hD1, ?_⟩
    rintro _ H2 ⟨y, rfl, y0, y1⟩ hD2 k2
    have k2 := k1.trans k2
    walk_at "x"
    obtain ⟨c, hc⟩ := atI_lt (xs := (Str.ofString "0123456789#$+*?:; -ax_,.\n\t").cps.toList) (i := y % 26) (Int.emod_nonneg _ (by decide)) (Int.emod_lt_of_pos y (show (0 : Int) < 26 by decide))
    refine ⟨_, _, c, rfl, rfl, by decide, hc, ?_⟩
    walk_at "x"
    refine ⟨d, n, rfl, hD2, ?_⟩
    rintro _ H3 ⟨x, rfl, x0, x1⟩ hD3 k3
    have k3 := k2.trans k3
    have lt1 : (t.take a).length ≤ t.length := by rw [List.length_take]; omega
    have ld1 : (t.drop a).length ≤ t.length := by rw [List.length_drop]; omega
    have ld2 : (t.drop (a + 1)).length ≤ t.length := by rw [List.length_drop]; omega
    have sto : Txt.slice (tS t) none (some (a : Int)) = tS (t.take a) := by rw [SX.slice_to (by omega), Int.toNat_natCast]
    have sfr : Txt.slice (tS t) (some (a : Int)) none = tS (t.drop a) := by rw [SX.slice_from (by omega), Int.toNat_natCast]
    have sf1 : Txt.slice (tS t) (some ((a : Int) + 1)) none = tS (t.drop (a + 1)) := by rw [show (a : Int) + 1 = ((a + 1 : Nat) : Int) by omega, SX.slice_from (by omega), Int.toNat_natCast]
    have to : ∀ {R : VK}, R (.str (tS (t.take a))) H3 → C8.rSlX (.str (tS t)) none (some (a : Int)) H3 R := fun r => ⟨_, rfl, hz, by rw [sto]; exact r⟩
    have fr : ∀ {R : VK}, R (.str (tS (t.drop a))) H3 → C8.rSlX (.str (tS t)) (some (a : Int)) none H3 R := fun r => ⟨_, rfl, hz, by rw [sfr]; exact r⟩
    have f1 : ∀ {R : VK}, R (.str (tS (t.drop (a + 1)))) H3 → C8.rSlX (.str (tS t)) (some ((a : Int) + 1)) none H3 R := fun r => ⟨_, rfl, hz, by rw [sf1]; exact r⟩
    walk_at "x"
    refine x_ite (fun h0 => ?_) (fun h0 => ?_)
    · walk_at "x"
      refine x_sl2 ?_
      walk_at "x"
      refine x_part0 (x_part1 ?_)
      walk_at "x"
      refine ⟨_, rfl, to ?_⟩
      walk_at "x"
      refine ⟨_, _, rfl, rfl, len_tS2 (a := t.take a) (b := [c]) rfl rfl (by show _ + 1 ≤ 1000000; omega), ?_⟩
      rw [show tS (t.take a) ++ ({ cps := #[c] } : Str) = tS (t.take a ++ [c]) from add_tS rfl rfl]
      refine x_sl2 ?_
      walk_at "x"
      refine x_part1 ?_
      walk_at "x"
      refine ⟨_, rfl, x_part0 (fr ?_)⟩
      refine ⟨_, _, rfl, rfl, len_tS2 (a := t.take a ++ [c]) (b := t.drop a) rfl rfl (by rw [List.length_append]; show _ + 1 + _ ≤ 1000000; omega), ?_⟩
      rw [add_tS (x := tS (t.take a ++ [c])) (y := tS (t.drop a)) rfl rfl]
      exact q _ _ ⟨_, rfl, by rw [List.length_append, List.length_append]; show _ + 1 + _ ≤ 30000; rw [List.length_take, List.length_drop]; omega⟩ hD3 k3
    walk_at "x"
    refine x_ite (fun h1 => ?_) (fun h1 => ?_)
    · walk_at "x"
      refine x_sl2 ?_
      walk_at "x"
      refine x_part0 (x_part1 ?_)
      walk_at "x"
      refine ⟨_, rfl, to ?_⟩
      walk_at "x"
      refine ⟨_, _, rfl, rfl, len_tS2 (a := t.take a) (b := [c]) rfl rfl (by show _ + 1 ≤ 1000000; omega), ?_⟩
      rw [show tS (t.take a) ++ ({ cps := #[c] } : Str) = tS (t.take a ++ [c]) from add_tS rfl rfl]
      refine x_sl2 ?_
      walk_at "x"
      refine x_part1 ?_
      walk_at "x"
      refine ⟨_, rfl, x_part0 (f1 ?_)⟩
      refine ⟨_, _, rfl, rfl, len_tS2 (a := t.take a ++ [c]) (b := t.drop (a + 1)) rfl rfl (by rw [List.length_append]; show _ + 1 + _ ≤ 1000000; omega), ?_⟩
      rw [add_tS (x := tS (t.take a ++ [c])) (y := tS (t.drop (a + 1))) rfl rfl]
      exact q _ _ ⟨_, rfl, by rw [List.length_append, List.length_append]; show _ + 1 + _ ≤ 30000; rw [List.length_take, List.length_drop]; omega⟩ hD3 k3
    walk_at "x"
    refine x_sl2 ?_
    walk_at "x"
    refine x_part0 (x_part1 ?_)
    walk_at "x"
    refine ⟨_, rfl, to ?_⟩
    refine x_sl2 ?_
    walk_at "x"
    refine x_part1 ?_
    walk_at "x"
    refine ⟨_, rfl, x_part0 (f1 ?_)⟩
    refine ⟨_, _, rfl, rfl, len_tS2 (a := t.take a) (b := t.drop (a + 1)) rfl rfl (by omega), ?_⟩
    rw [add_tS (x := tS (t.take a)) (y := tS (t.drop (a + 1))) rfl rfl]
    exact q _ _ ⟨_, rfl, by rw [List.length_append, List.length_take, List.length_drop]; omega⟩ hD3 k3


def sp_law_by_hand (K : PySem.W.Frag) : Sp := fun vs H Q _ => ∃ (d n : Addr), vs = [.ref d] ∧ Dr H d n ∧ RetD d n (fun v => ∃ w : List Nat, v = .str (tS w) ∧ w.length ≤ 30000) H Q
theorem ok_law_by_hand (T : Txt K mg) : FnOk P w K mg base CX0 3 T.a_law_by_hand T.fd_law_by_hand ["draws"] (sp_law_by_hand K) := by
  refine T.F_law_by_hand.ok sc_law_by_hand (fun vs H Q E h => ?_) (fun cdv A outer s H vs Q E hr h => ?_)
  · obtain ⟨d, n, rfl, _⟩ := h
    rfl
  · obtain ⟨d, n, rfl, hD, q⟩ := h
    refine ⟨_, (pss_cons (ps_set (i := 1) sc_law_by_hand.nd rfl (.inl rfl) (pe_lst (pa_cons pe_str (pa_cons pe_str (pa_cons pe_str (pa_cons pe_str (pa_cons pe_str (pa_cons pe_str (pa_cons pe_str (pa_cons pe_str (pa_cons pe_str (pa_cons pe_str (pa_cons pe_str (pa_cons pe_str (pa_cons pe_str (pa_cons pe_str pa_nil))))))))))))))))
      (pss_cons (ps_set (i := 1) sc_law_by_hand.nd rfl (.inl rfl) (pe_op op_cat (pv 1) (pe_lst (pa_cons pe_str (pa_cons pe_str (pa_cons pe_str (pa_cons pe_str (pa_cons pe_str (pa_cons pe_str (pa_cons pe_str (pa_cons pe_str (pa_cons pe_str pa_nil))))))))))))
      (pss_cons (ps_set (i := 1) sc_law_by_hand.nd rfl (.inl rfl) (pe_op op_cat (pv 1) (pe_lst (pa_cons pe_str (pa_cons pe_str (pa_cons pe_str (pa_cons pe_str (pa_cons pe_str (pa_cons pe_str (pa_cons pe_str (pa_cons pe_str pa_nil)))))))))))
      (pss_cons (ps_set (i := 1) sc_law_by_hand.nd rfl (.inl rfl) (pe_op op_cat (pv 1) (pe_lst (pa_cons pe_str (pa_cons pe_str (pa_cons pe_str (pa_cons pe_str (pa_cons pe_str (pa_cons (pe_join pe_str (pe_op op_rep (pe_lst (pa_cons pe_str pa_nil)) (pe_op op_add pe_int (pe_op op_mod (pe_call (ok_law_draw T) hr (by rfl) T.g_law_draw T.F_law_draw.kp T.b_law_draw .nil pass0 (pa_cons (pv 0) pa_nil)) pe_int)))) pa_nil)))))))))
      (pss_one (ps_ret (pe_ix (r := rIxL K) ix_list (pv 1) (pe_op op_mod (pe_call (ok_law_draw T) hr (by rfl) T.g_law_draw T.F_law_draw.kp T.b_law_draw .nil pass0 (pa_cons (pv 0) pa_nil)) pe_int) (fun _ _ => rfl)))))))), ?_⟩
    have l0 : ∀ x : Str, decide (x.length ≤ 30000) = true → x.length ≤ 30000 := fun x h => of_decide_eq_true h
    walk_at "start"
    walk_at "x"
    refine ⟨by show 14 ≤ sizeLine; decide, fun p1 hp1 => ?_⟩
    have s1 := same_upd (o := .lst [V.str "", V.str " ", V.str "0", V.str "00", V.str "-1", V.str "+1", V.str "1000000000", V.str "999999999", V.str "$60", V.str "$59", V.str "$", V.str "$00", V.str "#0", V.str "#0 + #0"]) hp1
    have e1 : (upd H p1 (.lst [V.str "", V.str " ", V.str "0", V.str "00", V.str "-1", V.str "+1", V.str "1000000000", V.str "999999999", V.str "$60", V.str "$59", V.str "$", V.str "$00", V.str "#0", V.str "#0 + #0"])) p1 = some (.lst [V.str "", V.str " ", V.str "0", V.str "00", V.str "-1", V.str "+1", V.str "1000000000", V.str "999999999", V.str "$60", V.str "$59", V.str "$", V.str "$00", V.str "#0", V.str "#0 + #0"]) := upd_same
    have o1 : StrsOk [V.str "", V.str " ", V.str "0", V.str "00", V.str "-1", V.str "+1", V.str "1000000000", V.str "999999999", V.str "$60", V.str "$59", V.str "$", V.str "$00", V.str "#0", V.str "#0 + #0"] := by repeat (first | exact StrsOk.nil | refine StrsOk.cons (by decide) ?_)
    have c1 : ([V.str "", V.str " ", V.str "0", V.str "00", V.str "-1", V.str "+1", V.str "1000000000", V.str "999999999", V.str "$60", V.str "$59", V.str "$", V.str "$00", V.str "#0", V.str "#0 + #0"] : List V).length = 14 := rfl
    generalize ([V.str "", V.str " ", V.str "0", V.str "00", V.str "-1", V.str "+1", V.str "1000000000", V.str "999999999", V.str "$60", V.str "$59", V.str "$", V.str "$00", V.str "#0", V.str "#0 + #0"] : List V) = x1 at s1 e1 o1 c1 ⊢
    generalize upd H p1 (.lst x1) = H1 at s1 e1 ⊢
    have hD1 := hD.same s1
    walk_at "x"
    refine ⟨by show 9 ≤ sizeLine; decide, fun p2 hp2 => ?_⟩
    have s2 := same_upd (o := .lst [V.str "1; #0 + #0", V.str "1; #1 + #0", V.str "1; 2 * #0", V.str "1;2", V.str "1;  2", V.str "1; 2;", V.str "1; 2; ", V.str "; 1", V.str "1; #0 * #0"]) hp2
    have e2 : (upd H1 p2 (.lst [V.str "1; #0 + #0", V.str "1; #1 + #0", V.str "1; 2 * #0", V.str "1;2", V.str "1;  2", V.str "1; 2;", V.str "1; 2; ", V.str "; 1", V.str "1; #0 * #0"])) p2 = some (.lst [V.str "1; #0 + #0", V.str "1; #1 + #0", V.str "1; 2 * #0", V.str "1;2", V.str "1;  2", V.str "1; 2;", V.str "1; 2; ", V.str "; 1", V.str "1; #0 * #0"]) := upd_same
    have o2 : StrsOk [V.str "1; #0 + #0", V.str "1; #1 + #0", V.str "1; 2 * #0", V.str "1;2", V.str "1;  2", V.str "1; 2;", V.str "1; 2; ", V.str "; 1", V.str "1; #0 * #0"] := by repeat (first | exact StrsOk.nil | refine StrsOk.cons (by decide) ?_)
    have c2 : ([V.str "1; #0 + #0", V.str "1; #1 + #0", V.str "1; 2 * #0", V.str "1;2", V.str "1;  2", V.str "1; 2;", V.str "1; 2; ", V.str "; 1", V.str "1; #0 * #0"] : List V).length = 9 := rfl
    generalize ([V.str "1; #0 + #0", V.str "1; #1 + #0", V.str "1; 2 * #0", V.str "1;2", V.str "1;  2", V.str "1; 2;", V.str "1; 2; ", V.str "; 1", V.str "1; #0 * #0"] : List V) = x2 at s2 e2 o2 c2 ⊢
    generalize upd H1 p2 (.lst x2) = H2 at s2 e2 ⊢
    refine x_cat (s2 _ _ e1) e2 (by omega) fun p3 h3 => ?_
    have s3 := (s1.trans s2).trans (same_upd (o := .lst (x1 ++ x2)) h3)
    have e3 : (upd H2 p3 (.lst (x1 ++ x2))) p3 = some (.lst (x1 ++ x2)) := upd_same
    generalize upd H2 p3 (.lst (x1 ++ x2)) = H3 at s3 e3
    walk_at "x"
    refine ⟨by show 8 ≤ sizeLine; decide, fun p4 hp4 => ?_⟩
    have s4 := same_upd (o := .lst [V.str "1; #0 ? #0 : #0", V.str "1; #0 ? #0", V.str "1; 01 * #0", V.str "1; #0 - #0", V.str "1; #00 + #0", V.str "1 ", V.str " 1", V.str "1; 1000000000 * #0"]) hp4
    have e4 : (upd H3 p4 (.lst [V.str "1; #0 ? #0 : #0", V.str "1; #0 ? #0", V.str "1; 01 * #0", V.str "1; #0 - #0", V.str "1; #00 + #0", V.str "1 ", V.str " 1", V.str "1; 1000000000 * #0"])) p4 = some (.lst [V.str "1; #0 ? #0 : #0", V.str "1; #0 ? #0", V.str "1; 01 * #0", V.str "1; #0 - #0", V.str "1; #00 + #0", V.str "1 ", V.str " 1", V.str "1; 1000000000 * #0"]) := upd_same
    have o4 : StrsOk [V.str "1; #0 ? #0 : #0", V.str "1; #0 ? #0", V.str "1; 01 * #0", V.str "1; #0 - #0", V.str "1; #00 + #0", V.str "1 ", V.str " 1", V.str "1; 1000000000 * #0"] := by repeat (first | exact StrsOk.nil | refine StrsOk.cons (by decide) ?_)
    have c4 : ([V.str "1; #0 ? #0 : #0", V.str "1; #0 ? #0", V.str "1; 01 * #0", V.str "1; #0 - #0", V.str "1; #00 + #0", V.str "1 ", V.str " 1", V.str "1; 1000000000 * #0"] : List V).length = 8 := rfl
    generalize ([V.str "1; #0 ? #0 : #0", V.str "1; #0 ? #0", V.str "1; 01 * #0", V.str "1; #0 - #0", V.str "1; #00 + #0", V.str "1 ", V.str " 1", V.str "1; 1000000000 * #0"] : List V) = x4 at s4 e4 o4 c4 ⊢
    generalize upd H3 p4 (.lst x4) = H4 at s4 e4 ⊢
    refine x_cat (s4 _ _ e3) e4 (by rw [List.length_append]; omega) fun p5 h5 => ?_
    have s5 := (s3.trans s4).trans (same_upd (o := .lst (x1 ++ x2 ++ x4)) h5)
    have e5 : (upd H4 p5 (.lst (x1 ++ x2 ++ x4))) p5 = some (.lst (x1 ++ x2 ++ x4)) := upd_same
    generalize upd H4 p5 (.lst (x1 ++ x2 ++ x4)) = H5 at s5 e5
    have hD5 := hD.same s5
    have p5d : p5 ≠ d := fun z => by
      obtain ⟨_, _, g, _⟩ := hD5
      rw [← z, e5] at g
      have := congrArg (fun o => match o with | some (HO.lst l) => l.length | _ => 0) g
      simp only [List.length_append] at this
      have : x1.length + x2.length + x4.length = 2 := this
      omega
    walk_at "x"
    refine x_tM1 ?_
    walk_at "x"
    refine ⟨⟨_, rfl⟩, ?_⟩
    walk_at "x"
    refine ⟨by show 1 ≤ sizeLine; decide, fun p6 h6 => ?_⟩
    have s6 := same_upd (o := .lst [V.str "0"]) h6
    have e6 : (upd H5 p6 (.lst [V.str "0"])) p6 = some (.lst [V.str "0"]) := upd_same
    have p6d := hD5.new h6
    have hD6 := hD5.same s6
    generalize upd H5 p6 (.lst [V.str "0"]) = H6 at s6 e6 hD6
    have e5 := s6 _ _ e5
    walk_at "x"
    refine ⟨d, n, rfl, hD6, ?_⟩
    rintro _ H7 ⟨z, rfl, z0, z1⟩ hD7 k7
    have e5 := k7 _ _ e5 p5d
    have e6 := k7 _ _ e6 p6d
    have k7 := (Same.keep (d := d) (s5.trans s6)).trans k7
    walk_at "x"
    obtain ⟨m, em, hm⟩ : ∃ m : Nat, 199 + z % 4 = (m : Int) ∧ m ≤ 202 := ⟨(199 + z % 4).toNat, by omega, by omega⟩
    rw [em]
    refine ⟨p6, (m : Int), [V.str "0"], rfl, rfl, e6, by omega, by omega, Nat.le_trans (show 1 * (m : Int).toNat ≤ 1000 by rw [Int.toNat_natCast]; omega) (by decide), fun p7 h7 => ?_⟩
    have eR : (List.replicate (m : Int).toNat [V.str "0"]).flatten = ((List.replicate m [48]).map tS).map V.str := by
      rw [Int.toNat_natCast, List.map_replicate, List.map_replicate]
      exact List.flatten_replicate_singleton ..
    rw [eR]
    have s7 := same_upd (o := .lst (((List.replicate m [48]).map tS).map V.str)) h7
    have e7 : (upd H7 p7 (.lst (((List.replicate m [48]).map tS).map V.str))) p7 = some (.lst (((List.replicate m [48]).map tS).map V.str)) := upd_same
    have hD8 := hD7.same s7
    have e5 := s7 _ _ e5
    generalize upd H7 p7 (.lst (((List.replicate m [48]).map tS).map V.str)) = H8 at s7 e7 e5 hD8
    have hB : ∀ w ∈ List.replicate m [48], w.length ≤ 1 := fun w hw => by rw [List.eq_of_mem_replicate hw]; exact Nat.le_refl 1
    have jl := joinL_len (S := [59, 32]) hB
    rw [List.length_replicate] at jl
    have jl : (TL.joinL [59, 32] (List.replicate m [48])).length ≤ m * 3 := jl
    refine ⟨_, p7, _, rfl, rfl, .inl (sq_of e7), join_len (a := [59, 32]) hB (by rw [List.length_replicate]; show m * 3 ≤ _; omega), ?_⟩
    rw [show Txt.join (Str.ofString "; ") ((List.replicate m [48]).map tS) = tS (TL.joinL [59, 32] (List.replicate m [48])) from join_tS [59, 32] _]
    walk_at "x"
    refine ⟨by show 6 ≤ sizeLine; decide, fun p8 hp8 => ?_⟩
    have s9 := same_upd (o := .lst [V.str "1\n", V.str "1_0", V.str "1;\n2", V.str "\n1", V.str "1; 2\n", V.str (tS (TL.joinL [59, 32] (List.replicate m [48])))]) hp8
    have e9 : (upd H8 p8 (.lst [V.str "1\n", V.str "1_0", V.str "1;\n2", V.str "\n1", V.str "1; 2\n", V.str (tS (TL.joinL [59, 32] (List.replicate m [48])))])) p8 = some (.lst [V.str "1\n", V.str "1_0", V.str "1;\n2", V.str "\n1", V.str "1; 2\n", V.str (tS (TL.joinL [59, 32] (List.replicate m [48])))]) := upd_same
    have o9 : StrsOk [V.str "1\n", V.str "1_0", V.str "1;\n2", V.str "\n1", V.str "1; 2\n", V.str (tS (TL.joinL [59, 32] (List.replicate m [48])))] := StrsOk.cons (by decide) (StrsOk.cons (by decide) (StrsOk.cons (by decide) (StrsOk.cons (by decide) (StrsOk.cons (by decide) (StrsOk.cons (by rw [tS_len]; omega) StrsOk.nil)))))
    have c9 : ([V.str "1\n", V.str "1_0", V.str "1;\n2", V.str "\n1", V.str "1; 2\n", V.str (tS (TL.joinL [59, 32] (List.replicate m [48])))] : List V).length = 6 := rfl
    generalize ([V.str "1\n", V.str "1_0", V.str "1;\n2", V.str "\n1", V.str "1; 2\n", V.str (tS (TL.joinL [59, 32] (List.replicate m [48])))] : List V) = x9 at s9 e9 o9 c9 ⊢
    generalize upd H8 p8 (.lst x9) = H9 at s9 e9 ⊢
    have hD9 := hD8.same s9
    refine x_cat (s9 _ _ e5) e9 (by rw [List.length_append, List.length_append]; omega) fun p9 h9 => ?_
    have s10 := same_upd (o := .lst (x1 ++ x2 ++ x4 ++ x9)) h9
    have e10 : (upd H9 p9 (.lst (x1 ++ x2 ++ x4 ++ x9))) p9 = some (.lst (x1 ++ x2 ++ x4 ++ x9)) := upd_same
    have hp9 := hD9.new h9
    have hD10 := hD9.same s10
    generalize upd H9 p9 (.lst (x1 ++ x2 ++ x4 ++ x9)) = H10 at s10 e10 hD10
    walk_at "x"
    refine ⟨d, n, rfl, hD10, ?_⟩
    rintro _ H11 ⟨y, rfl, y0, y1⟩ hD11 k11
    walk_at "x"
    have c10 : (x1 ++ x2 ++ x4 ++ x9).length = 37 := by rw [List.length_append, List.length_append, List.length_append]; omega
    obtain ⟨v, hv, hm2⟩ := at_lt (xs := x1 ++ x2 ++ x4 ++ x9) (i := y % 37) (Int.emod_nonneg _ (by decide)) (by rw [c10]; exact Int.emod_lt_of_pos y (show (0 : Int) < 37 by decide))
    refine x_ixL (sq_of (k11 _ _ e10 hp9)) hv ?_
    obtain ⟨w, rfl, hw⟩ := (((o1.app o2).app o4).app o9) v hm2
    exact q _ _ ⟨w, rfl, hw⟩ hD11 ((k7.trans (Same.keep ((s7.trans s9).trans s10))).trans k11)


def sp_law_asked (K : PySem.W.Frag) : Sp := fun vs H Q _ => ∃ (t : List Nat), vs = [.str (tS t)] ∧ t.length ≤ 100000 ∧ ∀ H', Same H H' → Q (.bl true) H'
theorem ok_law_asked (T : Txt K mg) : FnOk P w K mg base CX0 12 T.a_law_asked T.fd_law_asked ["text"] (sp_law_asked K) := by
  refine T.F_law_asked.ok sc_law_asked (fun vs H Q E h => ?_) (fun cdv A outer s H vs Q E hr h => ?_)
  · obtain ⟨t, rfl, _⟩ := h
    rfl
  · obtain ⟨t, rfl, ht, q⟩ := h
    refine ⟨_, (pss_cons (ps_set (i := 1) sc_law_asked.nd rfl (.inl rfl) (pe_call (ok_law_parsed T) (hr.mono (by decide)) (by rfl) T.g_law_parsed T.F_law_parsed.kp T.b_law_parsed .nil pass0 (pa_cons (pv 0) pa_nil)))
      (pss_cons (ps_set (i := 2) sc_law_asked.nd rfl (.inl rfl) pe_bl)
      (pss_cons (ps_set (i := 3) sc_law_asked.nd rfl (.inl rfl) pe_non)
      (pss_cons (ps_try_as (i := 4) rfl rfl sc_law_asked.nd rfl rfl ⟨rfl, by decide, .inl T.gE_BadText⟩ takes0 (fun W pn xe tk _ => (pss_one (ps_set (i := 3) sc_law_asked.nd rfl (.inl rfl) (pe_callS (sp := sp_parse_source T.E_BadText K) (E := WE W) (ok_parse_source T) (hr.mono (by decide)) (by rfl) T.g_parse_source T.F_parse_source.kp T.b_parse_source (fun σ => passAt tk σ) (pa_cons (pv 0) pa_nil)))))
      (fun a oe cls d pn hz hf => (pss_one (ps_set (i := 2) sc_law_asked.nd rfl (.inl rfl) (pe_and (pe_not (pe_callB (id := "isinstance") (r := rIsEQ K a cls d) (call_isEQ rfl hz hf) (by rfl) T.m_isinstance (by decide +kernel) (pa_cons (pv 4) (pa_cons (pe_glob (v := .ref T.E_BadSource) (by rfl) T.gE_BadSource rfl) pa_nil)))) (pe_and (pe_callB (id := "isinstance") (r := rIsEQ K a cls d) (call_isEQ rfl hz hf) (by rfl) T.m_isinstance (by decide +kernel) (pa_cons (pv 4) (pa_cons (pe_glob (v := .ref T.E_BrimfulError) (by rfl) T.gE_BrimfulError rfl) pa_nil))) (pe_one (pe_callB (id := "isinstance") (r := rIsEV K a cls d) (call_isEV rfl hz hf) (by rfl) T.m_isinstance (by decide +kernel) (pa_cons (pv 4) (pa_cons (pe_bltn (v := .ty "ValueError") (by rfl) T.m_ValueError (by decide +kernel) rfl) pa_nil))))))))))
      (pss_one (ps_ret (pe_and (pe_cmpR op_eq (pv 2) (pe_cmpR op_isN1 (pv 1) pe_non (nomark _)) (nomark _)) (pe_one (pe_or (pe_cmpR op_isN1 (pv 1) pe_non (nomark _)) (pe_one (pe_call (ok_law_equal T 5) hr (by rfl) T.g_law_equal T.F_law_equal.kp T.b_law_equal .nil pass0 (pa_cons (pv 3) (pa_cons (pv 1) pa_nil))))))))))))), ?_⟩
    walk_at "start"
    walk_at "x"
    refine ⟨t, rfl, ht, fun hb H1 s1 => ?_, fun ns r H1 e ok s1 hd => ?_⟩
    · walk_at "x"
      refine x_callS ?_
      walk_at "x"
      refine ⟨t, rfl, ht, fun _ H2 s2 => ?_, fun h => by rw [h] at hb; cases hb⟩
      refine ⟨true, PySem.W.exm_ref T.bE_BadText T.dE_BadText T.tE_BadText T.sE_BadText_BadText, (fun _ a ha => ?_), (fun z => nomatch z)⟩
      walk_at "x"
      refine ⟨_, _, false, rfl, rfl, T.cE_BadText, rfl, kit_ref T.dE_BadSource T.tE_BadSource T.sE_BadText_BadSource T.sE_BadSource_BadSource, ?_⟩
      walk_at "x"
      walk_at "t"
      refine ⟨_, _, true, rfl, rfl, T.cE_BadText, rfl, kit_ref T.dE_BrimfulError T.tE_BrimfulError T.sE_BadText_BrimfulError T.sE_BrimfulError_BrimfulError, ?_⟩
      walk_at "x"
      walk_at "t"
      refine ⟨_, "ValueError", true, rfl, rfl, T.cE_BadText, rfl, kit_val T.vE_BadText, ?_⟩
      walk_at "x"
      rw [decide_eq_true (show V.non = .non from rfl), decide_eq_true (show true = true from rfl)]
      walk_at "t"
      rw [decide_eq_true (show V.non = .non from rfl)]
      walk_at "t"
      exact q _ (s1.trans s2)
    · walk_at "x"
      refine x_callS ?_
      walk_at "x"
      refine ⟨t, rfl, ht, fun h => (by rw [e, sourceD_iff.mpr ⟨ns, rfl, ok⟩] at h; cases h), fun _ u H2 s2 _ hu => ?_⟩
      have hu := hu u
      have hd := DAt.same s2 _ (hd u)
      rw [e] at hu
      walk_at "x"
      rw [decide_eq_false (show ¬ V.ref r = .non from fun z => by cases z), decide_eq_true (show false = false from rfl)]
      walk_at "x"
      walk_at "t"
      rw [decide_eq_false (show ¬ V.ref r = .non from fun z => by cases z)]
      walk_at "f"
      refine ⟨_, _, rfl, sns_eqv hu hd (by have := ok.l2; omega), ?_⟩
      walk_at "x"
      exact q _ (s1.trans s2)


theorem x_lcPreTp {K : PySem.W.Frag} {te : TE} {ta : TE} {j : Nat} {vs : List Nat} {σ : L2.St} {H : Hp} {Q : VK} (h : ta σ H fun v H1 => tLc (iTup K (tC v)) (gName j) tYes te vs σ H1 Q) : tLc (iTup K ta) (gName j) tYes te vs σ H Q := h
def sp_law (K : PySem.W.Frag) : Sp := fun vs H Q _ => ∃ (a : Addr) (ns : List Int), vs = [.ref a] ∧ SqL K H a (ns.map V.int) ∧ ns.length ≤ 63 ∧ ∀ H', Q (.bl true) H'
theorem ok_law (T : Txt K mg) : FnOk P w K mg base CX0 13 T.a_law T.fd_law ["script"] (sp_law K) := by
  refine T.F_law.ok sc_law (fun vs H Q E h => ?_) (fun cdv A outer s H vs Q E hr h => ?_)
  · obtain ⟨a, ns, rfl, _⟩ := h
    rfl
  · obtain ⟨a, ns, rfl, hS, hl, q⟩ := h
    refine ⟨_, (pss_cons (ps_set (i := 1) sc_law.nd rfl (.inl rfl) (pe_lst (pa_cons (pe_call (ok_law_numbers T) (hr.mono (by decide)) (by rfl) T.g_law_numbers T.F_law_numbers.kp T.b_law_numbers .nil pass0 (pa_cons (pv 0) pa_nil)) (pa_cons pe_int pa_nil))))
      (pss_cons (ps_for PassesOwn.never rfl (pi_range1 (by rfl) T.m_range (pa_cons pe_int pa_nil)) (pg_name (i := 2) sc_law.nd rfl (Or.inl rfl))
      (pss_cons (ps_set (i := 3) sc_law.nd rfl (.inl rfl) (pe_join pe_str (pe_lc (own := [("node", 4)]) (g := gName 4) (tt := tYes) rfl sc_law.nd (pi_tup (pe_ix (r := rIxL K) ix_list (pe_call (ok_law_source T) (hr.mono (by decide)) (by rfl) T.g_law_source T.F_law_source.kp T.b_law_source .nil pass0 (pa_cons (pv 1) (pa_cons (pe_op op_pow pe_int pe_int) pa_nil))) pe_int (fun _ _ => rfl))) (blkOk_by (N := N_law) (sc := defScope s_law) (by decide +kernel)) (fun _ _ _ _ _ => (pg_name (i := 4) sc_law.nd rfl (Or.inl rfl))) (fun _ _ _ _ _ => pts_nil) (fun _ _ _ _ _ => (pe_call (ok_law_written T) (hr.mono (by decide)) (by rfl) T.g_law_written T.F_law_written.kp T.b_law_written .nil pass0 (pa_cons (pv 4) pa_nil))))))
      (pss_cons (ps_if (pt_cmpR op_gt (pe_op op_mod (pe_call (ok_law_draw T) (hr.mono (by decide)) (by rfl) T.g_law_draw T.F_law_draw.kp T.b_law_draw .nil pass0 (pa_cons (pv 1) pa_nil)) pe_int) pe_int (nomark _))
      (pss_one (ps_set (i := 3) sc_law.nd rfl (.inl rfl) (pe_call (ok_law_spoilt T) (hr.mono (by decide)) (by rfl) T.g_law_spoilt T.F_law_spoilt.kp T.b_law_spoilt .nil pass0 (pa_cons (pv 1) (pa_cons (pv 3) pa_nil)))))
      pss_nil)
      (pss_one (ps_if (pt_not (pt_val (pe_call (ok_law_asked T) hr (by rfl) T.g_law_asked T.F_law_asked.kp T.b_law_asked .nil pass0 (pa_cons (pv 3) pa_nil))))
      (pss_one (ps_ret pe_bl))
      pss_nil)))))
      (pss_one (ps_ret (pe_call (ok_law_asked T) hr (by rfl) T.g_law_asked T.F_law_asked.kp T.b_law_asked .nil pass0 (pa_cons (pe_call (ok_law_by_hand T) (hr.mono (by decide)) (by rfl) T.g_law_by_hand T.F_law_by_hand.kp T.b_law_by_hand .nil pass0 (pa_cons (pv 1) pa_nil)) pa_nil)))))), ?_⟩
    walk_at "start"
    walk_at "x"
    refine ⟨a, ns, rfl, hS, hl, fun nn ms H1 hn1 hs1 hn2 hr hlen => ?_⟩
    walk_at "x"
    refine ⟨by show 2 ≤ sizeLine; decide, fun d hd => ?_⟩
    have hD := Dr.mk hn2 hr hlen hd
    generalize upd H1 d (.lst [.ref nn, .int 0]) = H2 at hD
    clear hn1 hs1 hn2 hr hlen hd hS hl
    walk_at "x"
    refine x_forR1 5 (fun i σ' H' => Dr H' d nn ∧ ∃ v2 v3 v4, σ' = [some (.ref a), some (.ref d), v2, v3, v4]) (fun R r => r) (by decide) (by decide) ⟨hD, _, _, _, rfl⟩ ?_ ?_
    · clear hD
      rintro turn σ' H3 _ ⟨hD, v2, v3, v4, rfl⟩
      walk_at "x"
      refine x_tM1 ?_
      walk_at "x"
      refine ⟨⟨_, rfl⟩, ?_⟩
      refine x_lcPreTp ?_
      walk_at "x"
      refine ⟨d, nn, _, rfl, by decide, hD, ?_⟩
      rintro _ H4 ⟨r, t, bs, rfl, hr, hrd, ht, ok, _, _⟩ hD4 k4
      walk_at "x"
      refine x_ixL (v := .ref t) (sq_of hr) (atI_nat (j := 0) rfl) ?_
      refine x_lcTxt d (fun R r => r) ht (fun x => rfl) ok ?_ ?_
      · intro i n b H5 R hn s5 hb okn hR
        walk_at "x"
        exact ⟨b, n, i, rfl, hb, okn, by have := (List.getElem?_eq_some_iff.mp hn).1; have := ok.l2; omega, hR⟩
      intro p H5 _ s5 hp
      have b200 : (bs.map textN).length ≤ 200 := by rw [List.length_map]; exact ok.l2
      refine ⟨_, p, _, rfl, rfl, .inl (sq_of hp), join_len (a := [59, 32]) (texts_len ok) (Nat.le_trans (Nat.mul_le_mul_right 57 b200) (by decide)), ?_⟩
      rw [show Txt.join (Str.ofString "; ") ((bs.map textN).map tS) = tS (textS bs) from join_tS [59, 32] _]
      have hl := textS_len ok
      have hD5 := hD4.same s5
      walk_at "x"
      refine ⟨d, nn, rfl, hD5, ?_⟩
      rintro _ H6 ⟨z, rfl, z0, z1⟩ hD6 k6
      walk_at "x"
      refine x_ite (fun h0 => ?_) (fun h0 => ?_)
      · walk_at "x"
        refine ⟨d, nn, _, rfl, by omega, hD6, ?_⟩
        rintro _ H7 ⟨w, rfl, hw⟩ hD7 k7
        walk_at "x"
        refine ⟨w, rfl, by omega, fun H8 s8 => ?_⟩
        walk_at "x"
        walk_at "f"
        exact ⟨hD7.same s8, _, _, _, rfl⟩
      · walk_at "x"
        refine ⟨_, rfl, by omega, fun H8 s8 => ?_⟩
        walk_at "x"
        walk_at "f"
        exact ⟨hD6.same s8, _, _, _, rfl⟩
    · rintro σ' H3 ⟨hD, v2, v3, v4, rfl⟩
      walk_at "x"
      refine ⟨d, nn, rfl, hD, ?_⟩
      rintro _ H6 ⟨w, rfl, hw⟩ hD6 k6
      walk_at "x"
      exact ⟨w, rfl, by omega, fun H8 s8 => q _⟩


theorem all_mk {l : PySem.W.OpenLaw} {w : World} {K : PySem.W.Frag} {h : Heap} {mg : Str → Option Value} {fa : Addr} (X : K.In h) (G : h.Ns mainGlobals mg) (hfa : mg "law" = some (.ref fa))
    {f0 : Addr} {od0 an0 : Option Addr} {sl0 : Array (Option Value)} {oc0 kV0 dc0 pm0 cd0 ct0 : Value}
    {f1 : Addr} {od1 an1 : Option Addr} {sl1 : Array (Option Value)} {oc1 kV1 dc1 pm1 cd1 ct1 : Value}
    {f2 : Addr} {od2 an2 : Option Addr} {sl2 : Array (Option Value)} {oc2 kV2 dc2 pm2 cd2 ct2 : Value}
    {f3 : Addr} {od3 an3 : Option Addr} {sl3 : Array (Option Value)} {oc3 kV3 dc3 pm3 cd3 ct3 : Value}
    {f4 : Addr} {od4 an4 : Option Addr} {sl4 : Array (Option Value)} {oc4 kV4 dc4 pm4 cd4 ct4 : Value}
    {f5 : Addr} {od5 an5 : Option Addr} {sl5 : Array (Option Value)} {oc5 kV5 dc5 pm5 cd5 ct5 : Value}
    {f6 : Addr} {od6 an6 : Option Addr} {sl6 : Array (Option Value)} {oc6 kV6 dc6 pm6 cd6 ct6 : Value}
    {f7 : Addr} {od7 an7 : Option Addr} {sl7 : Array (Option Value)} {oc7 kV7 dc7 pm7 cd7 ct7 : Value}
    {f8 : Addr} {od8 an8 : Option Addr} {sl8 : Array (Option Value)} {oc8 kV8 dc8 pm8 cd8 ct8 : Value}
    {f9 : Addr} {od9 an9 : Option Addr} {sl9 : Array (Option Value)} {oc9 kV9 dc9 pm9 cd9 ct9 : Value}
    {f10 : Addr} {od10 an10 : Option Addr} {sl10 : Array (Option Value)} {oc10 kV10 dc10 pm10 cd10 ct10 : Value}
    {f11 : Addr} {od11 an11 : Option Addr} {sl11 : Array (Option Value)} {oc11 kV11 dc11 pm11 cd11 ct11 : Value}
    {f12 : Addr} {od12 an12 : Option Addr} {sl12 : Array (Option Value)} {oc12 kV12 dc12 pm12 cd12 ct12 : Value}
    {f13 : Addr} {od13 an13 : Option Addr} {sl13 : Array (Option Value)} {oc13 kV13 dc13 pm13 cd13 ct13 : Value}
    {f14 : Addr} {od14 an14 : Option Addr} {sl14 : Array (Option Value)} {oc14 kV14 dc14 pm14 cd14 ct14 : Value}
    {f15 : Addr} {od15 an15 : Option Addr} {sl15 : Array (Option Value)} {oc15 kV15 dc15 pm15 cd15 ct15 : Value}
    {f16 : Addr} {od16 an16 : Option Addr} {sl16 : Array (Option Value)} {oc16 kV16 dc16 pm16 cd16 ct16 : Value}
    {f17 : Addr} {od17 an17 : Option Addr} {sl17 : Array (Option Value)} {oc17 kV17 dc17 pm17 cd17 ct17 : Value}
    {f18 : Addr} {od18 an18 : Option Addr} {sl18 : Array (Option Value)} {oc18 kV18 dc18 pm18 cd18 ct18 : Value}
    {f19 : Addr} {od19 an19 : Option Addr} {sl19 : Array (Option Value)} {oc19 kV19 dc19 pm19 cd19 ct19 : Value}
    {f20 : Addr} {od20 an20 : Option Addr} {sl20 : Array (Option Value)} {oc20 kV20 dc20 pm20 cd20 ct20 : Value}
    {f21 : Addr} {od21 an21 : Option Addr} {sl21 : Array (Option Value)} {oc21 kV21 dc21 pm21 cd21 ct21 : Value}
    {f22 : Addr} {od22 an22 : Option Addr} {sl22 : Array (Option Value)} {oc22 kV22 dc22 pm22 cd22 ct22 : Value}
    {f23 : Addr} {od23 an23 : Option Addr} {sl23 : Array (Option Value)} {oc23 kV23 dc23 pm23 cd23 ct23 : Value}
    {f24 : Addr} {od24 an24 : Option Addr} {sl24 : Array (Option Value)} {oc24 kV24 dc24 pm24 cd24 ct24 : Value}
    {f25 : Addr} {od25 an25 : Option Addr} {sl25 : Array (Option Value)} {oc25 kV25 dc25 pm25 cd25 ct25 : Value}
    {f26 : Addr} {od26 an26 : Option Addr} {sl26 : Array (Option Value)} {oc26 kV26 dc26 pm26 cd26 ct26 : Value}
    {f27 : Addr} {od27 an27 : Option Addr} {sl27 : Array (Option Value)} {oc27 kV27 dc27 pm27 cd27 ct27 : Value}
    {f28 : Addr} {od28 an28 : Option Addr} {sl28 : Array (Option Value)} {oc28 kV28 dc28 pm28 cd28 ct28 : Value}
    {f29 : Addr} {od29 an29 : Option Addr} {sl29 : Array (Option Value)} {oc29 kV29 dc29 pm29 cd29 ct29 : Value}
    {E_BrimfulError : Addr}
    {E_BadSource : Addr}
    {E_BadText : Addr}
    {t_CONSTANTS_END : Tok}
    {t_MOST_FIGURES : Tok}
    {t_MOST_INPUTS : Tok}
    {t_MOST_NODES : Tok}
    (hnE : PySem.W.specialIn K (.builtin "object.__class__") "__get__" = some (some (.builtin "getset_descriptor.__get__"))) (htE : PySem.W.takesIn K (.builtin "object.__class__") = some true)
    (aE_BrimfulError : PySem.W.nsIn K mainGlobals "BrimfulError" = some (some (.ref E_BrimfulError))) (xE_BrimfulError : PySem.W.excIn K E_BrimfulError [.type "ValueError", .type "Exception", .type "BaseException", .type "object"] "ValueError.__new__" = true) (kE_BrimfulError : PySem.W.keepIn K (.ref E_BrimfulError) = true)
    (bE_BrimfulError : PySem.W.subIn K (.ref E_BrimfulError) (.type "BaseException") = some true) (tE_BrimfulError : PySem.W.typeIn K (.ref E_BrimfulError) = some (.type "type")) (dE_BrimfulError : PySem.W.hasDictIn K E_BrimfulError = true)
    (h1E_BrimfulError : PySem.W.findIn K (.ref E_BrimfulError) "__getattribute__" = some (some (.builtin "BaseException.__getattribute__"))) (h2E_BrimfulError : PySem.W.findIn K (.ref E_BrimfulError) "__getattr__" = some none) (h3E_BrimfulError : PySem.W.findIn K (.ref E_BrimfulError) "__class__" = some (some (.builtin "object.__class__"))) (h4E_BrimfulError : PySem.W.mroIn K E_BrimfulError (.type "object") = some true)
    (aE_BadSource : PySem.W.nsIn K mainGlobals "BadSource" = some (some (.ref E_BadSource))) (xE_BadSource : PySem.W.excIn K E_BadSource [.type "ValueError", .type "Exception", .type "BaseException", .type "object"] "ValueError.__new__" = true) (kE_BadSource : PySem.W.keepIn K (.ref E_BadSource) = true)
    (bE_BadSource : PySem.W.subIn K (.ref E_BadSource) (.type "BaseException") = some true) (tE_BadSource : PySem.W.typeIn K (.ref E_BadSource) = some (.type "type")) (dE_BadSource : PySem.W.hasDictIn K E_BadSource = true)
    (h1E_BadSource : PySem.W.findIn K (.ref E_BadSource) "__getattribute__" = some (some (.builtin "BaseException.__getattribute__"))) (h2E_BadSource : PySem.W.findIn K (.ref E_BadSource) "__getattr__" = some none) (h3E_BadSource : PySem.W.findIn K (.ref E_BadSource) "__class__" = some (some (.builtin "object.__class__"))) (h4E_BadSource : PySem.W.mroIn K E_BadSource (.type "object") = some true)
    (aE_BadText : PySem.W.nsIn K mainGlobals "BadText" = some (some (.ref E_BadText))) (xE_BadText : PySem.W.excIn K E_BadText [.type "ValueError", .type "Exception", .type "BaseException", .type "object"] "ValueError.__new__" = true) (kE_BadText : PySem.W.keepIn K (.ref E_BadText) = true)
    (bE_BadText : PySem.W.subIn K (.ref E_BadText) (.type "BaseException") = some true) (tE_BadText : PySem.W.typeIn K (.ref E_BadText) = some (.type "type")) (dE_BadText : PySem.W.hasDictIn K E_BadText = true)
    (h1E_BadText : PySem.W.findIn K (.ref E_BadText) "__getattribute__" = some (some (.builtin "BaseException.__getattribute__"))) (h2E_BadText : PySem.W.findIn K (.ref E_BadText) "__getattr__" = some none) (h3E_BadText : PySem.W.findIn K (.ref E_BadText) "__class__" = some (some (.builtin "object.__class__"))) (h4E_BadText : PySem.W.mroIn K E_BadText (.type "object") = some true)
    (vE_BrimfulError : PySem.W.subIn K (.ref E_BrimfulError) (.type "ValueError") = some true)
    (vE_BadSource : PySem.W.subIn K (.ref E_BadSource) (.type "ValueError") = some true)
    (vE_BadText : PySem.W.subIn K (.ref E_BadText) (.type "ValueError") = some true)
    (sE_BrimfulError_BrimfulError : PySem.W.subIn K (.ref E_BrimfulError) (.ref E_BrimfulError) = some true)
    (sE_BrimfulError_BadSource : PySem.W.subIn K (.ref E_BrimfulError) (.ref E_BadSource) = some false)
    (sE_BrimfulError_BadText : PySem.W.subIn K (.ref E_BrimfulError) (.ref E_BadText) = some false)
    (sE_BadSource_BrimfulError : PySem.W.subIn K (.ref E_BadSource) (.ref E_BrimfulError) = some true)
    (sE_BadSource_BadSource : PySem.W.subIn K (.ref E_BadSource) (.ref E_BadSource) = some true)
    (sE_BadSource_BadText : PySem.W.subIn K (.ref E_BadSource) (.ref E_BadText) = some false)
    (sE_BadText_BrimfulError : PySem.W.subIn K (.ref E_BadText) (.ref E_BrimfulError) = some true)
    (sE_BadText_BadSource : PySem.W.subIn K (.ref E_BadText) (.ref E_BadSource) = some false)
    (sE_BadText_BadText : PySem.W.subIn K (.ref E_BadText) (.ref E_BadText) = some true)
    (a0 : PySem.W.nsIn K mainGlobals "is_below" = some (some (.ref f0)))
    (l0 : K.lookup f0 = some ⟨oc0, od0, .func (PySem.W.fnOf "is_below" "is_below" (defArgs s_is_below) (defBody s_is_below) (defScope s_is_below) .none kV0 dc0 pm0 an0 cd0 ct0), sl0⟩)
    (c0 : PySem.W.codeIn K cd0 "is_below" = true) (k0 : PySem.W.keepIn K (.ref f0) = true)
    (a1 : PySem.W.nsIn K mainGlobals "are_nodes" = some (some (.ref f1)))
    (l1 : K.lookup f1 = some ⟨oc1, od1, .func (PySem.W.fnOf "are_nodes" "are_nodes" (defArgs s_are_nodes) (defBody s_are_nodes) (defScope s_are_nodes) .none kV1 dc1 pm1 an1 cd1 ct1), sl1⟩)
    (c1 : PySem.W.codeIn K cd1 "are_nodes" = true) (k1 : PySem.W.keepIn K (.ref f1) = true)
    (a2 : PySem.W.nsIn K mainGlobals "is_input" = some (some (.ref f2)))
    (l2 : K.lookup f2 = some ⟨oc2, od2, .func (PySem.W.fnOf "is_input" "is_input" (defArgs s_is_input) (defBody s_is_input) (defScope s_is_input) .none kV2 dc2 pm2 an2 cd2 ct2), sl2⟩)
    (c2 : PySem.W.codeIn K cd2 "is_input" = true) (k2 : PySem.W.keepIn K (.ref f2) = true)
    (a3 : PySem.W.nsIn K mainGlobals "are_before" = some (some (.ref f3)))
    (l3 : K.lookup f3 = some ⟨oc3, od3, .func (PySem.W.fnOf "are_before" "are_before" (defArgs s_are_before) (defBody s_are_before) (defScope s_are_before) .none kV3 dc3 pm3 an3 cd3 ct3), sl3⟩)
    (c3 : PySem.W.codeIn K cd3 "are_before" = true) (k3 : PySem.W.keepIn K (.ref f3) = true)
    (a4 : PySem.W.nsIn K mainGlobals "number_in" = some (some (.ref f4)))
    (l4 : K.lookup f4 = some ⟨oc4, od4, .func (PySem.W.fnOf "number_in" "number_in" (defArgs s_number_in) (defBody s_number_in) (defScope s_number_in) .none kV4 dc4 pm4 an4 cd4 ct4), sl4⟩)
    (c4 : PySem.W.codeIn K cd4 "number_in" = true) (k4 : PySem.W.keepIn K (.ref f4) = true)
    (a5 : PySem.W.nsIn K mainGlobals "_is_source" = some (some (.ref f5)))
    (l5 : K.lookup f5 = some ⟨oc5, od5, .func (PySem.W.fnOf "_is_source" "_is_source" (defArgs s_is_source) (defBody s_is_source) (defScope s_is_source) .none kV5 dc5 pm5 an5 cd5 ct5), sl5⟩)
    (c5 : PySem.W.codeIn K cd5 "_is_source" = true) (k5 : PySem.W.keepIn K (.ref f5) = true)
    (a6 : PySem.W.nsIn K mainGlobals "_is_node" = some (some (.ref f6)))
    (l6 : K.lookup f6 = some ⟨oc6, od6, .func (PySem.W.fnOf "_is_node" "_is_node" (defArgs s_is_node) (defBody s_is_node) (defScope s_is_node) .none kV6 dc6 pm6 an6 cd6 ct6), sl6⟩)
    (c6 : PySem.W.codeIn K cd6 "_is_node" = true) (k6 : PySem.W.keepIn K (.ref f6) = true)
    (a7 : PySem.W.nsIn K mainGlobals "parse_source" = some (some (.ref f7)))
    (l7 : K.lookup f7 = some ⟨oc7, od7, .func (PySem.W.fnOf "parse_source" "parse_source" (defArgs s_parse_source) (defBody s_parse_source) (defScope s_parse_source) .none kV7 dc7 pm7 an7 cd7 ct7), sl7⟩)
    (c7 : PySem.W.codeIn K cd7 "parse_source" = true) (k7 : PySem.W.keepIn K (.ref f7) = true)
    (a8 : PySem.W.nsIn K mainGlobals "_read_node" = some (some (.ref f8)))
    (l8 : K.lookup f8 = some ⟨oc8, od8, .func (PySem.W.fnOf "_read_node" "_read_node" (defArgs s_read_node) (defBody s_read_node) (defScope s_read_node) .none kV8 dc8 pm8 an8 cd8 ct8), sl8⟩)
    (c8 : PySem.W.codeIn K cd8 "_read_node" = true) (k8 : PySem.W.keepIn K (.ref f8) = true)
    (a9 : PySem.W.nsIn K mainGlobals "_read_leaf" = some (some (.ref f9)))
    (l9 : K.lookup f9 = some ⟨oc9, od9, .func (PySem.W.fnOf "_read_leaf" "_read_leaf" (defArgs s_read_leaf) (defBody s_read_leaf) (defScope s_read_leaf) .none kV9 dc9 pm9 an9 cd9 ct9), sl9⟩)
    (c9 : PySem.W.codeIn K cd9 "_read_leaf" = true) (k9 : PySem.W.keepIn K (.ref f9) = true)
    (a10 : PySem.W.nsIn K mainGlobals "_read_index" = some (some (.ref f10)))
    (l10 : K.lookup f10 = some ⟨oc10, od10, .func (PySem.W.fnOf "_read_index" "_read_index" (defArgs s_read_index) (defBody s_read_index) (defScope s_read_index) .none kV10 dc10 pm10 an10 cd10 ct10), sl10⟩)
    (c10 : PySem.W.codeIn K cd10 "_read_index" = true) (k10 : PySem.W.keepIn K (.ref f10) = true)
    (a11 : PySem.W.nsIn K mainGlobals "_law_mixed" = some (some (.ref f11)))
    (l11 : K.lookup f11 = some ⟨oc11, od11, .func (PySem.W.fnOf "_law_mixed" "_law_mixed" (defArgs s_law_mixed) (defBody s_law_mixed) (defScope s_law_mixed) .none kV11 dc11 pm11 an11 cd11 ct11), sl11⟩)
    (c11 : PySem.W.codeIn K cd11 "_law_mixed" = true) (k11 : PySem.W.keepIn K (.ref f11) = true)
    (a12 : PySem.W.nsIn K mainGlobals "_law_numbers" = some (some (.ref f12)))
    (l12 : K.lookup f12 = some ⟨oc12, od12, .func (PySem.W.fnOf "_law_numbers" "_law_numbers" (defArgs s_law_numbers) (defBody s_law_numbers) (defScope s_law_numbers) .none kV12 dc12 pm12 an12 cd12 ct12), sl12⟩)
    (c12 : PySem.W.codeIn K cd12 "_law_numbers" = true) (k12 : PySem.W.keepIn K (.ref f12) = true)
    (a13 : PySem.W.nsIn K mainGlobals "_law_draw" = some (some (.ref f13)))
    (l13 : K.lookup f13 = some ⟨oc13, od13, .func (PySem.W.fnOf "_law_draw" "_law_draw" (defArgs s_law_draw) (defBody s_law_draw) (defScope s_law_draw) .none kV13 dc13 pm13 an13 cd13 ct13), sl13⟩)
    (c13 : PySem.W.codeIn K cd13 "_law_draw" = true) (k13 : PySem.W.keepIn K (.ref f13) = true)
    (a14 : PySem.W.nsIn K mainGlobals "_law_equal" = some (some (.ref f14)))
    (l14 : K.lookup f14 = some ⟨oc14, od14, .func (PySem.W.fnOf "_law_equal" "_law_equal" (defArgs s_law_equal) (defBody s_law_equal) (defScope s_law_equal) .none kV14 dc14 pm14 an14 cd14 ct14), sl14⟩)
    (c14 : PySem.W.codeIn K cd14 "_law_equal" = true) (k14 : PySem.W.keepIn K (.ref f14) = true)
    (a15 : PySem.W.nsIn K mainGlobals "_law_all_equal" = some (some (.ref f15)))
    (l15 : K.lookup f15 = some ⟨oc15, od15, .func (PySem.W.fnOf "_law_all_equal" "_law_all_equal" (defArgs s_law_all_equal) (defBody s_law_all_equal) (defScope s_law_all_equal) .none kV15 dc15 pm15 an15 cd15 ct15), sl15⟩)
    (c15 : PySem.W.codeIn K cd15 "_law_all_equal" = true) (k15 : PySem.W.keepIn K (.ref f15) = true)
    (a16 : PySem.W.nsIn K mainGlobals "_law_large" = some (some (.ref f16)))
    (l16 : K.lookup f16 = some ⟨oc16, od16, .func (PySem.W.fnOf "_law_large" "_law_large" (defArgs s_law_large) (defBody s_law_large) (defScope s_law_large) .none kV16 dc16 pm16 an16 cd16 ct16), sl16⟩)
    (c16 : PySem.W.codeIn K cd16 "_law_large" = true) (k16 : PySem.W.keepIn K (.ref f16) = true)
    (a17 : PySem.W.nsIn K mainGlobals "_law_constant" = some (some (.ref f17)))
    (l17 : K.lookup f17 = some ⟨oc17, od17, .func (PySem.W.fnOf "_law_constant" "_law_constant" (defArgs s_law_constant) (defBody s_law_constant) (defScope s_law_constant) .none kV17 dc17 pm17 an17 cd17 ct17), sl17⟩)
    (c17 : PySem.W.codeIn K cd17 "_law_constant" = true) (k17 : PySem.W.keepIn K (.ref f17) = true)
    (a18 : PySem.W.nsIn K mainGlobals "_law_leaf" = some (some (.ref f18)))
    (l18 : K.lookup f18 = some ⟨oc18, od18, .func (PySem.W.fnOf "_law_leaf" "_law_leaf" (defArgs s_law_leaf) (defBody s_law_leaf) (defScope s_law_leaf) .none kV18 dc18 pm18 an18 cd18 ct18), sl18⟩)
    (c18 : PySem.W.codeIn K cd18 "_law_leaf" = true) (k18 : PySem.W.keepIn K (.ref f18) = true)
    (a19 : PySem.W.nsIn K mainGlobals "_law_node" = some (some (.ref f19)))
    (l19 : K.lookup f19 = some ⟨oc19, od19, .func (PySem.W.fnOf "_law_node" "_law_node" (defArgs s_law_node) (defBody s_law_node) (defScope s_law_node) .none kV19 dc19 pm19 an19 cd19 ct19), sl19⟩)
    (c19 : PySem.W.codeIn K cd19 "_law_node" = true) (k19 : PySem.W.keepIn K (.ref f19) = true)
    (a20 : PySem.W.nsIn K mainGlobals "_law_source" = some (some (.ref f20)))
    (l20 : K.lookup f20 = some ⟨oc20, od20, .func (PySem.W.fnOf "_law_source" "_law_source" (defArgs s_law_source) (defBody s_law_source) (defScope s_law_source) .none kV20 dc20 pm20 an20 cd20 ct20), sl20⟩)
    (c20 : PySem.W.codeIn K cd20 "_law_source" = true) (k20 : PySem.W.keepIn K (.ref f20) = true)
    (a21 : PySem.W.nsIn K mainGlobals "_law_written" = some (some (.ref f21)))
    (l21 : K.lookup f21 = some ⟨oc21, od21, .func (PySem.W.fnOf "_law_written" "_law_written" (defArgs s_law_written) (defBody s_law_written) (defScope s_law_written) .none kV21 dc21 pm21 an21 cd21 ct21), sl21⟩)
    (c21 : PySem.W.codeIn K cd21 "_law_written" = true) (k21 : PySem.W.keepIn K (.ref f21) = true)
    (a22 : PySem.W.nsIn K mainGlobals "_law_count" = some (some (.ref f22)))
    (l22 : K.lookup f22 = some ⟨oc22, od22, .func (PySem.W.fnOf "_law_count" "_law_count" (defArgs s_law_count) (defBody s_law_count) (defScope s_law_count) .none kV22 dc22 pm22 an22 cd22 ct22), sl22⟩)
    (c22 : PySem.W.codeIn K cd22 "_law_count" = true) (k22 : PySem.W.keepIn K (.ref f22) = true)
    (a23 : PySem.W.nsIn K mainGlobals "_law_reference" = some (some (.ref f23)))
    (l23 : K.lookup f23 = some ⟨oc23, od23, .func (PySem.W.fnOf "_law_reference" "_law_reference" (defArgs s_law_reference) (defBody s_law_reference) (defScope s_law_reference) .none kV23 dc23 pm23 an23 cd23 ct23), sl23⟩)
    (c23 : PySem.W.codeIn K cd23 "_law_reference" = true) (k23 : PySem.W.keepIn K (.ref f23) = true)
    (a24 : PySem.W.nsIn K mainGlobals "_law_read" = some (some (.ref f24)))
    (l24 : K.lookup f24 = some ⟨oc24, od24, .func (PySem.W.fnOf "_law_read" "_law_read" (defArgs s_law_read) (defBody s_law_read) (defScope s_law_read) .none kV24 dc24 pm24 an24 cd24 ct24), sl24⟩)
    (c24 : PySem.W.codeIn K cd24 "_law_read" = true) (k24 : PySem.W.keepIn K (.ref f24) = true)
    (a25 : PySem.W.nsIn K mainGlobals "_law_parsed" = some (some (.ref f25)))
    (l25 : K.lookup f25 = some ⟨oc25, od25, .func (PySem.W.fnOf "_law_parsed" "_law_parsed" (defArgs s_law_parsed) (defBody s_law_parsed) (defScope s_law_parsed) .none kV25 dc25 pm25 an25 cd25 ct25), sl25⟩)
    (c25 : PySem.W.codeIn K cd25 "_law_parsed" = true) (k25 : PySem.W.keepIn K (.ref f25) = true)
    (a26 : PySem.W.nsIn K mainGlobals "_law_spoilt" = some (some (.ref f26)))
    (l26 : K.lookup f26 = some ⟨oc26, od26, .func (PySem.W.fnOf "_law_spoilt" "_law_spoilt" (defArgs s_law_spoilt) (defBody s_law_spoilt) (defScope s_law_spoilt) .none kV26 dc26 pm26 an26 cd26 ct26), sl26⟩)
    (c26 : PySem.W.codeIn K cd26 "_law_spoilt" = true) (k26 : PySem.W.keepIn K (.ref f26) = true)
    (a27 : PySem.W.nsIn K mainGlobals "_law_by_hand" = some (some (.ref f27)))
    (l27 : K.lookup f27 = some ⟨oc27, od27, .func (PySem.W.fnOf "_law_by_hand" "_law_by_hand" (defArgs s_law_by_hand) (defBody s_law_by_hand) (defScope s_law_by_hand) .none kV27 dc27 pm27 an27 cd27 ct27), sl27⟩)
    (c27 : PySem.W.codeIn K cd27 "_law_by_hand" = true) (k27 : PySem.W.keepIn K (.ref f27) = true)
    (a28 : PySem.W.nsIn K mainGlobals "_law_asked" = some (some (.ref f28)))
    (l28 : K.lookup f28 = some ⟨oc28, od28, .func (PySem.W.fnOf "_law_asked" "_law_asked" (defArgs s_law_asked) (defBody s_law_asked) (defScope s_law_asked) .none kV28 dc28 pm28 an28 cd28 ct28), sl28⟩)
    (c28 : PySem.W.codeIn K cd28 "_law_asked" = true) (k28 : PySem.W.keepIn K (.ref f28) = true)
    (a29 : PySem.W.nsIn K mainGlobals "law" = some (some (.ref f29)))
    (l29 : K.lookup f29 = some ⟨oc29, od29, .func (PySem.W.fnOf "law" "law" (defArgs s_law) (defBody s_law) (defScope s_law) .none kV29 dc29 pm29 an29 cd29 ct29), sl29⟩)
    (c29 : PySem.W.codeIn K cd29 "law" = true) (k29 : PySem.W.keepIn K (.ref f29) = true)
    (z_ValueError : PySem.W.nsIn K mainGlobals "ValueError" = some none)
    (z_all : PySem.W.nsIn K mainGlobals "all" = some none)
    (z_bool : PySem.W.nsIn K mainGlobals "bool" = some none)
    (z_enumerate : PySem.W.nsIn K mainGlobals "enumerate" = some none)
    (z_int : PySem.W.nsIn K mainGlobals "int" = some none)
    (z_isinstance : PySem.W.nsIn K mainGlobals "isinstance" = some none)
    (z_len : PySem.W.nsIn K mainGlobals "len" = some none)
    (z_list : PySem.W.nsIn K mainGlobals "list" = some none)
    (z_min : PySem.W.nsIn K mainGlobals "min" = some none)
    (z_range : PySem.W.nsIn K mainGlobals "range" = some none)
    (z_str : PySem.W.nsIn K mainGlobals "str" = some none)
    (z_tuple : PySem.W.nsIn K mainGlobals "tuple" = some none)
    (z_CONSTANTS_END : PySem.W.nsIn K mainGlobals "CONSTANTS_END" = some (some (.int 1000000000 t_CONSTANTS_END)))
    (z_MOST_FIGURES : PySem.W.nsIn K mainGlobals "MOST_FIGURES" = some (some (.int 9 t_MOST_FIGURES)))
    (z_MOST_INPUTS : PySem.W.nsIn K mainGlobals "MOST_INPUTS" = some (some (.int 60 t_MOST_INPUTS)))
    (z_MOST_NODES : PySem.W.nsIn K mainGlobals "MOST_NODES" = some (some (.int 200 t_MOST_NODES)))
    : ∃ fd : FuncData, (∀ (s : Shared) (v : Value), BindsTo s fd ⟨[v], []⟩ [("script", v)]) ∧ ∀ base : Heap, K.In base → base.Ns mainGlobals mg → FnOk l.prog w K mg base CX0 13 fa fd ["script"] (sp_law K) := by
  have e := hfa.symm.trans (PySem.W.mg_of X G a29)
  cases e
  have F0 := fun_mk (st := s_is_below) l0 c0 k0
  have b0 := F0.binds (ps := ["value", "bound"]) fun _ _ _ _ _ _ us hl => match us, hl with | [_, _], _ => rfl
  have F1 := fun_mk (st := s_are_nodes) l1 c1 k1
  have b1 := F1.binds (ps := ["source"]) fun _ _ _ _ _ _ us hl => match us, hl with | [_], _ => rfl
  have F2 := fun_mk (st := s_is_input) l2 c2 k2
  have b2 := F2.binds (ps := ["k"]) fun _ _ _ _ _ _ us hl => match us, hl with | [_], _ => rfl
  have F3 := fun_mk (st := s_are_before) l3 c3 k3
  have b3 : StarB (PySem.W.fnOf "are_before" "are_before" (defArgs s_are_before) (defBody s_are_before) (defScope s_are_before) .none kV3 dc3 pm3 an3 cd3 ct3) ["at"] "references" := StX.bind_star1 (B := fun xs => bindArgs (PySem.W.fnOf "are_before" "are_before" (defArgs s_are_before) (defBody s_are_before) (defScope s_are_before) .none kV3 dc3 pm3 an3 cd3 ct3) ⟨xs, []⟩) (fun a0 => rfl) (fun a0 r rs => rfl)
  have F4 := fun_mk (st := s_number_in) l4 c4 k4
  have b4 := F4.binds (ps := ["word", "most_figures"]) fun _ _ _ _ _ _ us hl => match us, hl with | [_, _], _ => rfl
  have F5 := fun_mk (st := s_is_source) l5 c5 k5
  have b5 := F5.binds (ps := ["source"]) fun _ _ _ _ _ _ us hl => match us, hl with | [_], _ => rfl
  have F6 := fun_mk (st := s_is_node) l6 c6 k6
  have b6 := F6.binds (ps := ["node", "at"]) fun _ _ _ _ _ _ us hl => match us, hl with | [_, _], _ => rfl
  have F7 := fun_mk (st := s_parse_source) l7 c7 k7
  have b7 := F7.binds (ps := ["text"]) fun _ _ _ _ _ _ us hl => match us, hl with | [_], _ => rfl
  have F8 := fun_mk (st := s_read_node) l8 c8 k8
  have b8 := F8.binds (ps := ["text"]) fun _ _ _ _ _ _ us hl => match us, hl with | [_], _ => rfl
  have F9 := fun_mk (st := s_read_leaf) l9 c9 k9
  have b9 := F9.binds (ps := ["word"]) fun _ _ _ _ _ _ us hl => match us, hl with | [_], _ => rfl
  have F10 := fun_mk (st := s_read_index) l10 c10 k10
  have b10 := F10.binds (ps := ["sign", "word"]) fun _ _ _ _ _ _ us hl => match us, hl with | [_, _], _ => rfl
  have F11 := fun_mk (st := s_law_mixed) l11 c11 k11
  have b11 := F11.binds (ps := ["number", "k"]) fun _ _ _ _ _ _ us hl => match us, hl with | [_, _], _ => rfl
  have F12 := fun_mk (st := s_law_numbers) l12 c12 k12
  have b12 := F12.binds (ps := ["script"]) fun _ _ _ _ _ _ us hl => match us, hl with | [_], _ => rfl
  have F13 := fun_mk (st := s_law_draw) l13 c13 k13
  have b13 := F13.binds (ps := ["draws"]) fun _ _ _ _ _ _ us hl => match us, hl with | [_], _ => rfl
  have F14 := fun_mk (st := s_law_equal) l14 c14 k14
  have b14 := F14.binds (ps := ["actual", "due"]) fun _ _ _ _ _ _ us hl => match us, hl with | [_, _], _ => rfl
  have F15 := fun_mk (st := s_law_all_equal) l15 c15 k15
  have b15 := F15.binds (ps := ["actual", "due"]) fun _ _ _ _ _ _ us hl => match us, hl with | [_, _], _ => rfl
  have F16 := fun_mk (st := s_law_large) l16 c16 k16
  have b16 := F16.binds (ps := ["draws", "bound"]) fun _ _ _ _ _ _ us hl => match us, hl with | [_, _], _ => rfl
  have F17 := fun_mk (st := s_law_constant) l17 c17 k17
  have b17 := F17.binds (ps := ["draws"]) fun _ _ _ _ _ _ us hl => match us, hl with | [_], _ => rfl
  have F18 := fun_mk (st := s_law_leaf) l18 c18 k18
  have b18 := F18.binds (ps := ["draws"]) fun _ _ _ _ _ _ us hl => match us, hl with | [_], _ => rfl
  have F19 := fun_mk (st := s_law_node) l19 c19 k19
  have b19 := F19.binds (ps := ["draws", "costs", "most"]) fun _ _ _ _ _ _ us hl => match us, hl with | [_, _, _], _ => rfl
  have F20 := fun_mk (st := s_law_source) l20 c20 k20
  have b20 := F20.binds (ps := ["draws", "most"]) fun _ _ _ _ _ _ us hl => match us, hl with | [_, _], _ => rfl
  have F21 := fun_mk (st := s_law_written) l21 c21 k21
  have b21 := F21.binds (ps := ["node"]) fun _ _ _ _ _ _ us hl => match us, hl with | [_], _ => rfl
  have F22 := fun_mk (st := s_law_count) l22 c22 k22
  have b22 := F22.binds (ps := ["word", "bound"]) fun _ _ _ _ _ _ us hl => match us, hl with | [_, _], _ => rfl
  have F23 := fun_mk (st := s_law_reference) l23 c23 k23
  have b23 := F23.binds (ps := ["word", "at"]) fun _ _ _ _ _ _ us hl => match us, hl with | [_, _], _ => rfl
  have F24 := fun_mk (st := s_law_read) l24 c24 k24
  have b24 := F24.binds (ps := ["text", "at"]) fun _ _ _ _ _ _ us hl => match us, hl with | [_, _], _ => rfl
  have F25 := fun_mk (st := s_law_parsed) l25 c25 k25
  have b25 := F25.binds (ps := ["text"]) fun _ _ _ _ _ _ us hl => match us, hl with | [_], _ => rfl
  have F26 := fun_mk (st := s_law_spoilt) l26 c26 k26
  have b26 := F26.binds (ps := ["draws", "text"]) fun _ _ _ _ _ _ us hl => match us, hl with | [_, _], _ => rfl
  have F27 := fun_mk (st := s_law_by_hand) l27 c27 k27
  have b27 := F27.binds (ps := ["draws"]) fun _ _ _ _ _ _ us hl => match us, hl with | [_], _ => rfl
  have F28 := fun_mk (st := s_law_asked) l28 c28 k28
  have b28 := F28.binds (ps := ["text"]) fun _ _ _ _ _ _ us hl => match us, hl with | [_], _ => rfl
  have F29 := fun_mk (st := s_law) l29 c29 k29
  have b29 := F29.binds (ps := ["script"]) fun _ _ _ _ _ _ us hl => match us, hl with | [_], _ => rfl
  exact ⟨PySem.W.fnOf "law" "law" (defArgs s_law) (defBody s_law) (defScope s_law) .none kV29 dc29 pm29 an29 cd29 ct29, fun s v => .of_eq rfl, fun base _ _ => ok_law (⟨_, _, F0, b0, PySem.W.mg_of X G a0, _, _, F1, b1, PySem.W.mg_of X G a1, _, _, F2, b2, PySem.W.mg_of X G a2, _, _, F3, b3, PySem.W.mg_of X G a3, _, _, F4, b4, PySem.W.mg_of X G a4, _, _, F5, b5, PySem.W.mg_of X G a5, _, _, F6, b6, PySem.W.mg_of X G a6, _, _, F7, b7, PySem.W.mg_of X G a7, _, _, F8, b8, PySem.W.mg_of X G a8, _, _, F9, b9, PySem.W.mg_of X G a9, _, _, F10, b10, PySem.W.mg_of X G a10, _, _, F11, b11, PySem.W.mg_of X G a11, _, _, F12, b12, PySem.W.mg_of X G a12, _, _, F13, b13, PySem.W.mg_of X G a13, _, _, F14, b14, PySem.W.mg_of X G a14, _, _, F15, b15, PySem.W.mg_of X G a15, _, _, F16, b16, PySem.W.mg_of X G a16, _, _, F17, b17, PySem.W.mg_of X G a17, _, _, F18, b18, PySem.W.mg_of X G a18, _, _, F19, b19, PySem.W.mg_of X G a19, _, _, F20, b20, PySem.W.mg_of X G a20, _, _, F21, b21, PySem.W.mg_of X G a21, _, _, F22, b22, PySem.W.mg_of X G a22, _, _, F23, b23, PySem.W.mg_of X G a23, _, _, F24, b24, PySem.W.mg_of X G a24, _, _, F25, b25, PySem.W.mg_of X G a25, _, _, F26, b26, PySem.W.mg_of X G a26, _, _, F27, b27, PySem.W.mg_of X G a27, _, _, F28, b28, PySem.W.mg_of X G a28, _, _, F29, b29, PySem.W.mg_of X G a29, E_BrimfulError, PySem.W.mg_of X G aE_BrimfulError, xE_BrimfulError, kE_BrimfulError, bE_BrimfulError, tE_BrimfulError, dE_BrimfulError, ⟨h1E_BrimfulError, h2E_BrimfulError, bE_BrimfulError, dE_BrimfulError, h3E_BrimfulError, hnE, htE, h4E_BrimfulError⟩, E_BadSource, PySem.W.mg_of X G aE_BadSource, xE_BadSource, kE_BadSource, bE_BadSource, tE_BadSource, dE_BadSource, ⟨h1E_BadSource, h2E_BadSource, bE_BadSource, dE_BadSource, h3E_BadSource, hnE, htE, h4E_BadSource⟩, E_BadText, PySem.W.mg_of X G aE_BadText, xE_BadText, kE_BadText, bE_BadText, tE_BadText, dE_BadText, ⟨h1E_BadText, h2E_BadText, bE_BadText, dE_BadText, h3E_BadText, hnE, htE, h4E_BadText⟩, vE_BrimfulError, vE_BadSource, vE_BadText, sE_BrimfulError_BrimfulError, sE_BrimfulError_BadSource, sE_BrimfulError_BadText, sE_BadSource_BrimfulError, sE_BadSource_BadSource, sE_BadSource_BadText, sE_BadText_BrimfulError, sE_BadText_BadSource, sE_BadText_BadText, PySem.W.mg_none_of X G z_ValueError, PySem.W.mg_none_of X G z_all, PySem.W.mg_none_of X G z_bool, PySem.W.mg_none_of X G z_enumerate, PySem.W.mg_none_of X G z_int, PySem.W.mg_none_of X G z_isinstance, PySem.W.mg_none_of X G z_len, PySem.W.mg_none_of X G z_list, PySem.W.mg_none_of X G z_min, PySem.W.mg_none_of X G z_range, PySem.W.mg_none_of X G z_str, PySem.W.mg_none_of X G z_tuple, _, PySem.W.mg_of X G z_CONSTANTS_END, _, PySem.W.mg_of X G z_MOST_FIGURES, _, PySem.W.mg_of X G z_MOST_INPUTS, _, PySem.W.mg_of X G z_MOST_NODES⟩ : Txt K mg)⟩
end
end Br
open PySem PySem.W PyProof.Rows
set_option maxRecDepth 100000 in
set_option maxHeartbeats 0 in
theorem PySem.Challenge.cw_brimful_k14_texts_are_parsed_holds : PySem.Challenge.rw_brimful_k14_texts_are_parsed.Holds := by
  w_on; o_law; k_head; (case hw => w_witness2)
  k_fill
  refine L2.walk_of (l := PySem.Challenge.rw_brimful_k14_texts_are_parsed) (n := 63) (k := 13) (x := "script") (CX := fun _ => L2.CX0) (sp := fun w => Br.sp_law _) rfl (by decide) rfl ⟨rfl, by decide, by decide⟩ (fun w h Y => PySem.W.kIn_of Y) ?F (fun _ _ a ns hl _ hS => ⟨a, ns, rfl, hS, hl, fun _ => rfl⟩) (fun _ _ _ _ _ h => h)
  case F =>
    intro w mg fa h KX G hmg
    refine' Br.all_mk KX G hmg ?hnE ?htE ?aE_BrimfulError ?xE_BrimfulError ?kE_BrimfulError ?bE_BrimfulError ?tE_BrimfulError ?dE_BrimfulError ?h1E_BrimfulError ?h2E_BrimfulError ?h3E_BrimfulError ?h4E_BrimfulError ?aE_BadSource ?xE_BadSource ?kE_BadSource ?bE_BadSource ?tE_BadSource ?dE_BadSource ?h1E_BadSource ?h2E_BadSource ?h3E_BadSource ?h4E_BadSource ?aE_BadText ?xE_BadText ?kE_BadText ?bE_BadText ?tE_BadText ?dE_BadText ?h1E_BadText ?h2E_BadText ?h3E_BadText ?h4E_BadText ?vE_BrimfulError ?vE_BadSource ?vE_BadText ?sE_BrimfulError_BrimfulError ?sE_BrimfulError_BadSource ?sE_BrimfulError_BadText ?sE_BadSource_BrimfulError ?sE_BadSource_BadSource ?sE_BadSource_BadText ?sE_BadText_BrimfulError ?sE_BadText_BadSource ?sE_BadText_BadText ?a0 ?l0 ?c0 ?k0 ?a1 ?l1 ?c1 ?k1 ?a2 ?l2 ?c2 ?k2 ?a3 ?l3 ?c3 ?k3 ?a4 ?l4 ?c4 ?k4 ?a5 ?l5 ?c5 ?k5 ?a6 ?l6 ?c6 ?k6 ?a7 ?l7 ?c7 ?k7 ?a8 ?l8 ?c8 ?k8 ?a9 ?l9 ?c9 ?k9 ?a10 ?l10 ?c10 ?k10 ?a11 ?l11 ?c11 ?k11 ?a12 ?l12 ?c12 ?k12 ?a13 ?l13 ?c13 ?k13 ?a14 ?l14 ?c14 ?k14 ?a15 ?l15 ?c15 ?k15 ?a16 ?l16 ?c16 ?k16 ?a17 ?l17 ?c17 ?k17 ?a18 ?l18 ?c18 ?k18 ?a19 ?l19 ?c19 ?k19 ?a20 ?l20 ?c20 ?k20 ?a21 ?l21 ?c21 ?k21 ?a22 ?l22 ?c22 ?k22 ?a23 ?l23 ?c23 ?k23 ?a24 ?l24 ?c24 ?k24 ?a25 ?l25 ?c25 ?k25 ?a26 ?l26 ?c26 ?k26 ?a27 ?l27 ?c27 ?k27 ?a28 ?l28 ?c28 ?k28 ?a29 ?l29 ?c29 ?k29 ?z_ValueError ?z_all ?z_bool ?z_enumerate ?z_int ?z_isinstance ?z_len ?z_list ?z_min ?z_range ?z_str ?z_tuple ?z_CONSTANTS_END ?z_MOST_FIGURES ?z_MOST_INPUTS ?z_MOST_NODES
    (case hnE => k_is)
    (case htE => k_is)
    (case aE_BrimfulError => k_is)
    (case xE_BrimfulError => k_exc)
    (case kE_BrimfulError => k_is)
    (case bE_BrimfulError => k_is)
    (case tE_BrimfulError => k_is)
    (case dE_BrimfulError => k_is)
    (case h1E_BrimfulError => k_is)
    (case h2E_BrimfulError => k_is)
    (case h3E_BrimfulError => k_is)
    (case h4E_BrimfulError => k_is)
    (case aE_BadSource => k_is)
    (case xE_BadSource => k_exc)
    (case kE_BadSource => k_is)
    (case bE_BadSource => k_is)
    (case tE_BadSource => k_is)
    (case dE_BadSource => k_is)
    (case h1E_BadSource => k_is)
    (case h2E_BadSource => k_is)
    (case h3E_BadSource => k_is)
    (case h4E_BadSource => k_is)
    (case aE_BadText => k_is)
    (case xE_BadText => k_exc)
    (case kE_BadText => k_is)
    (case bE_BadText => k_is)
    (case tE_BadText => k_is)
    (case dE_BadText => k_is)
    (case h1E_BadText => k_is)
    (case h2E_BadText => k_is)
    (case h3E_BadText => k_is)
    (case h4E_BadText => k_is)
    (case vE_BrimfulError => k_is)
    (case vE_BadSource => k_is)
    (case vE_BadText => k_is)
    (case sE_BrimfulError_BrimfulError => first | rfl | k_is)
    (case sE_BrimfulError_BadSource => first | rfl | k_is)
    (case sE_BrimfulError_BadText => first | rfl | k_is)
    (case sE_BadSource_BrimfulError => first | rfl | k_is)
    (case sE_BadSource_BadSource => first | rfl | k_is)
    (case sE_BadSource_BadText => first | rfl | k_is)
    (case sE_BadText_BrimfulError => first | rfl | k_is)
    (case sE_BadText_BadSource => first | rfl | k_is)
    (case sE_BadText_BadText => first | rfl | k_is)
    (case a0 => k_is)
    (case l0 => k_is)
    (case c0 => k_is)
    (case k0 => k_is)
    (case a1 => k_is)
    (case l1 => k_is)
    (case c1 => k_is)
    (case k1 => k_is)
    (case a2 => k_is)
    (case l2 => k_is)
    (case c2 => k_is)
    (case k2 => k_is)
    (case a3 => k_is)
    (case l3 => k_is)
    (case c3 => k_is)
    (case k3 => k_is)
    (case a4 => k_is)
    (case l4 => k_is)
    (case c4 => k_is)
    (case k4 => k_is)
    (case a5 => k_is)
    (case l5 => k_is)
    (case c5 => k_is)
    (case k5 => k_is)
    (case a6 => k_is)
    (case l6 => k_is)
    (case c6 => k_is)
    (case k6 => k_is)
    (case a7 => k_is)
    (case l7 => k_is)
    (case c7 => k_is)
    (case k7 => k_is)
    (case a8 => k_is)
    (case l8 => k_is)
    (case c8 => k_is)
    (case k8 => k_is)
    (case a9 => k_is)
    (case l9 => k_is)
    (case c9 => k_is)
    (case k9 => k_is)
    (case a10 => k_is)
    (case l10 => k_is)
    (case c10 => k_is)
    (case k10 => k_is)
    (case a11 => k_is)
    (case l11 => k_is)
    (case c11 => k_is)
    (case k11 => k_is)
    (case a12 => k_is)
    (case l12 => k_is)
    (case c12 => k_is)
    (case k12 => k_is)
    (case a13 => k_is)
    (case l13 => k_is)
    (case c13 => k_is)
    (case k13 => k_is)
    (case a14 => k_is)
    (case l14 => k_is)
    (case c14 => k_is)
    (case k14 => k_is)
    (case a15 => k_is)
    (case l15 => k_is)
    (case c15 => k_is)
    (case k15 => k_is)
    (case a16 => k_is)
    (case l16 => k_is)
    (case c16 => k_is)
    (case k16 => k_is)
    (case a17 => k_is)
    (case l17 => k_is)
    (case c17 => k_is)
    (case k17 => k_is)
    (case a18 => k_is)
    (case l18 => k_is)
    (case c18 => k_is)
    (case k18 => k_is)
    (case a19 => k_is)
    (case l19 => k_is)
    (case c19 => k_is)
    (case k19 => k_is)
    (case a20 => k_is)
    (case l20 => k_is)
    (case c20 => k_is)
    (case k20 => k_is)
    (case a21 => k_is)
    (case l21 => k_is)
    (case c21 => k_is)
    (case k21 => k_is)
    (case a22 => k_is)
    (case l22 => k_is)
    (case c22 => k_is)
    (case k22 => k_is)
    (case a23 => k_is)
    (case l23 => k_is)
    (case c23 => k_is)
    (case k23 => k_is)
    (case a24 => k_is)
    (case l24 => k_is)
    (case c24 => k_is)
    (case k24 => k_is)
    (case a25 => k_is)
    (case l25 => k_is)
    (case c25 => k_is)
    (case k25 => k_is)
    (case a26 => k_is)
    (case l26 => k_is)
    (case c26 => k_is)
    (case k26 => k_is)
    (case a27 => k_is)
    (case l27 => k_is)
    (case c27 => k_is)
    (case k27 => k_is)
    (case a28 => k_is)
    (case l28 => k_is)
    (case c28 => k_is)
    (case k28 => k_is)
    (case a29 => k_is)
    (case l29 => k_is)
    (case c29 => k_is)
    (case k29 => k_is)
    (case z_ValueError => k_is)
    (case z_all => k_is)
    (case z_bool => k_is)
    (case z_enumerate => k_is)
    (case z_int => k_is)
    (case z_isinstance => k_is)
    (case z_len => k_is)
    (case z_list => k_is)
    (case z_min => k_is)
    (case z_range => k_is)
    (case z_str => k_is)
    (case z_tuple => k_is)
    (case z_CONSTANTS_END => k_is)
    (case z_MOST_FIGURES => k_is)
    (case z_MOST_INPUTS => k_is)
    (case z_MOST_NODES => k_is)
