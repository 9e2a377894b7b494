import PyProof.Rows.All
import Wide.All
import OpenK.AllK
import Wide.FinOn
import HandS.ForMost
import HandS.Base
import HandS.Call
import HandS.List
import HandS.Comp
import HandS.Ends
import HandS.Dict
import HandS.Iter
import HandS.Text
import HandS.Words
import HandS.WordsList
import HandS.Codes
import HandS.Rev
import HandS.Conv
import HandS.TupAny
import HandS.SortInts
import HandS.Star
import HandS.TupLe
import HandS.ForExc
import HandS.TupMul
import PySem.Challenge.RW_tidemark_k07_contents_that_fit
set_option Elab.async false
set_option linter.all false
set_option maxRecDepth 100000
/-! Tm: short steps over the readings, one lemma a reading; continuations by name. -/
namespace Tm
open PySem PySem.Spec PyProof.Rows L2
abbrev St := L2.St

/-! ### continuations by name -/
def kAsg (g : TG) (σ : St) (nx : St → Hp → Prop) : VK := fun x H => g x σ H nx
def kDrop (nx : St → Hp → Prop) (σ : St) : VK := fun _ H => nx σ H
def kIf (t u : TS) (D : Ends) (σ : St) : Bool → Hp → Prop := fun b H => if b = true then t D σ H else u D σ H
def kO2 (r : R2) (x : V) (Q : VK) : VK := fun y H => r x y H Q
def kO1 (r : R2) (tb : TE) (σ : St) (Q : VK) : VK := fun x H => tb σ H (kO2 r x Q)
def kU (r : V → Hp → VK → Prop) (Q : VK) : VK := fun x H => r x H Q
def kB (Q : Bool → Hp → Prop) : VK := fun x H => ∃ k, x = .bl k ∧ Q k H
def kAnd (u : TT) (σ : St) (Q : Bool → Hp → Prop) : Bool → Hp → Prop := fun c H => if c = true then u σ H Q else Q false H
def kOr (u : TT) (σ : St) (Q : Bool → Hp → Prop) : Bool → Hp → Prop := fun c H => if c = true then Q true H else u σ H Q
def kNot (Q : Bool → Hp → Prop) : Bool → Hp → Prop := fun c H => Q (!c) H
def kAndV (tb : TE) (σ : St) (Q : VK) : VK := fun x H => ∃ c, x = .bl c ∧ if c = true then tb σ H Q else Q (.bl false) H
def kOrV (tb : TE) (σ : St) (Q : VK) : VK := fun x H => ∃ c, x = .bl c ∧ if c = true then Q (.bl true) H else tb σ H Q
def kNotV (Q : VK) : VK := fun x H => ∃ c, x = .bl c ∧ Q (.bl (!c)) H
def kIfE (ta tb : TE) (σ : St) (Q : VK) : Bool → Hp → Prop := fun c H => if c = true then ta σ H Q else tb σ H Q
def kC3 (r' : R2) (y : V) (Q : VK) : VK := fun z H => r' y z H Q
def kC2' (r' : R2) (tc : TE) (σ : St) (y : V) (Q : VK) : VK := fun z H => ∃ k, z = .bl k ∧ (if k = true then tc σ H (kC3 r' y Q) else Q (.bl false) H)
def kC2 (r r' : R2) (tc : TE) (σ : St) (x : V) (Q : VK) : VK := fun y H => r x y H (kC2' r' tc σ y Q)
def kC1 (r r' : R2) (tb tc : TE) (σ : St) (Q : VK) : VK := fun x H => tb σ H (kC2 r r' tc σ x Q)
def kA2 (x : V) (Q : List V → Hp → Prop) : List V → Hp → Prop := fun xs H => Q (x :: xs) H
def kA1 (tr : TA) (σ : St) (Q : List V → Hp → Prop) : VK := fun x H => tr σ H (kA2 x Q)
def kTup (Q : VK) : List V → Hp → Prop := fun xs H => xs.length ≤ sizeLine ∧ ∀ p, H p = none → Q (.ref p) (upd H p (.tup xs))
def kLst (Q : VK) : List V → Hp → Prop := fun xs H => xs.length ≤ sizeLine ∧ ∀ p, H p = none → Q (.ref p) (upd H p (.lst xs))
def kCall (sp : Sp) (E : XK) (Q : VK) : List V → Hp → Prop := fun vs H => sp vs H Q E
def kM2 (sp : Sp) (x : V) (E : XK) (Q : VK) : List V → Hp → Prop := fun vs H => sp (x :: vs) H Q E
def kM1 (m : Str) (C : Addr) (sp : Sp) (E : XK) (t : TA) (σ : St) (Q : VK) : VK := fun x H => ∃ a dx fs, x = .ref a ∧ H a = some (.ins C dx fs) ∧ fs.lookup m = none ∧ t σ H (kM2 sp x E Q)
def kMk (C : Addr) (sp : Sp) (E : XK) (Q : VK) : List V → Hp → Prop := fun vs H => ∀ x dx, H x = none → H dx = none → dx ≠ x → sp (.ref x :: vs) (upd (upd H dx (.own x)) x (.ins C dx [])) (fun v H2 => v = .non ∧ Q (.ref x) H2) E
def kFld (K : PySem.W.Frag) (f : Str) (Q : VK) : VK := fun x H => ∃ a C dx fs v, x = .ref a ∧ H a = some (.ins C dx fs) ∧ Cls K C ∧ NoAttr K C f ∧ fs.lookup f = some v ∧ Q v H
def kSF2 (K : PySem.W.Frag) (f : Str) (y : V) (σ : St) (nx : St → Hp → Prop) : VK := fun x H => ∃ a C dx fs, x = .ref a ∧ H a = some (.ins C dx fs) ∧ Cls K C ∧ NoAttr K C f ∧ fs.length < 1000 ∧ nx σ (upd H a (.ins C dx (putF f y fs)))
def kSF1 (K : PySem.W.Frag) (ta : TE) (f : Str) (σ : St) (nx : St → Hp → Prop) : VK := fun y H => ta σ H (kSF2 K f y σ nx)
def kCB (r : List V → Hp → VK → Prop) (Q : VK) : List V → Hp → Prop := fun vs H => r vs H Q
def kBM2 (r : V → List V → Hp → VK → Prop) (x : V) (Q : VK) : List V → Hp → Prop := fun xs H => r x xs H Q
def kBM (K : PySem.W.Frag) (T : String) (r : V → List V → Hp → VK → Prop) (t : TA) (σ : St) (Q : VK) : VK := fun x H => tyV K T x H ∧ t σ H (kBM2 r x Q)
def kBM0 (K : PySem.W.Frag) (T : String) (r : V → List V → Hp → VK → Prop) (Q : VK) : VK := fun x H => tyV K T x H ∧ r x [] H Q
def kS3 (r : V → Option Int → Option Int → Hp → VK → Prop) (x : V) (l : Option Int) (Q : VK) : Option Int → Hp → Prop := fun u H => r x l u H Q
def kS2 (r : V → Option Int → Option Int → Hp → VK → Prop) (th : TO) (σ : St) (x : V) (Q : VK) : Option Int → Hp → Prop := fun l H => th σ H (kS3 r x l Q)
def kS1 (r : V → Option Int → Option Int → Hp → VK → Prop) (tl th : TO) (σ : St) (Q : VK) : VK := fun x H => tl σ H (kS2 r th σ x Q)
def kPart (Q : Option Int → Hp → Prop) : VK := fun x H => ∃ i, x = .int i ∧ Q (some i) H
def kAug2 (i : Nat) (σ : St) (nx : St → Hp → Prop) : VK := fun z H => nx (σ.set i (some z)) H
def kAug1 (i : Nat) (ti : TIp) (x : V) (σ : St) (nx : St → Hp → Prop) : VK := fun y H => ti x y H (kAug2 i σ nx)
def kIL (K : PySem.W.Frag) (R : It → Hp → Prop) : VK := fun x H => ∃ a, x = .ref a ∧ (∃ xs, SqL K H a xs) ∧ R (Itl K a) H
def kIT (K : PySem.W.Frag) (R : It → Hp → Prop) : VK := fun x H => ∃ a, x = .ref a ∧ (∃ xs, SqT K H a xs) ∧ R (Itt K a) H
def kIR1 (R : It → Hp → Prop) : List V → Hp → Prop := fun vs H => ∃ j : Int, vs = [.int j] ∧ -(2 ^ 62) ≤ j ∧ j < 2 ^ 62 ∧ R (Itr 0 j.toNat) H
def kIR2 (R : It → Hp → Prop) : List V → Hp → Prop := fun vs H => ∃ i j : Int, vs = [.int i, .int j] ∧ (-(2 ^ 62) ≤ i ∧ i < 2 ^ 62 ∧ -(2 ^ 62) ≤ j ∧ j < 2 ^ 62) ∧ R (Itr i (j - i).toNat) H
/-- what is left of a for: the walked thing is there -/
def kFor (g : TG) (tb : TS) (D : Ends) (σ : St) : It → Hp → Prop := fun J H1 => ∃ W : Nat → Nat → St → Hp → Prop, (∃ m, W 0 m σ H1) ∧ ∀ i m σ H, W i m σ H →
  (J.stop i H ∧ D.nx σ H) ∨ (J.go i H ∧ ∃ N : St → Hp → Prop, (∀ σ' H', N σ' H' → ∃ m', m' < m ∧ W (i + 1) m' σ' H') ∧ ∀ x H', J.yld i H x H' → g x σ H' fun σ2 H2 => tb { D with nx := N, ct := N, bk := D.nx } σ2 H2)
/-- a turn's body, behind its target -/
def kBody (tb : TS) (D : Ends) : St → Hp → Prop := fun σ H => tb D σ H
def kLc3 (D : Addr) (N : Hp → Prop) : VK := fun y H4 => ∃ acc, H4 D = some (.lst acc) ∧ acc.length < sizeLine ∧ N (upd H4 D (.lst (acc ++ [y])))
def kLc2 (te : TE) (σ : St) (D : Addr) (N : Hp → Prop) : Bool → Hp → Prop := fun b H3 => if b = true then te σ H3 (kLc3 D N) else N H3
def kLc1 (tt : TT) (te : TE) (vs : List Nat) (σ : St) (D : Addr) (N : Hp → Prop) : St → Hp → Prop := fun σ2 H2 => wipe σ2 vs = wipe σ vs ∧ tt σ2 H2 (kLc2 te σ2 D N)
def kLc (g : TG) (tt : TT) (te : TE) (vs : List Nat) (σ : St) (Q : VK) : It → Hp → Prop := fun J H1 => ∀ D, H1 D = none → ∃ W : Nat → Nat → Hp → Prop, (∃ m, W 0 m (upd H1 D (.lst []))) ∧ ∀ i m H, W i m H →
  (J.stop i H ∧ Q (.ref D) H) ∨ (J.go i H ∧ ∃ Nx : Hp → Prop, (∀ H', Nx H' → ∃ m', m' < m ∧ W (i + 1) m' H') ∧ ∀ x H', J.yld i H x H' → g x (wipe σ vs) H' (kLc1 tt te vs σ D Nx))

section steps
variable {σ σ' : St} {H : Hp} {Q : VK} {nx bk ct : St → Hp → Prop} {rt : VK} {K : PySem.W.Frag}
/-! ### statements -/
theorem i_st {t : TS} {D : Ends} (e : σ = σ') (h : t D σ' H) : t D σ H := by rw [e]; exact h
theorem i_seq {t u : TS} (h : t ⟨u ⟨nx, rt, bk, ct⟩, rt, bk, ct⟩ σ H) : tSeq t u ⟨nx, rt, bk, ct⟩ σ H := h
theorem i_next (h : nx σ H) : tNext ⟨nx, rt, bk, ct⟩ σ H := h
theorem i_brk (h : bk σ H) : tBreak ⟨nx, rt, bk, ct⟩ σ H := h
theorem i_cnt (h : ct σ H) : tCont ⟨nx, rt, bk, ct⟩ σ H := h
theorem i_drop {te : TE} (h : te σ H (kDrop nx σ)) : tDrop te ⟨nx, rt, bk, ct⟩ σ H := h
theorem i_kDrop {x : V} (h : nx σ H) : kDrop nx σ x H := h
theorem i_ret {te : TE} (h : te σ H rt) : tRet te ⟨nx, rt, bk, ct⟩ σ H := h
theorem i_retN (h : rt .non H) : tRetN ⟨nx, rt, bk, ct⟩ σ H := h
theorem i_ifS {c : TT} {t u : TS} {D : Ends} (h : c σ H (kIf t u D σ)) : tIfS c t u D σ H := h
theorem i_kIfT {t u : TS} {D : Ends} (h : t D σ H) : kIf t u D σ true H := h
theorem i_kIfF {t u : TS} {D : Ends} (h : u D σ H) : kIf t u D σ false H := by show if false = true then _ else _; rw [if_neg Bool.false_ne_true]; exact h
theorem i_kIf {t u : TS} {D : Ends} {b : Bool} (h1 : b = true → t D σ H) (h2 : b = false → u D σ H) : kIf t u D σ b H := by
  cases b with
  | true => exact h1 rfl
  | false => exact i_kIfF (h2 rfl)
theorem i_kIfd {t u : TS} {D : Ends} {p : Prop} [Decidable p] (h1 : p → t D σ H) (h2 : ¬ p → u D σ H) : kIf t u D σ (decide p) H := i_kIf (fun e => h1 (of_decide_eq_true e)) (fun e => h2 (of_decide_eq_false e))
theorem i_kIfn {t u : TS} {D : Ends} {b : Bool} (h : kIf u t D σ b H) : kIf t u D σ (!b) H := by
  cases b with
  | true => exact i_kIfF h
  | false => exact i_kIfT (by exact h)
theorem i_kIfdT {t u : TS} {D : Ends} {p : Prop} [Decidable p] (hp : p) (h : t D σ H) : kIf t u D σ (decide p) H := i_kIfd (fun _ => h) (fun n => absurd hp n)
theorem i_kIfdF {t u : TS} {D : Ends} {p : Prop} [Decidable p] (hp : ¬ p) (h : u D σ H) : kIf t u D σ (decide p) H := i_kIfd (fun n => absurd n hp) (fun _ => h)
theorem i_asg {te : TE} {g : TG} (h : te σ H (kAsg g σ nx)) : tAsg te g ⟨nx, rt, bk, ct⟩ σ H := h
theorem i_kAsg {g : TG} {x : V} (h : g x σ H nx) : kAsg g σ nx x H := h
theorem i_gName {i : Nat} {v : V} (e : σ.set i (some v) = σ') (h : nx σ' H) : gName i v σ H nx := by show nx (σ.set i (some v)) H; rw [e]; exact h
theorem i_gNameW {i j : Nat} {v : V} {σ1 σ2 : St} {vs : List Nat} (hv : vs = [j]) (e1 : σ.set j none = σ1) (e2 : σ1.set i (some v) = σ2) (h : nx σ2 H) : gName i v (wipe σ vs) H nx := by
  subst hv
  show nx ((wipe σ [j]).set i (some v)) H
  have e : wipe σ [j] = σ.set j none := rfl
  rw [e, e1, e2]; exact h
theorem i_gTup {n : Nat} {t : TGs} {a : Addr} {xs : List V} (s : SqT K H a xs) (l : xs.length = n) (h : t xs σ H nx) : gTup K n t (.ref a) σ H nx := ⟨a, xs, rfl, s, l, h⟩
theorem i_gCons {t : TG} {u : TGs} {v : V} {r : List V} (h : t v σ H fun σ' H' => u r σ' H' nx) : gCons t u (v :: r) σ H nx := ⟨v, r, rfl, h⟩
theorem i_gNil (h : nx σ H) : gNil [] σ H nx := ⟨rfl, h⟩
theorem i_aug {i : Nat} {te : TE} {ti : TIp} {x : V} (e : σ[i]? = some (some x)) (h : te σ H (kAug1 i ti x σ nx)) : tAug i te ti ⟨nx, rt, bk, ct⟩ σ H := ⟨x, e, h⟩
theorem i_kAug1 {i : Nat} {ti : TIp} {x y : V} (h : ti x y H (kAug2 i σ nx)) : kAug1 i ti x σ nx y H := h
theorem i_kAug2 {i : Nat} {z : V} (e : σ.set i (some z) = σ') (h : nx σ' H) : kAug2 i σ nx z H := by show nx (σ.set i (some z)) H; rw [e]; exact h
theorem i_ipI {f : Int → Int → Int} {i j : Int} (h : Q (.int (f i j)) H) : ipI f (.int i) (.int j) H Q := ⟨i, j, rfl, rfl, h⟩
theorem i_sFld {ta tv : TE} {f : Str} (h : tv σ H (kSF1 K ta f σ nx)) : sFld K ta tv f ⟨nx, rt, bk, ct⟩ σ H := h
theorem i_kSF1 {ta : TE} {f : Str} {y : V} (h : ta σ H (kSF2 K f y σ nx)) : kSF1 K ta f σ nx y H := h
theorem i_kSF2 {f : Str} {y : V} {a C dx : Addr} {fs : List (Str × V)} (hp : H a = some (.ins C dx fs)) (c : Cls K C) (n : NoAttr K C f) (l : fs.length < 1000) (h : nx σ (upd H a (.ins C dx (putF f y fs)))) : kSF2 K f y σ nx (.ref a) H := ⟨a, C, dx, fs, rfl, hp, c, n, l, h⟩
theorem i_cut {t u : TS} (M : St → Hp → Prop) (h1 : t ⟨M, rt, bk, ct⟩ σ H) (h2 : ∀ σ' H', M σ' H' → u ⟨nx, rt, bk, ct⟩ σ' H') : C8.tCut t u ⟨nx, rt, bk, ct⟩ σ H := ⟨M, h1, h2⟩
/-! ### expressions -/
theorem i_var {i : Nat} {v : V} (e : σ[i]? = some (some v)) (h : Q v H) : tVar i σ H Q := ⟨v, e, h⟩
theorem i_c {v : V} (h : Q v H) : tC v σ H Q := h
theorem i_op {r : R2} {ta tb : TE} (h : ta σ H (kO1 r tb σ Q)) : tOp r ta tb σ H Q := h
theorem i_kO1 {r : R2} {tb : TE} {x : V} (h : tb σ H (kO2 r x Q)) : kO1 r tb σ Q x H := h
theorem i_kO2 {r : R2} {x y : V} (h : r x y H Q) : kO2 r x Q y H := h
theorem i_un {r : V → Hp → VK → Prop} {ta : TE} (h : ta σ H (kU r Q)) : tUn r ta σ H Q := h
theorem i_kU {r : V → Hp → VK → Prop} {x : V} (h : r x H Q) : kU r Q x H := h
theorem i_rI {C : Int → Int → Prop} {g : Int → Int → V} {i j : Int} (c : C i j) (h : Q (g i j) H) : rI C g (.int i) (.int j) H Q := ⟨i, j, rfl, rfl, c, h⟩
theorem i_rI0 {g : Int → Int → V} {i j : Int} (h : Q (g i j) H) : rI0 g (.int i) (.int j) H Q := ⟨i, j, rfl, rfl, h⟩
theorem i_rU {g : Int → V} {i : Int} (h : Q (g i) H) : rU g (.int i) H Q := ⟨i, rfl, h⟩
theorem i_rEqI {i j : Int} (h : Q (.bl (decide (i = j))) H) : rEq (.int i) (.int j) H Q := ⟨rfl, by
  have e : decide (V.int i = V.int j) = decide (i = j) := by by_cases z : i = j <;> simp [z]
  rw [e]; exact h⟩
theorem i_rNeI {i j : Int} (h : Q (.bl (!decide (i = j))) H) : rNe (.int i) (.int j) H Q := ⟨rfl, by
  have e : decide (V.int i = V.int j) = decide (i = j) := by by_cases z : i = j <;> simp [z]
  rw [e]; exact h⟩
theorem i_rEqS {i j : Str} (h : Q (.bl (decide (i = j))) H) : rEq (.str i) (.str j) H Q := ⟨rfl, by
  have e : decide (V.str i = V.str j) = decide (i = j) := by by_cases z : i = j <;> simp [z]
  rw [e]; exact h⟩
theorem i_rNeS {i j : Str} (h : Q (.bl (!decide (i = j))) H) : rNe (.str i) (.str j) H Q := ⟨rfl, by
  have e : decide (V.str i = V.str j) = decide (i = j) := by by_cases z : i = j <;> simp [z]
  rw [e]; exact h⟩
theorem i_rEqB {i j : Bool} (h : Q (.bl (decide (i = j))) H) : rEq (.bl i) (.bl j) H Q := ⟨rfl, by
  have e : decide (V.bl i = V.bl j) = decide (i = j) := by by_cases z : i = j <;> simp [z]
  rw [e]; exact h⟩
theorem i_rNeB {i j : Bool} (h : Q (.bl (!decide (i = j))) H) : rNe (.bl i) (.bl j) H Q := ⟨rfl, by
  have e : decide (V.bl i = V.bl j) = decide (i = j) := by by_cases z : i = j <;> simp [z]
  rw [e]; exact h⟩
theorem i_test {t : TE} {Q : Bool → Hp → Prop} (h : t σ H (kB Q)) : tTest t σ H Q := h
theorem i_tB {t : TE} {Q : Bool → Hp → Prop} (h : t σ H (kB Q)) : tB t σ H Q := h
theorem i_kB {b : Bool} {Q : Bool → Hp → Prop} (h : Q b H) : kB Q (.bl b) H := ⟨b, rfl, h⟩
theorem i_and {t u : TT} {Q : Bool → Hp → Prop} (h : t σ H (kAnd u σ Q)) : tAnd t u σ H Q := h
theorem i_or {t u : TT} {Q : Bool → Hp → Prop} (h : t σ H (kOr u σ Q)) : tOr t u σ H Q := h
theorem i_not {t : TT} {Q : Bool → Hp → Prop} (h : t σ H (kNot Q)) : tNot t σ H Q := h
theorem i_kNot {c : Bool} {Q : Bool → Hp → Prop} (h : Q (!c) H) : kNot Q c H := h
theorem i_kAndT {u : TT} {Q : Bool → Hp → Prop} (h : u σ H Q) : kAnd u σ Q true H := h
theorem i_kAndF {u : TT} {Q : Bool → Hp → Prop} (h : Q false H) : kAnd u σ Q false H := by show if false = true then _ else _; rw [if_neg Bool.false_ne_true]; exact h
theorem i_kOrT {u : TT} {Q : Bool → Hp → Prop} (h : Q true H) : kOr u σ Q true H := h
theorem i_kOrF {u : TT} {Q : Bool → Hp → Prop} (h : u σ H Q) : kOr u σ Q false H := by show if false = true then _ else _; rw [if_neg Bool.false_ne_true]; exact h
theorem i_kAnd {u : TT} {Q : Bool → Hp → Prop} {b : Bool} (h1 : b = true → u σ H Q) (h2 : b = false → Q false H) : kAnd u σ Q b H := by
  cases b with
  | true => exact h1 rfl
  | false => exact i_kAndF (h2 rfl)
theorem i_kOr {u : TT} {Q : Bool → Hp → Prop} {b : Bool} (h1 : b = true → Q true H) (h2 : b = false → u σ H Q) : kOr u σ Q b H := by
  cases b with
  | true => exact h1 rfl
  | false => exact i_kOrF (h2 rfl)
theorem i_andV {ta tb : TE} (h : ta σ H (kAndV tb σ Q)) : tAndV ta tb σ H Q := h
theorem i_orV {ta tb : TE} (h : ta σ H (kOrV tb σ Q)) : tOrV ta tb σ H Q := h
theorem i_notV {ta : TE} (h : ta σ H (kNotV Q)) : tNotV ta σ H Q := h
theorem i_kNotV {c : Bool} (h : Q (.bl (!c)) H) : kNotV Q (.bl c) H := ⟨c, rfl, h⟩
theorem i_kAndV {tb : TE} {b : Bool} (h1 : b = true → tb σ H Q) (h2 : b = false → Q (.bl false) H) : kAndV tb σ Q (.bl b) H := ⟨b, rfl, by
  cases b with
  | true => exact h1 rfl
  | false => rw [if_neg Bool.false_ne_true]; exact h2 rfl⟩
theorem i_kOrV {tb : TE} {b : Bool} (h1 : b = true → Q (.bl true) H) (h2 : b = false → tb σ H Q) : kOrV tb σ Q (.bl b) H := ⟨b, rfl, by
  cases b with
  | true => exact h1 rfl
  | false => rw [if_neg Bool.false_ne_true]; exact h2 rfl⟩
theorem i_ifE {t : TT} {ta tb : TE} (h : t σ H (kIfE ta tb σ Q)) : tIf t ta tb σ H Q := h
theorem i_kIfET {ta tb : TE} (h : ta σ H Q) : kIfE ta tb σ Q true H := h
theorem i_kIfEF {ta tb : TE} (h : tb σ H Q) : kIfE ta tb σ Q false H := by show if false = true then _ else _; rw [if_neg Bool.false_ne_true]; exact h
theorem i_kIfE {ta tb : TE} {b : Bool} (h1 : b = true → ta σ H Q) (h2 : b = false → tb σ H Q) : kIfE ta tb σ Q b H := by
  cases b with
  | true => exact h1 rfl
  | false => exact i_kIfEF (h2 rfl)
theorem i_kIfEd {ta tb : TE} {p : Prop} [Decidable p] (h1 : p → ta σ H Q) (h2 : ¬ p → tb σ H Q) : kIfE ta tb σ Q (decide p) H := i_kIfE (fun e => h1 (of_decide_eq_true e)) (fun e => h2 (of_decide_eq_false e))
theorem i_kIfEdT {ta tb : TE} {p : Prop} [Decidable p] (hp : p) (h : ta σ H Q) : kIfE ta tb σ Q (decide p) H := i_kIfEd (fun _ => h) (fun n => absurd hp n)
theorem i_kIfEdF {ta tb : TE} {p : Prop} [Decidable p] (hp : ¬ p) (h : tb σ H Q) : kIfE ta tb σ Q (decide p) H := i_kIfEd (fun n => absurd n hp) (fun _ => h)
theorem i_chain {r r' : R2} {ta tb tc : TE} (h : ta σ H (kC1 r r' tb tc σ Q)) : tChain r r' ta tb tc σ H Q := h
theorem i_kC1 {r r' : R2} {tb tc : TE} {x : V} (h : tb σ H (kC2 r r' tc σ x Q)) : kC1 r r' tb tc σ Q x H := h
theorem i_kC2 {r r' : R2} {tc : TE} {x y : V} (h : r x y H (kC2' r' tc σ y Q)) : kC2 r r' tc σ x Q y H := h
theorem i_kC2' {r' : R2} {tc : TE} {y : V} {b : Bool} (h1 : b = true → tc σ H (kC3 r' y Q)) (h2 : b = false → Q (.bl false) H) : kC2' r' tc σ y Q (.bl b) H := ⟨b, rfl, by
  cases b with
  | true => exact h1 rfl
  | false => rw [if_neg Bool.false_ne_true]; exact h2 rfl⟩
theorem i_kC3 {r' : R2} {y z : V} (h : r' y z H Q) : kC3 r' y Q z H := h
theorem i_nil {Q : List V → Hp → Prop} (h : Q [] H) : tNil σ H Q := h
theorem i_cons {ta : TE} {tr : TA} {Q : List V → Hp → Prop} (h : ta σ H (kA1 tr σ Q)) : tCons ta tr σ H Q := h
theorem i_kA1 {tr : TA} {Q : List V → Hp → Prop} {x : V} (h : tr σ H (kA2 x Q)) : kA1 tr σ Q x H := h
theorem i_kA2 {Q : List V → Hp → Prop} {x : V} {xs : List V} (h : Q (x :: xs) H) : kA2 x Q xs H := h
theorem i_tup {t : TA} (h : t σ H (kTup Q)) : tTup t σ H Q := h
theorem i_lst {t : TA} (h : t σ H (kLst Q)) : tLst t σ H Q := h
theorem i_kTup {xs : List V} (l : xs.length ≤ sizeLine) (h : ∀ p, H p = none → Q (.ref p) (upd H p (.tup xs))) : kTup Q xs H := ⟨l, h⟩
theorem i_kLst {xs : List V} (l : xs.length ≤ sizeLine) (h : ∀ p, H p = none → Q (.ref p) (upd H p (.lst xs))) : kLst Q xs H := ⟨l, h⟩
theorem i_call {sp : Sp} {E : XK} {t : TA} (h : t σ H (kCall sp E Q)) : tCall sp [] E t σ H Q := by
  show t σ H fun vs H1 => sp (vs ++ []) H1 Q E
  have e : (fun vs H1 => sp (vs ++ []) H1 Q E) = kCall sp E Q := by funext vs H1; rw [List.append_nil]; rfl
  rw [e]; exact h
theorem i_kCall {sp : Sp} {E : XK} {vs : List V} (h : sp vs H Q E) : kCall sp E Q vs H := h
theorem i_meth {C : Addr} {m : Str} {sp : Sp} {E : XK} {ta : TE} {t : TA} (h : ta σ H (kM1 m C sp E t σ Q)) : tMeth C m sp [] E ta t σ H Q := by
  have e : (kM1 m C sp E t σ Q) = (fun x H1 => ∃ a dx fs, x = .ref a ∧ H1 a = some (.ins C dx fs) ∧ fs.lookup m = none ∧ t σ H1 fun vs H2 => sp (x :: (vs ++ [])) H2 Q E) := by
    funext x H1; unfold kM1 kM2; simp only [List.append_nil]
  show ta σ H _
  rw [← e]; exact h
theorem i_kM1 {C : Addr} {m : Str} {sp : Sp} {E : XK} {t : TA} {a dx : Addr} {fs : List (Str × V)} (hp : H a = some (.ins C dx fs)) (l : fs.lookup m = none) (h : t σ H (kM2 sp (.ref a) E Q)) : kM1 m C sp E t σ Q (.ref a) H := ⟨a, dx, fs, rfl, hp, l, h⟩
theorem i_kM2 {sp : Sp} {E : XK} {x : V} {vs : List V} (h : sp (x :: vs) H Q E) : kM2 sp x E Q vs H := h
theorem i_make {C : Addr} {sp : Sp} {E : XK} {t : TA} (h : t σ H (kMk C sp E Q)) : tMake C sp [] E t σ H Q := by
  have e : (kMk C sp E Q) = (fun vs H1 => ∀ x dx, H1 x = none → H1 dx = none → dx ≠ x → sp (.ref x :: (vs ++ [])) (upd (upd H1 dx (.own x)) x (.ins C dx [])) (fun v H2 => v = .non ∧ Q (.ref x) H2) E) := by
    funext vs H1; unfold kMk; simp only [List.append_nil]
  show t σ H _
  rw [← e]; exact h
theorem i_fld {ta : TE} {f : Str} (h : ta σ H (kFld K f Q)) : tFld K ta f σ H Q := h
theorem i_kFld {f : Str} {a C dx : Addr} {fs : List (Str × V)} {v : V} (hp : H a = some (.ins C dx fs)) (c : Cls K C) (n : NoAttr K C f) (l : fs.lookup f = some v) (h : Q v H) : kFld K f Q (.ref a) H := ⟨a, C, dx, fs, v, rfl, hp, c, n, l, h⟩
theorem i_cb {r : List V → Hp → VK → Prop} {t : TA} (h : t σ H (kCB r Q)) : tCB r t σ H Q := h
theorem i_kCB {r : List V → Hp → VK → Prop} {vs : List V} (h : r vs H Q) : kCB r Q vs H := h
theorem i_bm {T : String} {r : V → List V → Hp → VK → Prop} {to : TE} {t : TA} (h : to σ H (kBM K T r t σ Q)) : tBM K T r to t σ H Q := h
theorem i_bm0 {T : String} {r : V → List V → Hp → VK → Prop} {to : TE} (h : to σ H (kBM0 K T r Q)) : tBM0 K T r to σ H Q := h
theorem i_kBMl {r : V → List V → Hp → VK → Prop} {t : TA} {l : Addr} {xs : List V} (s : SqL K H l xs) (h : t σ H (kBM2 r (.ref l) Q)) : kBM K "list" r t σ Q (.ref l) H := ⟨.inl ⟨rfl, _, s⟩, h⟩
theorem i_kBM0l {r : V → List V → Hp → VK → Prop} {l : Addr} {xs : List V} (s : SqL K H l xs) (h : r (.ref l) [] H Q) : kBM0 K "list" r Q (.ref l) H := ⟨.inl ⟨rfl, _, s⟩, h⟩
theorem i_kBM2 {r : V → List V → Hp → VK → Prop} {x : V} {xs : List V} (h : r x xs H Q) : kBM2 r x Q xs H := h
theorem i_append {l : Addr} {xs : List V} {y : V} (hl : H l = some (.lst xs)) (z : xs.length < sizeLine) (h : Q .non (upd H l (.lst (xs ++ [y])))) : rAppend (.ref l) [y] H Q := ⟨l, xs, y, rfl, rfl, hl, z, h⟩
theorem i_extend {l b : Addr} {xs zs : List V} (hl : H l = some (.lst xs)) (hb : H b = some (.lst zs)) (z : xs.length + zs.length ≤ sizeLine) (h : Q .non (upd H l (.lst (xs ++ zs)))) : rExtend (.ref l) [.ref b] H Q := ⟨l, b, xs, zs, rfl, rfl, hl, hb, z, h⟩
theorem i_cat {l b : Addr} {xs zs : List V} (hl : H l = some (.lst xs)) (hb : H b = some (.lst zs)) (z : xs.length + zs.length ≤ sizeLine) (h : ∀ p, H p = none → Q (.ref p) (upd H p (.lst (xs ++ zs)))) : rCat (.ref l) (.ref b) H Q := ⟨l, b, xs, zs, rfl, rfl, hl, hb, z, h⟩
theorem i_rep {l : Addr} {xs : List V} {k : Int} (hl : H l = some (.lst xs)) (k1 : -(2 ^ 63) ≤ k) (k2 : k < 2 ^ 63) (z : xs.length * k.toNat ≤ sizeLine) (h : ∀ p, H p = none → Q (.ref p) (upd H p (.lst (List.replicate k.toNat xs).flatten))) : rRep (.ref l) (.int k) H Q := ⟨l, k, xs, rfl, rfl, hl, k1, k2, z, h⟩
theorem i_ixL {p : Addr} {xs : List V} {i : Int} {v : V} (s : SqL K H p xs) (e : atI xs i = some v) (h : Q v H) : rIxL K (.ref p) (.int i) H Q := ⟨p, xs, i, v, rfl, rfl, s, e, h⟩
theorem i_ixT {p : Addr} {xs : List V} {i : Int} {v : V} (s : SqT K H p xs) (e : atI xs i = some v) (h : Q v H) : rIxT K (.ref p) (.int i) H Q := ⟨p, xs, i, v, rfl, rfl, s, e, h⟩
theorem i_sl {r : V → Option Int → Option Int → Hp → VK → Prop} {te : TE} {tl th : TO} (h : te σ H (kS1 r tl th σ Q)) : tSl r te tl th σ H Q := h
theorem i_kS1 {r : V → Option Int → Option Int → Hp → VK → Prop} {tl th : TO} {x : V} (h : tl σ H (kS2 r th σ x Q)) : kS1 r tl th σ Q x H := h
theorem i_kS2 {r : V → Option Int → Option Int → Hp → VK → Prop} {th : TO} {x : V} {l : Option Int} (h : th σ H (kS3 r x l Q)) : kS2 r th σ x Q l H := h
theorem i_kS3 {r : V → Option Int → Option Int → Hp → VK → Prop} {x : V} {l u : Option Int} (h : r x l u H Q) : kS3 r x l Q u H := h
theorem i_noPart {Q : Option Int → Hp → Prop} (h : Q none H) : tNoPart σ H Q := h
theorem i_part {t : TE} {Q : Option Int → Hp → Prop} (h : t σ H (kPart Q)) : tPart t σ H Q := h
theorem i_kPart {Q : Option Int → Hp → Prop} {i : Int} (h : Q (some i) H) : kPart Q (.int i) H := ⟨i, rfl, h⟩
theorem i_slL {a : Addr} {xs : List V} {lo hi : Option Int} (s : SqL K H a xs) (h : ∀ p, H p = none → Q (.ref p) (upd H p (.lst (cutV xs lo hi)))) : rSlL K (.ref a) lo hi H Q := ⟨a, xs, rfl, s, h⟩
/-! ### what is walked -/
theorem i_for {wi : TI} {g : TG} {tb : TS} {D : Ends} (h : wi σ H (kFor g tb D σ)) : tFor wi g tb D σ H := h
theorem i_lc {wi : TI} {g : TG} {tt : TT} {te : TE} {vs : List Nat} (h : wi σ H (kLc g tt te vs σ Q)) : tLc wi g tt te vs σ H Q := h
theorem i_iList {tl : TE} {R : It → Hp → Prop} (h : tl σ H (kIL K R)) : iList K tl σ H R := h
theorem i_iTup {tl : TE} {R : It → Hp → Prop} (h : tl σ H (kIT K R)) : iTup K tl σ H R := h
theorem i_iRng1 {ta : TA} {R : It → Hp → Prop} (h : ta σ H (kIR1 R)) : iRng1 ta σ H R := h
theorem i_iRng2 {ta : TA} {R : It → Hp → Prop} (h : ta σ H (kIR2 R)) : iRng2 ta σ H R := h
theorem i_kIL {R : It → Hp → Prop} {a : Addr} {xs : List V} (s : SqL K H a xs) (h : R (Itl K a) H) : kIL K R (.ref a) H := ⟨a, rfl, ⟨xs, s⟩, h⟩
theorem i_kIT {R : It → Hp → Prop} {a : Addr} {xs : List V} (s : SqT K H a xs) (h : R (Itt K a) H) : kIT K R (.ref a) H := ⟨a, rfl, ⟨xs, s⟩, h⟩
theorem i_kIR1 {R : It → Hp → Prop} {j : Int} (a : -(2 ^ 62) ≤ j) (b : j < 2 ^ 62) (h : R (Itr 0 j.toNat) H) : kIR1 R [.int j] H := ⟨j, rfl, a, b, h⟩
theorem i_kIR2 {R : It → Hp → Prop} {i j : Int} (a : -(2 ^ 62) ≤ i) (b : i < 2 ^ 62) (c : -(2 ^ 62) ≤ j) (d : j < 2 ^ 62) (h : R (Itr i (j - i).toNat) H) : kIR2 R [.int i, .int j] H := ⟨i, j, rfl, ⟨a, b, c, d⟩, h⟩
/-- for over a list that stands still -/
theorem i_forL {a : Addr} {g : TG} {tb : TS} (xs : List V) (Pv : Nat → St → Hp → Prop) (h0 : Pv 0 σ H) (hl : ∀ i σ H, i ≤ xs.length → Pv i σ H → SqL K H a xs)
    (hs : ∀ i x σ H, xs[i]? = some x → Pv i σ H → g x σ H (kBody tb ⟨Pv (i + 1), rt, nx, Pv (i + 1)⟩)) (hd : ∀ σ H, Pv xs.length σ H → nx σ H) : kFor g tb ⟨nx, rt, bk, ct⟩ σ (Itl K a) H :=
  for_list (D := ⟨nx, rt, bk, ct⟩) Pv h0 hl hs hd
theorem i_forT {a : Addr} {g : TG} {tb : TS} (xs : List V) (Pv : Nat → St → Hp → Prop) (h0 : Pv 0 σ H) (hl : ∀ i σ H, i ≤ xs.length → Pv i σ H → SqT K H a xs)
    (hs : ∀ i x σ H, xs[i]? = some x → Pv i σ H → g x σ H (kBody tb ⟨Pv (i + 1), rt, nx, Pv (i + 1)⟩)) (hd : ∀ σ H, Pv xs.length σ H → nx σ H) : kFor g tb ⟨nx, rt, bk, ct⟩ σ (Itt K a) H :=
  for_tup (D := ⟨nx, rt, bk, ct⟩) Pv h0 hl hs hd
theorem i_forR {lo : Int} {n : Nat} {g : TG} {tb : TS} (Pv : Nat → St → Hp → Prop) (h0 : Pv 0 σ H)
    (hs : ∀ i σ H, i < n → Pv i σ H → g (.int (lo + i)) σ H (kBody tb ⟨Pv (i + 1), rt, nx, Pv (i + 1)⟩)) (hd : ∀ σ H, Pv n σ H → nx σ H) : kFor g tb ⟨nx, rt, bk, ct⟩ σ (Itr lo n) H :=
  for_range (D := ⟨nx, rt, bk, ct⟩) Pv h0 hs hd
theorem i_forR0 {n : Nat} {g : TG} {tb : TS} (Pv : Nat → St → Hp → Prop) (h0 : Pv 0 σ H)
    (hs : ∀ (i : Nat) σ H, i < n → Pv i σ H → g (.int (i : Int)) σ H (kBody tb ⟨Pv (i + 1), rt, nx, Pv (i + 1)⟩)) (hd : ∀ σ H, Pv n σ H → nx σ H) : kFor g tb ⟨nx, rt, bk, ct⟩ σ (Itr 0 n) H :=
  i_forR Pv h0 (fun i σ H hi p => by rw [Int.zero_add]; exact hs i σ H hi p) hd
theorem i_body {tb : TS} {D : Ends} (h : tb D σ H) : kBody tb D σ H := h
theorem i_lcR {lo : Int} {n : Nat} {g : TG} {tt : TT} {te : TE} {vs : List Nat} (Pv : Addr → Nat → Hp → Prop) (h0 : ∀ D, H D = none → Pv D 0 (upd H D (.lst [])))
    (hs : ∀ D i H1, H D = none → i < n → Pv D i H1 → g (.int (lo + i)) (wipe σ vs) H1 (kLc1 tt te vs σ D (Pv D (i + 1)))) (hd : ∀ D H1, H D = none → Pv D n H1 → Q (.ref D) H1) : kLc g tt te vs σ Q (Itr lo n) H :=
  fun D hD => lc_range (Qd := Q (.ref D)) (Pv D) (h0 D hD) (fun i H1 hi p => hs D i H1 hD hi p) (fun H1 p => hd D H1 hD p)
theorem i_lcR0 {n : Nat} {g : TG} {tt : TT} {te : TE} {vs : List Nat} (Pv : Addr → Nat → Hp → Prop) (h0 : ∀ D, H D = none → Pv D 0 (upd H D (.lst [])))
    (hs : ∀ D (i : Nat) H1, H D = none → i < n → Pv D i H1 → g (.int (i : Int)) (wipe σ vs) H1 (kLc1 tt te vs σ D (Pv D (i + 1)))) (hd : ∀ D H1, H D = none → Pv D n H1 → Q (.ref D) H1) : kLc g tt te vs σ Q (Itr 0 n) H :=
  i_lcR Pv h0 (fun D i H1 hD hi p => by rw [Int.zero_add]; exact hs D i H1 hD hi p) hd
theorem i_lcL {a : Addr} {g : TG} {tt : TT} {te : TE} {vs : List Nat} (xs : List V) (Pv : Addr → Nat → Hp → Prop) (h0 : ∀ D, H D = none → Pv D 0 (upd H D (.lst []))) (hl : ∀ D i H1, H D = none → i ≤ xs.length → Pv D i H1 → SqL K H1 a xs)
    (hs : ∀ D i x H1, H D = none → xs[i]? = some x → Pv D i H1 → g x (wipe σ vs) H1 (kLc1 tt te vs σ D (Pv D (i + 1)))) (hd : ∀ D H1, H D = none → Pv D xs.length H1 → Q (.ref D) H1) : kLc g tt te vs σ Q (Itl K a) H :=
  fun D hD => lc_list (Qd := Q (.ref D)) (Pv D) (h0 D hD) (fun i H1 hi p => hl D i H1 hD hi p) (fun i x H1 hi p => hs D i x H1 hD hi p) (fun H1 p => hd D H1 hD p)
theorem i_lcT {a : Addr} {g : TG} {tt : TT} {te : TE} {vs : List Nat} (xs : List V) (Pv : Addr → Nat → Hp → Prop) (h0 : ∀ D, H D = none → Pv D 0 (upd H D (.lst []))) (hl : ∀ D i H1, H D = none → i ≤ xs.length → Pv D i H1 → SqT K H1 a xs)
    (hs : ∀ D i x H1, H D = none → xs[i]? = some x → Pv D i H1 → g x (wipe σ vs) H1 (kLc1 tt te vs σ D (Pv D (i + 1)))) (hd : ∀ D H1, H D = none → Pv D xs.length H1 → Q (.ref D) H1) : kLc g tt te vs σ Q (Itt K a) H :=
  fun D hD => lc_tup (Qd := Q (.ref D)) (Pv D) (h0 D hD) (fun i H1 hi p => hl D i H1 hD hi p) (fun i x H1 hi p => hs D i x H1 hD hi p) (fun H1 p => hd D H1 hD p)
theorem i_kLc1 {tt : TT} {te : TE} {vs : List Nat} {σ2 : St} {D : Addr} {N : Hp → Prop} (e : wipe σ2 vs = wipe σ vs) (h : tt σ2 H (kLc2 te σ2 D N)) : kLc1 tt te vs σ D N σ2 H := ⟨e, h⟩
theorem i_yes {Q : Bool → Hp → Prop} (h : Q true H) : tYes σ H Q := h
theorem i_kLc2T {te : TE} {D : Addr} {N : Hp → Prop} (h : te σ H (kLc3 D N)) : kLc2 te σ D N true H := h
theorem i_kLc2F {te : TE} {D : Addr} {N : Hp → Prop} (h : N H) : kLc2 te σ D N false H := by show if false = true then _ else _; rw [if_neg Bool.false_ne_true]; exact h
theorem i_kLc3 {D : Addr} {N : Hp → Prop} {acc : List V} {y : V} (e : H D = some (.lst acc)) (z : acc.length < sizeLine) (h : N (upd H D (.lst (acc ++ [y])))) : kLc3 D N y H := ⟨acc, e, z, h⟩
end steps

/-! ### readings by name, of rules whose own are raw -/
def rLen (K : PySem.W.Frag) : List V → Hp → VK → Prop := fun xs H Q => ∃ p ys, xs = [.ref p] ∧ (SqL K H p ys ∨ SqT K H p ys) ∧ Q (.int ys.length) H
def rLenS : List V → Hp → VK → Prop := fun xs H Q => ∃ z, xs = [.str z] ∧ z.length ≤ sizeLine ∧ Q (.int z.length) H
def rInt : List V → Hp → VK → Prop := fun xs H Q => (∃ i, xs = [.int i] ∧ Q (.int i) H) ∨ ∃ k, xs = [.bl k] ∧ Q (.int (if k then 1 else 0)) H
def rListOf (K : PySem.W.Frag) : List V → Hp → VK → Prop := fun xs H Q => ∃ p ys, xs = [.ref p] ∧ (SqL K H p ys ∨ SqT K H p ys) ∧ ∀ l, H l = none → Q (.ref l) (upd H l (.lst ys))
def rTupOf (K : PySem.W.Frag) : List V → Hp → VK → Prop := fun xs H Q => ∃ p ys, xs = [.ref p] ∧ ((SqL K H p ys ∧ ∀ l, H l = none → Q (.ref l) (upd H l (.tup ys))) ∨ (SqT K H p ys ∧ Q (.ref p) H))
def rIsN : R2 := fun x y H Q => y = .non ∧ Q (.bl (decide (x = .non))) H
def rNotN : R2 := fun x y H Q => y = .non ∧ Q (.bl (!decide (x = .non))) H
section
variable {X : Cx}
theorem c_len : CallR X (.builtin "len") (rLen X.K) := call_len_seq
theorem c_lenS : CallR X (.builtin "len") rLenS := call_len_str
theorem c_int : CallR X (.type "int") rInt := call_int1
theorem c_list : CallR X (.type "list") (rListOf X.K) := call_list_of
theorem c_tuple : CallR X (.type "tuple") (rTupOf X.K) := call_tuple_of
theorem o_isN : OpR X (compareOp .Is) rIsN := op_isN
theorem o_notN : OpR X (compareOp .IsNot) rNotN := op_notN
end
section
variable {σ : St} {H : Hp} {Q : VK} {K : PySem.W.Frag}
theorem i_lenL {p : Addr} {ys : List V} (s : SqL K H p ys) (h : Q (.int ys.length) H) : rLen K [.ref p] H Q := ⟨p, ys, rfl, .inl s, h⟩
theorem i_lenT {p : Addr} {ys : List V} (s : SqT K H p ys) (h : Q (.int ys.length) H) : rLen K [.ref p] H Q := ⟨p, ys, rfl, .inr s, h⟩
theorem i_lenS {z : Str} (l : z.length ≤ sizeLine) (h : Q (.int z.length) H) : rLenS [.str z] H Q := ⟨z, rfl, l, h⟩
theorem i_int {i : Int} (h : Q (.int i) H) : rInt [.int i] H Q := .inl ⟨i, rfl, h⟩
theorem i_listL {p : Addr} {ys : List V} (s : SqL K H p ys) (h : ∀ l, H l = none → Q (.ref l) (upd H l (.lst ys))) : rListOf K [.ref p] H Q := ⟨p, ys, rfl, .inl s, h⟩
theorem i_listT {p : Addr} {ys : List V} (s : SqT K H p ys) (h : ∀ l, H l = none → Q (.ref l) (upd H l (.lst ys))) : rListOf K [.ref p] H Q := ⟨p, ys, rfl, .inr s, h⟩
theorem i_tupL {p : Addr} {ys : List V} (s : SqL K H p ys) (h : ∀ l, H l = none → Q (.ref l) (upd H l (.tup ys))) : rTupOf K [.ref p] H Q := ⟨p, ys, rfl, .inl ⟨s, h⟩⟩
theorem i_tupT {p : Addr} {ys : List V} (s : SqT K H p ys) (h : Q (.ref p) H) : rTupOf K [.ref p] H Q := ⟨p, ys, rfl, .inr ⟨s, h⟩⟩
theorem i_isN {x : V} (h : Q (.bl (decide (x = .non))) H) : rIsN x .non H Q := ⟨rfl, h⟩
theorem i_notN {x : V} (h : Q (.bl (!decide (x = .non))) H) : rNotN x .non H Q := ⟨rfl, h⟩
theorem i_eqD {x y : V} {d e : PyData} (a : Dp K H x d) (b : Dp K H y e) (sd : SeqAt.shaped d = true) (se : SeqAt.shaped e = true) (h : Q (.bl (PyData.eqv d e)) H) : rEqD K x y H Q := ⟨d, e, a, b, sd, se, h⟩
theorem i_neD {x y : V} {d e : PyData} (a : Dp K H x d) (b : Dp K H y e) (sd : SeqAt.shaped d = true) (se : SeqAt.shaped e = true) (h : Q (.bl (!PyData.eqv d e)) H) : rNeD K x y H Q := ⟨d, e, a, b, sd, se, h⟩
end

/-! ### items of lists -/
theorem sz {n : Nat} (h : n ≤ 1000) : n ≤ sizeLine := Nat.le_of_lt (small1000 h)
theorem atI_map {α : Type} (f : α → V) (xs : List α) (j : Int) (d : α) (h0 : 0 ≤ j) (h1 : j < xs.length) : atI (xs.map f) j = some (f (xs.getD j.toNat d)) := by
  have e : j = ((j.toNat : Nat) : Int) := by omega
  rw [e]
  refine atI_nat ?_
  have hj : j.toNat < xs.length := by omega
  rw [List.getElem?_map, List.getElem?_eq_getElem hj, Int.toNat_natCast, List.getD_eq_getElem?_getD, List.getElem?_eq_getElem hj]
  rfl
theorem map_at {α : Type} {f : α → V} {l : List α} {i : Nat} {x : V} (h : (l.map f)[i]? = some x) : ∃ z, l[i]? = some z ∧ x = f z := by
  rw [List.getElem?_map] at h
  cases e : l[i]? with
  | none => rw [e] at h; cases h
  | some z => rw [e] at h; exact ⟨z, rfl, (Option.some.inj h).symm⟩
theorem getD_mem' {α : Type} (xs : List α) (j : Nat) (d : α) (h : j < xs.length) : xs.getD j d ∈ xs := by
  rw [List.getD_eq_getElem?_getD, List.getElem?_eq_getElem h]
  exact List.getElem_mem h
/-! ### states and heaps -/
theorem set_z {α : Type} {x y : α} {r : List α} : (x :: r).set 0 y = y :: r := rfl
theorem set_s {α : Type} {x y : α} {r r' : List α} {i : Nat} (h : r.set i y = r') : (x :: r).set (i + 1) y = x :: r' := by rw [List.set_cons_succ, h]
theorem get_z {α : Type} {x : α} {r : List α} : (x :: r)[0]? = some x := rfl
theorem get_s {α : Type} {x : α} {r : List α} {i : Nat} {y : α} (h : r[i]? = some y) : (x :: r)[i + 1]? = some y := by rw [List.getElem?_cons_succ]; exact h
theorem upd_get {H : Hp} {a p : Addr} {o u : HO} (n : a ≠ p) (h : H a = some u) : upd H p o a = some u := by rw [upd_ne n]; exact h
theorem upd_free {H : Hp} {a p : Addr} {o : HO} (n : a ≠ p) (h : H a = none) : upd H p o a = none := by rw [upd_ne n]; exact h
theorem free_upd {H : Hp} {a p : Addr} {o : HO} (h : upd H p o a = none) : a ≠ p ∧ H a = none := by
  have n : a ≠ p := fun e => by rw [e, upd_same] at h; cases h
  exact ⟨n, by rw [upd_ne n] at h; exact h⟩
theorem same_upd'  {H : Hp} {p : Addr} {o : HO} (h : H p = none) : Same H (upd H p o) := fun b x e => by rw [upd_ne (ne_of_none e h)]; exact e
theorem same_upd {H : Hp} {p : Addr} {o : HO} (h : H p = none) : Same H (upd H p o) := fun b x e => by rw [upd_ne (ne_of_none e h)]; exact e
theorem same_wr {H H1 : Hp} {x : Addr} {o : HO} (n : H x = none) (s : Same H H1) : Same H (upd H1 x o) := fun b u e => upd_get (ne_of_none e n) (s b u e)
theorem sqL_upd {K : PySem.W.Frag} {H : Hp} {a p : Addr} {o : HO} {xs : List V} (n : a ≠ p) (h : SqL K H a xs) : SqL K (upd H p o) a xs := by
  rcases h with (h | ⟨u, h⟩) | h
  · exact .inl (.inl (upd_get n h))
  · exact .inl (.inr ⟨u, upd_get n h⟩)
  · exact .inr h
theorem sqT_upd {K : PySem.W.Frag} {H : Hp} {a p : Addr} {o : HO} {xs : List V} (n : a ≠ p) (h : SqT K H a xs) : SqT K (upd H p o) a xs := by
  rcases h with (h | ⟨u, h⟩) | h
  · exact .inl (.inl (upd_get n h))
  · exact .inl (.inr ⟨u, upd_get n h⟩)
  · exact .inr h
theorem sqL_new {K : PySem.W.Frag} {H : Hp} {a p : Addr} {o : HO} {xs : List V} (n : H p = none) (h : SqL K H a xs) : SqL K (upd H p o) a xs := (same_upd n).seq h
theorem same_tup {K : PySem.W.Frag} {H H' : Hp} {a : Addr} {xs : List V} (e : Same H H') (h : SqT K H a xs) : SqT K H' a xs := by
  rcases h with (h | ⟨o, h⟩) | h
  · exact .inl (.inl (e _ _ h))
  · exact .inl (.inr ⟨o, e _ _ h⟩)
  · exact .inr h
theorem sqT_new {K : PySem.W.Frag} {H : Hp} {a p : Addr} {o : HO} {xs : List V} (n : H p = none) (h : SqT K H a xs) : SqT K (upd H p o) a xs := same_tup (same_upd n) h

/-! ### list(reversed(x)), x a list -/
def tLstRev (K : PySem.W.Frag) (te : TE) : TE := fun σ H Q => te σ H fun v H1 => ∃ (a : Addr) (xs : List V), v = .ref a ∧ SqL K H1 a xs ∧ ∀ q, H1 q = none → Q (.ref q) (upd H1 q (.lst xs.reverse))
def kLstRev (K : PySem.W.Frag) (Q : VK) : VK := fun v H1 => ∃ (a : Addr) (xs : List V), v = .ref a ∧ SqL K H1 a xs ∧ ∀ q, H1 q = none → Q (.ref q) (upd H1 q (.lst xs.reverse))
theorem i_lstRev {σ : St} {H : Hp} {Q : VK} {K : PySem.W.Frag} {te : TE} (h : te σ H (kLstRev K Q)) : tLstRev K te σ H Q := h
theorem i_kLstRev {H : Hp} {Q : VK} {K : PySem.W.Frag} {a : Addr} {xs : List V} (s : SqL K H a xs) (h : ∀ q, H q = none → Q (.ref q) (upd H q (.lst xs.reverse))) : kLstRev K Q (.ref a) H := ⟨a, xs, rfl, s, h⟩

/-! ### the rules with the written part by name -/
section
variable {X : Cx} {K : PySem.W.Frag} {tg e o a b c : Expr} {te to : TE} {ta : TA} {pos apos cpos p2 p : Pos} {es : List Expr}
theorem q_ixl (z : X.K = K := by rfl) : IxR X (rIxL K) := by subst z; exact ix_list
theorem q_ixt (z : X.K = K := by rfl) : IxR X (rIxT K) := by subst z; exact ix_tup
theorem q_len (z : X.K = K := by rfl) : CallR X (.builtin "len") (rLen K) := by subst z; exact c_len
theorem q_list (z : X.K = K := by rfl) : CallR X (.type "list") (rListOf K) := by subst z; exact c_list
theorem q_tuple (z : X.K = K := by rfl) : CallR X (.type "tuple") (rTupOf K) := by subst z; exact c_tuple
theorem q_eqD (hu : X.A.units + 64 < cLine) (z : X.K = K := by rfl) : OpR X (compareOp .Eq) (rEqD K) := by subst z; exact op_eqD hu
theorem q_neD (hu : X.A.units + 64 < cLine) (z : X.K = K := by rfl) : OpR X (compareOp .NotEq) (rNeD K) := by subst z; exact op_neD hu
theorem q_in (z : X.K = K := by rfl) : OpR X (compareOp .In) (rIn K false) := by subst z; exact op_in_seq
theorem q_notIn (z : X.K = K := by rfl) : OpR X (compareOp .NotIn) (rIn K true) := by subst z; exact op_notIn_seq
theorem q_sll (z : X.K = K := by rfl) : SlR X (rSlL K) := by subst z; exact sl_list
theorem q_all (hc : X.calm = true) (z : X.K = K := by rfl) : CallR X (.builtin "all") (rAll K) := by subst z; exact cr_all hc
theorem q_any (hc : X.calm = true) (z : X.K = K := by rfl) : CallR X (.builtin "any") (rAny K) := by subst z; exact cr_any hc
theorem q_sum (hc : X.calm = true) (z : X.K = K := by rfl) : CallR X (.builtin "sum") (rSum K) := by subst z; exact cr_sum hc
theorem q_sorted (z : X.K = K := by rfl) : CallR X (.builtin "sorted") (rSortedI K) := by subst z; exact cr_sortedI
theorem q_pil (he : PE X e te) (z : X.K = K := by rfl) : PI X tg e (iList K te) := by subst z; exact pi_list he
theorem q_pit (he : PE X e te) (z : X.K = K := by rfl) : PI X tg e (iTup K te) := by subst z; exact pi_tup he
theorem q_fld {f : Str} (he : PE X e te) (hb : attributeBase e f X.env (eval e X.env) = eval e X.env) (z : X.K = K := by rfl) : PE X (.Attribute e f pos) (tFld K te f) := by subst z; exact pe_fld he hb
end
end Tm

/-! Td: data compared at depth -/
namespace Tm
open PySem PySem.Spec PyProof.Rows L2
theorem eqvAll_ints : ∀ ns ms : List Int, PyData.eqvAll (ns.map PyData.int) (ms.map PyData.int) = decide (ns = ms)
  | [], [] => by simp [PyData.eqvAll]
  | [], _ :: _ => by simp [PyData.eqvAll]
  | _ :: _, [] => by simp [PyData.eqvAll]
  | x :: xs, y :: ys => by
    rw [List.map_cons, List.map_cons, PyData.eqvAll, eqvAll_ints xs ys, PyData.eqv]
    by_cases e : x = y <;> by_cases e2 : xs = ys <;> simp [e, e2]
theorem canLay_ints : ∀ ns : List Int, PyData.canLayAll0 (ns.map PyData.int) = true
  | [] => by simp [PyData.canLayAll0]
  | x :: xs => by rw [List.map_cons, PyData.canLayAll0, canLay_ints xs, PyData.canLay0]; rfl
theorem depth_ints : ∀ ns : List Int, PyData.depthAll (ns.map PyData.int) ≤ 1
  | [] => by simp [PyData.depthAll]
  | x :: xs => by
    have := depth_ints xs
    rw [List.map_cons, PyData.depthAll]
    have e : PyData.depth (PyData.int x) ≤ 1 := by simp [PyData.depth]
    omega
theorem dpAll_ints {K : PySem.W.Frag} {H : Hp} : ∀ ns : List Int, DpAll K H (ns.map V.int) (ns.map PyData.int)
  | [] => .nil
  | x :: xs => .cons (.int x) (dpAll_ints xs)
theorem dp_ints {K : PySem.W.Frag} {H : Hp} {p : Addr} {ns : List Int} (h : SqL K H p (ns.map V.int)) : Dp K H (.ref p) (.list (ns.map PyData.int)) := .lst h (dpAll_ints ns)
theorem dp_tints {K : PySem.W.Frag} {H : Hp} {p : Addr} {ns : List Int} (h : SqT K H p (ns.map V.int)) : Dp K H (.ref p) (.tuple (ns.map PyData.int)) := .tup h (dpAll_ints ns)
theorem shaped_of {d : PyData} (a : d.canLay0 = true) (b : d.depth ≤ 64) : SeqAt.shaped d = true := by
  unfold SeqAt.shaped
  rw [a, decide_eq_true b]; rfl
theorem shaped_ints (ns : List Int) : SeqAt.shaped (.list (ns.map PyData.int)) = true := shaped_of (by rw [PyData.canLay0]; exact canLay_ints ns) (by have := depth_ints ns; rw [PyData.depth]; omega)
theorem shaped_tints (ns : List Int) : SeqAt.shaped (.tuple (ns.map PyData.int)) = true := shaped_of (by rw [PyData.canLay0]; exact canLay_ints ns) (by have := depth_ints ns; rw [PyData.depth]; omega)
theorem eqv_ints (ns ms : List Int) : PyData.eqv (.list (ns.map PyData.int)) (.list (ms.map PyData.int)) = decide (ns = ms) := by rw [PyData.eqv]; exact eqvAll_ints ns ms
theorem eqv_tints (ns ms : List Int) : PyData.eqv (.tuple (ns.map PyData.int)) (.tuple (ms.map PyData.int)) = decide (ns = ms) := by rw [PyData.eqv]; exact eqvAll_ints ns ms
section
variable {H : Hp} {Q : VK} {K : PySem.W.Frag}
theorem i_eqLL {p q : Addr} {ns ms : List Int} (a : SqL K H p (ns.map V.int)) (b : SqL K H q (ms.map V.int)) (h : Q (.bl (decide (ns = ms))) H) : rEqD K (.ref p) (.ref q) H Q :=
  i_eqD (dp_ints a) (dp_ints b) (shaped_ints ns) (shaped_ints ms) (by rw [eqv_ints]; exact h)
theorem i_neLL {p q : Addr} {ns ms : List Int} (a : SqL K H p (ns.map V.int)) (b : SqL K H q (ms.map V.int)) (h : Q (.bl (!decide (ns = ms))) H) : rNeD K (.ref p) (.ref q) H Q :=
  i_neD (dp_ints a) (dp_ints b) (shaped_ints ns) (shaped_ints ms) (by rw [eqv_ints]; exact h)
theorem i_eqTT {p q : Addr} {ns ms : List Int} (a : SqT K H p (ns.map V.int)) (b : SqT K H q (ms.map V.int)) (h : Q (.bl (decide (ns = ms))) H) : rEqD K (.ref p) (.ref q) H Q :=
  i_eqD (dp_tints a) (dp_tints b) (shaped_tints ns) (shaped_tints ms) (by rw [eqv_tints]; exact h)
theorem i_eqT2 {p q : Addr} {a b c d : Int} (h1 : SqT K H p [.int a, .int b]) (h2 : SqT K H q [.int c, .int d]) (h : Q (.bl (decide (a = c ∧ b = d))) H) : rEqD K (.ref p) (.ref q) H Q := by
  refine i_eqTT (ns := [a, b]) (ms := [c, d]) h1 h2 ?_
  have e : decide ([a, b] = [c, d]) = decide (a = c ∧ b = d) := by by_cases x : a = c <;> by_cases y : b = d <;> simp [x, y]
  rw [e]; exact h
end
end Tm

/-! Tl: lists cut, written, repeated -/
namespace Tm
open PySem PySem.Spec PyProof.Rows L2
theorem sIx_n (n d k : Nat) : HT.sIx n d (some (k : Int)) = min k n := HT.sIx_nat n d k
theorem cut_from (xs : List V) (k : Nat) : cutV xs (some (k : Int)) none = xs.drop k := by
  show (xs.drop (HT.sIx xs.length 0 (some (k : Int)))).take (xs.length - HT.sIx xs.length 0 (some (k : Int))) = _
  rw [sIx_n]
  apply List.ext_getElem?
  intro i
  rw [List.getElem?_take, List.getElem?_drop, List.getElem?_drop]
  by_cases h : k ≤ xs.length
  · rw [Nat.min_eq_left h]
    by_cases h2 : i < xs.length - k
    · rw [if_pos h2]
    · rw [if_neg h2, List.getElem?_eq_none (by omega)]
  · rw [Nat.min_eq_right (by omega), if_neg (by omega), List.getElem?_eq_none (by omega)]
theorem cut_to (xs : List V) (k : Nat) : cutV xs none (some (k : Int)) = xs.take k := by
  show (xs.drop 0).take (HT.sIx xs.length xs.length (some (k : Int)) - 0) = _
  rw [sIx_n, List.drop_zero, Nat.sub_zero]
  apply List.ext_getElem?
  intro i
  rw [List.getElem?_take, List.getElem?_take]
  by_cases h : i < k
  · by_cases h2 : i < xs.length
    · rw [if_pos (by omega), if_pos h]
    · rw [if_neg (by omega), if_pos h, List.getElem?_eq_none (by omega)]
  · rw [if_neg (by omega), if_neg h]
theorem cut_both (xs : List V) (a b : Nat) : cutV xs (some (a : Int)) (some (b : Int)) = (xs.drop a).take (b - a) := by
  show (xs.drop (HT.sIx xs.length 0 (some (a : Int)))).take (HT.sIx xs.length xs.length (some (b : Int)) - HT.sIx xs.length 0 (some (a : Int))) = _
  rw [sIx_n, sIx_n]
  apply List.ext_getElem?
  intro i
  rw [List.getElem?_take, List.getElem?_take, List.getElem?_drop, List.getElem?_drop]
  by_cases h3 : a + i < xs.length
  · have e1 : min a xs.length = a := Nat.min_eq_left (by omega)
    rw [e1]
    by_cases h2 : i < b - a
    · rw [if_pos (by omega), if_pos h2]
    · rw [if_neg (by omega), if_neg h2]
  · have e2 : xs[a + i]? = none := List.getElem?_eq_none (by omega)
    rw [e2, if_neg (by omega)]
    split <;> rfl
theorem cut_all (xs : List V) : cutV xs none none = xs := by
  show (xs.drop 0).take (xs.length - 0) = _
  rw [List.drop_zero, Nat.sub_zero, List.take_length]
theorem flat_rep {α : Type} (x : α) (n : Nat) : (List.replicate n [x]).flatten = List.replicate n x := by
  induction n with
  | zero => rfl
  | succ n ih => rw [List.replicate_succ, List.flatten_cons, ih, List.replicate_succ]; rfl
theorem rep_map {α : Type} (f : α → V) (x : α) (n : Nat) : (List.replicate n [f x]).flatten = (List.replicate n x).map f := by rw [flat_rep, List.map_replicate]
theorem ixN_nat {n : Nat} {k : Int} {j : Nat} (e : k = (j : Int)) (h : j < n) : ixN n k = some j := by
  subst e
  unfold ixN
  rw [if_pos (by omega), if_pos (by omega), Int.toNat_natCast]
def kG2 (t : TSet) (o : V) (v : V) (σ : St) (nx : St → Hp → Prop) : VK := fun i H => t o i v H fun H3 => nx σ H3
def kG1 (ti : TE) (t : TSet) (v : V) (σ : St) (nx : St → Hp → Prop) : VK := fun o H => ti σ H (kG2 t o v σ nx)
section
variable {σ σ' : St} {H : Hp} {Q : VK} {nx : St → Hp → Prop} {K : PySem.W.Frag}
theorem i_gSub {to ti : TE} {t : TSet} {v : V} (h : to σ H (kG1 ti t v σ nx)) : gSub to ti t v σ H nx := h
theorem i_kG1 {ti : TE} {t : TSet} {v o : V} (h : ti σ H (kG2 t o v σ nx)) : kG1 ti t v σ nx o H := h
/-- xs[k] = v, the place told -/
theorem i_kG2 {p : Addr} {xs : List V} {k : Int} {v : V} (j : Nat) (hp : H p = some (.lst xs)) (e : k = (j : Int)) (l : j < xs.length) (h : nx σ (upd H p (.lst (xs.set j v)))) : kG2 rSetL (.ref p) v σ nx (.int k) H :=
  ⟨p, xs, k, j, rfl, rfl, hp, ixN_nat e l, h⟩
/-- an item of a list of ints, the place told -/
theorem i_ixI {p : Addr} {ds : List Int} {i : Int} {j : Nat} (s : SqL K H p (ds.map V.int)) (e : i.toNat = j) (h0 : 0 ≤ i) (l : i < ds.length) (h : Q (.int (ds.getD j 0)) H) : rIxL K (.ref p) (.int i) H Q := by
  refine i_ixL s (v := .int (ds.getD j 0)) ?_ h
  rw [atI_map V.int ds i 0 h0 l, e]
theorem i_slF {α : Type} {f : α → V} {b : Addr} {l : List α} {k : Int} (j : Nat) (s : SqL K H b (l.map f)) (h : ∀ p, H p = none → Q (.ref p) (upd H p (.lst ((l.drop j).map f)))) (e : k = (j : Int) := by first | rfl | omega) : rSlL K (.ref b) (some k) none H Q := by
  subst e; refine i_slL s fun p hp => ?_
  rw [cut_from, ← List.map_drop]; exact h p hp
theorem i_slT {α : Type} {f : α → V} {b : Addr} {l : List α} {k : Int} (j : Nat) (s : SqL K H b (l.map f)) (h : ∀ p, H p = none → Q (.ref p) (upd H p (.lst ((l.take j).map f)))) (e : k = (j : Int) := by first | rfl | omega) : rSlL K (.ref b) none (some k) H Q := by
  subst e; refine i_slL s fun p hp => ?_
  rw [cut_to, ← List.map_take]; exact h p hp
theorem i_slB {α : Type} {f : α → V} {b : Addr} {l : List α} {k k' : Int} (j j' : Nat) (s : SqL K H b (l.map f)) (h : ∀ p, H p = none → Q (.ref p) (upd H p (.lst (((l.drop j).take (j' - j)).map f)))) (e : k = (j : Int) := by first | rfl | omega) (e' : k' = (j' : Int) := by first | rfl | omega) : rSlL K (.ref b) (some k) (some k') H Q := by
  subst e; subst e'; refine i_slL s fun p hp => ?_
  rw [cut_both, ← List.map_drop, ← List.map_take]; exact h p hp
theorem getD_nn {ds : List Int} (h : ∀ d ∈ ds, 0 ≤ d) (k : Nat) : 0 ≤ ds.getD k 0 := by
  by_cases l : k < ds.length
  · exact h _ (getD_mem' ds k 0 l)
  · rw [List.getD_eq_getElem?_getD, List.getElem?_eq_none (by omega)]; exact Int.le_refl _
end
end Tm

/-! Tn: the octets of a number -/
namespace Tm
open PySem PySem.Spec PyProof.Rows L2
/-! the mathematics: the octets of a number -/
def lit (n : Nat) (r : Int) : List Int := (List.range n).map fun j => r / 256 ^ j % 256
def rowOf (n : Nat) (r : Int) : List Int := (lit n r).reverse
def numOf (l : List Int) : Int := l.foldl (fun n o => n * 256 + o) 0
theorem lit_succ (n : Nat) (r : Int) : lit (n + 1) r = lit n r ++ [r / 256 ^ n % 256] := by
  unfold lit; rw [List.range_succ, List.map_append]; rfl
theorem lit_len (n : Nat) (r : Int) : (lit n r).length = n := by unfold lit; rw [List.length_map, List.length_range]
theorem rowOf_succ (n : Nat) (r : Int) : rowOf (n + 1) r = (r / 256 ^ n % 256) :: rowOf n r := by
  unfold rowOf; rw [lit_succ, List.reverse_append]; rfl
theorem rowOf_len (n : Nat) (r : Int) : (rowOf n r).length = n := by unfold rowOf; rw [List.length_reverse, lit_len]
theorem foldl_from (l : List Int) : ∀ z : Int, l.foldl (fun n o => n * 256 + o) z = z * 256 ^ l.length + numOf l := by
  induction l with
  | nil => intro z; simp [numOf]
  | cons x xs ih =>
    intro z
    show xs.foldl _ (z * 256 + x) = _
    have e : numOf (x :: xs) = xs.foldl (fun n o => n * 256 + o) (0 * 256 + x) := rfl
    rw [ih, e, ih, List.length_cons, Int.pow_succ]
    grind
theorem numOf_cons (x : Int) (l : List Int) : numOf (x :: l) = x * 256 ^ l.length + numOf l := by
  show l.foldl _ (0 * 256 + x) = _
  rw [foldl_from]; grind
theorem pow_div_up (r : Int) (n : Nat) : r / 256 ^ (n + 1) = r / 256 ^ n / 256 := by
  rw [Int.pow_succ, Int.ediv_ediv_of_nonneg (Int.le_of_lt (Int.pow_pos (by decide)))]
theorem numOf_rowOf (r : Int) : ∀ n : Nat, numOf (rowOf n r) = r - 256 ^ n * (r / 256 ^ n)
  | 0 => by show (0 : Int) = r - 1 * (r / 1); rw [Int.ediv_one]; omega
  | n + 1 => by
    rw [rowOf_succ, numOf_cons, rowOf_len, numOf_rowOf r n, pow_div_up, Int.pow_succ]
    have e : r / 256 ^ n % 256 = r / 256 ^ n - 256 * (r / 256 ^ n / 256) := by omega
    rw [e]
    grind
theorem numOf_row (r : Int) (n : Nat) (h0 : 0 ≤ r) (h1 : r < 256 ^ n) : numOf (rowOf n r) = r := by
  rw [numOf_rowOf, Int.ediv_eq_zero_of_lt h0 h1]; omega
theorem numOf_take {l : List Int} {i : Nat} {z : Int} (h : l[i]? = some z) : numOf (l.take (i + 1)) = numOf (l.take i) * 256 + z := by
  unfold numOf
  rw [List.take_add_one, h, List.foldl_append]; rfl
end Tm

set_option maxHeartbeats 1000000
namespace Tm
open PySem PySem.Spec PyProof.Rows L2 RT
section
variable {prog : Program} {w : World} {A : Around} {s : Shared} {it l S : Addr} {items : Array Value}
/-- a list that stands empty takes what reversed(a list) gives -/
theorem ext_rev {R : Result → Shared → Prop} {c0 : Nat} (res : Value) (hh : A.handled = none) (hit : s.heap.IsRevIter it l ((items.size : Int) - 1)) (hl : s.heap.IsList l items) (hne : l ≠ it) (hn : items.size ≤ sizeLine)
    (nSi : S ≠ it) (nSl : S ≠ l) (hS : s.heap.get? S = some { cls := .type "list", data := .seq #[] c0 })
    (hR : ∀ (h' : Heap) (tk : Nat) (acc : Array Value) (c' : Nat), (∀ b o, b ≠ S → b ≠ it → s.heap.get? b = some o → h'.get? b = some o) → h'.get? S = some { cls := .type "list", dict := none, data := .seq acc c', slots := #[] } →
      ItemsOf (fun i v => items[items.size - 1 - i]? = some v) acc items.size → R (.ok (.ret res)) { s with heap := h', toks := tk }) :
    wpAny (model prog w) A.in1 (Builtin.List.listExtendWith (.ref S) (.ref it) res)
      (fun z t => match z with | .done f => R (.ok f) t | .again y => y.quiet = true ∧ codeAny (model prog w) A y R t) (fun e t => R (.error e) t) s := by
  have W := (Walks.listRev (prog := prog) (w := w) (A := A.in1) hh it l hne items).toS
  have hSf : S ∉ [it, l] := by
    intro hm
    simp only [List.mem_cons, List.not_mem_nil, or_false] at hm
    exact hm.elim nSi nSl
  have hT : s.TypeIs (.ref it) "list_reverseiterator" := hit.typeIs
  have h1 : Builtin.List.listSameRef (.ref S) (.ref it) = false := by simp [Builtin.List.listSameRef, nSi]
  unfold Builtin.List.listExtendWith
  refine wpAny_bind (wpAny_typeOf hT ?_)
  rw [if_neg (by rw [h1]; decide)]
  refine wpAny_bind (wpAny_pyIter_revIter (s := s) hit ?_)
  refine wpAny_bind (wpAny_holding ?_)
  unfold Builtin.List.listLengthHint
  refine wpAny_bind (wpAny_specialOf hT nolen_lri ?_)
  show wpAny _ A.in1 (specialOf (Value.ref it) (Str.ofString "__length_hint__") >>= _) _ _ s
  refine wpAny_bind (wpAny_specialOf hT hint_lri ?_)
  generalize hid : ("list_reverseiterator.__length_hint__" : String) = id0
  wp_delta
  rw [show splitId id0 = some ("list_reverseiterator", "__length_hint__") by subst hid; decide +kernel]
  subst hid
  refine wpAny_bind (wpAny_isInstance (b := true) hT (show isSubtype (.type "list_reverseiterator") (.type "list_reverseiterator") = pure true by rw [isSubtype_type]; kernel_rfl) ?_)
  refine wpAny_pure ?_
  rw [if_neg (by decide)]
  have e0 : ((items.size : Nat) : Int) - 1 - ((0 : Nat) : Int) = (items.size : Int) - 1 := by omega
  refine wpAny_pure ⟨plainId_quiet F.plain_extend_loop _, codeAny_extend_loopS W hn S hSf _ items.size 0 _ _ _ rfl (Nat.zero_le _) ⟨Nat.zero_le _, by rw [e0]; exact hit, hl⟩ hS (ItemsOf.nil _) fun t acc c hm hS' hacc => ?_⟩
  rw [Moved.eq_with hm]
  refine hR t.heap t.toks acc c (fun b o nb ni e => hm.heap b o (fun hmem => ?_) e) hS' hacc
  rcases List.mem_cons.mp hmem with e' | hmem
  · exact nb e'
  · exact ni (List.mem_singleton.mp hmem)
theorem call_list_rev {E : Value → Shared → Prop} {Q : Value → Shared → Prop} (hh : A.handled = none) (hit : s.heap.IsRevIter it l ((items.size : Int) - 1)) (hl : s.heap.IsList l items) (hne : l ≠ it) (hn : items.size ≤ sizeLine)
    (hQ : ∀ (h' : Heap) (tk : Nat) (acc : Array Value) (c' : Nat), (∀ b o, b ≠ it → s.heap.get? b = some o → h'.get? b = some o) → h'.get? s.heap.objs.size = some { cls := .type "list", dict := none, data := .seq acc c', slots := #[] } →
      ItemsOf (fun i v => items[items.size - 1 - i]? = some v) acc items.size → Q (.ref s.heap.objs.size) { s with heap := h', toks := tk }) :
    wpAny (model prog w) A (call (.type "list") [.ref it]) Q E s := by
  obtain ⟨oi, hoi, _⟩ := id hit
  obtain ⟨ol, hol, _⟩ := id hl
  have nSi : s.heap.objs.size ≠ it := Nat.ne_of_gt (Heap.lt_size hoi)
  have nSl : s.heap.objs.size ≠ l := Nat.ne_of_gt (Heap.lt_size hol)
  refine callType_codes (Q₁ := fun y t => y = .ref s.heap.objs.size ∧ t = { s with heap := s.heap.push { cls := .type "list", data := .seq #[] } }) F.called_list (F.typeCall_list_1 _) F.entry_list_init (code_list_new _ ⟨rfl, rfl⟩) ?_
  rintro y t ⟨rfl, rfl⟩
  have hS : (s.heap.push { cls := .type "list", data := .seq #[] }).get? s.heap.objs.size = some { cls := .type "list", data := .seq #[] } := Heap.get?_push_size _ rfl
  refine ⟨⟨_, hS, rfl⟩, F.args_list_init_2 _ _, ?_⟩
  show wpAny _ A.in1.in1 (do
    let old ← Builtin.List.listItems (.ref s.heap.objs.size)
    Builtin.List.listUpdate (.ref s.heap.objs.size) (fun _ => #[])
    letGo old.toList.reverse
    Builtin.List.listExtendWith (.ref s.heap.objs.size) (.ref it) .none) _ _ _
  refine wpAny_bind ?_
  unfold Builtin.List.listItems
  refine wpAny_bind (wpAny_seqItems hS rfl (wpAny_pure ?_))
  show wpAny _ _ (updateSeq s.heap.objs.size (fun _ => #[]) >>= fun _ => letGo (#[] : Array Value).toList.reverse >>= fun _ => Builtin.List.listExtendWith (.ref s.heap.objs.size) (.ref it) .none) _ _ _
  refine wpAny_bind (wpAny_updateSeq hS rfl ?_)
  have hS2 := Heap.get?_update_self (Obj.mapSeq (fun _ => (#[] : Array Value))) hS rfl
  have keep : ∀ b o, b ≠ s.heap.objs.size → s.heap.get? b = some o → ((s.heap.push { cls := .type "list", data := .seq #[] }).update s.heap.objs.size (Obj.mapSeq (fun _ => (#[] : Array Value)))).get? b = some o :=
    fun b o nb e => (Heap.get?_update_other _ _ (Ne.symm nb)).trans (Heap.get?_push_of_some _ e)
  refine wpAny_bind (wpAny_letGo ?_)
  have hl2 : ((s.heap.push { cls := .type "list", data := .seq #[] }).update s.heap.objs.size (Obj.mapSeq (fun _ => (#[] : Array Value)))).IsList l items := by
    obtain ⟨o, ho, hc, n, hd⟩ := hl
    exact ⟨o, keep l o nSl.symm ho, hc, n, hd⟩
  have hS3 : ((s.heap.push { cls := .type "list", data := .seq #[] }).update s.heap.objs.size (Obj.mapSeq (fun _ => (#[] : Array Value)))).get? s.heap.objs.size = some { cls := .type "list", data := .seq #[] } := hS2
  refine ext_rev (A := A.in1) (prog := prog) (w := w) (R := wants (fun r t => r = Value.none ∧ Q (Value.ref s.heap.objs.size) t) E) (s := { s with heap := (s.heap.push { cls := .type "list", data := .seq #[] }).update s.heap.objs.size (Obj.mapSeq (fun _ => (#[] : Array Value))) }) (c0 := 0) .none hh (hit.at fun o e => keep it o nSi.symm e) hl2 hne hn nSi nSl hS3 fun h' tk acc c' hk hS' hacc => ?_
  exact ⟨rfl, hQ h' tk acc c' (fun b o ni e => hk b o (Nat.ne_of_lt (Heap.lt_size e)) ni (keep b o (Nat.ne_of_lt (Heap.lt_size e)) e)) hS' hacc⟩
end
section
variable {X : Cx}
theorem pe_listRev {e : Expr} {te : TE} {p p2 pos pos2 : Pos} (hc : X.calm = true) (hg : Gl X "list") (hm : X.mg "list" = none) (hg2 : Gl X "reversed") (hm2 : X.mg "reversed" = none) (he : PE X e te)
    (hs : starEach [e] X.env = (false, eval e X.env) :: starEach [] X.env := by rfl)
    (hs2 : starEach [.Call (.Name "reversed" p2) [e] [] pos2] X.env = (false, eval (.Call (.Name "reversed" p2) [e] [] pos2) X.env) :: starEach [] X.env := by rfl) :
    PE X (.Call (.Name "list" p) [.Call (.Name "reversed" p2) [e] [] pos2] [] pos) (tLstRev X.K te) := by
  refine ⟨fun pins s σ H Q I h => ?_⟩
  refine Call_ (ld_blt I hg hm boot_list (PyProof.Rows.callWith_type1 (args_cons ?_ hs2) hs2 rfl))
  refine Call_ (ld_blt I hg2 hm2 PyProof.Rows.boot_reversed (PyProof.Rows.callWith_type1 (args_cons ?_ hs) hs rfl))
  refine thn (he.run pins s σ H _ I h) fun u s1 ⟨v, H1, I1, r1, q1⟩ => args_nil ?_
  obtain ⟨b, xs, ev, hq, q⟩ := q1
  subst ev
  obtain rfl : u = Value.ref b := r1
  obtain ⟨its, rv, pl, hz⟩ := I1.list hq
  refine call_reversed_list pl.isList (args_nil ?_)
  have k0 : ∀ b' o, s1.heap.get? b' = some o → (s1.heap.push (revObj b ((its.toArray.size : Int) - 1))).get? b' = some o := fun b' o e => Heap.get?_push_of_some _ e
  have I2 : Inv X pins σ H1 { s1 with heap := s1.heap.push (revObj b ((its.toArray.size : Int) - 1)) } := I1.kept (t' := s1.toks) k0
  obtain ⟨f0, f1, f2, f3, f4, f5⟩ := I1.fpOk (H' := H1) (b := s1.heap.objs.size) (Nat.le_refl _) (I1.hok.fresh (Nat.le_refl _))
  have hl := pl.isList
  obtain ⟨ol, hol, _⟩ := id hl
  have hn : its.toArray.size ≤ sizeLine := by rw [List.size_toArray, ← rv.length]; exact hz
  refine call_list_rev (s := { s1 with heap := s1.heap.push (revObj b ((its.toArray.size : Int) - 1)) }) (I1.ok.hd hc) ⟨_, Heap.get?_push_size _ rfl, rfl, rfl⟩ (hl.push _) (Nat.ne_of_lt (Heap.lt_size hol)) hn fun h' tk acc c' hk hS hi => ?_
  have hz2 : s1.heap.objs.size ≤ (s1.heap.push (revObj b ((its.toArray.size : Int) - 1))).objs.size := by simp [Heap.push]
  refine ⟨.ref (s1.heap.push (revObj b ((its.toArray.size : Int) - 1))).objs.size, upd H1 (s1.heap.push (revObj b ((its.toArray.size : Int) - 1))).objs.size (.lst xs.reverse), I1.laid (t' := tk) (fun b' o e => hk b' o (Nat.ne_of_lt (Heap.lt_size e)) (k0 b' o e)) hz2
    (show ObjOk X.prog X.w _ _ _ (.lst xs.reverse) from ⟨by rw [List.length_reverse]; exact hz, acc.toList, c', vals_rev rv hi, ?_⟩), rfl, q _ (I1.hok.fresh hz2)⟩
  rw [Array.toArray_toList]
  exact hS
end
end Tm

/-! Tc: contents of pages as data -/
namespace Tm
open PySem PySem.Spec PyProof.Rows L2
inductive Cont where
  | mark (n : Int)
  | node (lv : Int) (ch : List (Option (Int × Int)))
  | item (ep ix : Int) (la : Bool) (key : Int) (val : Option (List Int))
  | root (n ep : Int) (tr : Option (Int × Int)) (jr : List Int) (pl : List (Option Int)) (er bd : List Int)
def dAd : Option (Int × Int) → PyData
  | none => .none
  | some q => .tuple [.int q.1, .int q.2]
def dPl : Option Int → PyData
  | none => .none
  | some b => .int b
def dTi (l : List Int) : PyData := .tuple (l.map .int)
def dVal : Option (List Int) → PyData
  | none => .none
  | some l => dTi l
def dC : Cont → PyData
  | .mark n => .tuple [.str "mark", .int n]
  | .node lv ch => .tuple [.str "node", .int lv, .tuple (ch.map dAd)]
  | .item ep ix la key val => .tuple [.str "item", .int ep, .int ix, .bool la, .int key, dVal val]
  | .root n ep tr jr pl er bd => .tuple [.str "root", .int n, .int ep, dAd tr, dTi jr, .tuple (pl.map dPl), dTi er, dTi bd]
/-! what fits -/
def cLo (m n : Int) : Bool := decide (0 ≤ n ∧ n < m)
def below (m : Int) (l : List Int) : Bool := l.all (cLo m)
def fAd : Option (Int × Int) → Bool
  | none => true
  | some q => below 48 [q.1] && below 32 [q.2]
def fVal : Option (List Int) → Bool
  | none => true
  | some l => decide (l.length ≤ 448) && below 256 l
def named (pl : List (Option Int)) : List Int := pl.filterMap id
def fC : Cont → Bool
  | .mark n => below 4294967296 [n]
  | .node lv ch => below 256 [lv] && (decide (ch.length = 32) && ch.all fAd)
  | .item ep ix _ key val => below 4294967296 [ep, ix, key] && fVal val
  | .root n ep tr jr pl er bd => !(decide (48 < jr.length) || (decide (48 < pl.length) || (decide (48 < er.length) || decide (48 < bd.length)))) && (below 4294967296 (n :: ep :: er) && (fAd tr && below 48 (jr ++ (named pl ++ bd))))
/-! the bodies -/
def bAd : Option (Int × Int) → List Int
  | none => [255, 255]
  | some q => [q.1, q.2]
def bPl (p : Option Int) : Int := p.getD 255
def bVal : Option (List Int) → List Int
  | none => [0]
  | some l => [1] ++ rowOf 2 l.length ++ l
def bit (b : Bool) : Int := if b then 1 else 0
def body : Cont → List Int
  | .mark n => rowOf 4 n
  | .node lv ch => lv :: ch.flatMap bAd
  | .item ep ix la key val => rowOf 4 ep ++ rowOf 4 ix ++ [bit la] ++ rowOf 4 key ++ bVal val
  | .root n ep tr jr pl er bd => rowOf 4 n ++ rowOf 4 ep ++ bAd tr ++ ([(jr.length : Int)] ++ jr ++ [(pl.length : Int)] ++ pl.map bPl ++ [(er.length : Int)]) ++ er.flatMap (rowOf 4) ++ ([(bd.length : Int)] ++ bd)
/-! ### data in heaps -/
section
variable {K : PySem.W.Frag} {H H' : Hp}
mutual
theorem dp_same (e : Same H H') : ∀ (d : PyData) (v : V), Dp K H v d → Dp K H' v d
  | .none, _, h => by cases h; exact .non
  | .bool b, _, h => by cases h; exact .bl b
  | .int i, _, h => by cases h; exact .int i
  | .str x, _, h => by cases h; exact .str x
  | .list ds, _, h => by
    cases h with
    | lst hs ha => exact .lst (e.seq hs) (dpAll_same e ds _ ha)
  | .tuple ds, _, h => by
    cases h with
    | tup hs ha => exact .tup (same_tup e hs) (dpAll_same e ds _ ha)
  | .dict _, _, h => by cases h
theorem dpAll_same (e : Same H H') : ∀ (ds : List PyData) (vs : List V), DpAll K H vs ds → DpAll K H' vs ds
  | [], _, h => by cases h; exact .nil
  | d :: ds, _, h => by
    cases h with
    | cons h1 h2 => exact .cons (dp_same e d _ h1) (dpAll_same e ds _ h2)
end
theorem dp_int {v : V} {i : Int} (h : Dp K H v (.int i)) : v = .int i := by cases h; rfl
theorem dp_bool {v : V} {b : Bool} (h : Dp K H v (.bool b)) : v = .bl b := by cases h; rfl
theorem dp_str {v : V} {x : Str} (h : Dp K H v (.str x)) : v = .str x := by cases h; rfl
theorem dp_none {v : V} (h : Dp K H v .none) : v = .non := by cases h; rfl
theorem dp_tup {v : V} {ds : List PyData} (h : Dp K H v (.tuple ds)) : ∃ a xs, v = .ref a ∧ SqT K H a xs ∧ DpAll K H xs ds := by
  cases h with
  | tup hs ha => exact ⟨_, _, rfl, hs, ha⟩
theorem dpAll_ints' : ∀ {l : List Int} {vs : List V}, DpAll K H vs (l.map PyData.int) → vs = l.map V.int
  | [], _, h => by cases h; rfl
  | x :: r, _, h => by
    cases h with
    | cons h1 h2 => rw [dp_int h1, dpAll_ints' h2]; rfl
theorem dp_ti {v : V} {l : List Int} (h : Dp K H v (dTi l)) : ∃ a, v = .ref a ∧ SqT K H a (l.map V.int) := by
  obtain ⟨a, xs, rfl, hs, ha⟩ := dp_tup h
  rw [dpAll_ints' ha] at hs
  exact ⟨a, rfl, hs⟩
theorem ti_dp {a : Addr} {l : List Int} (h : SqT K H a (l.map V.int)) : Dp K H (.ref a) (dTi l) := dp_tints h
theorem dp_ad_some {v : V} {q : Int × Int} (h : Dp K H v (dAd (some q))) : ∃ a, v = .ref a ∧ SqT K H a [.int q.1, .int q.2] := dp_ti (l := [q.1, q.2]) h
theorem ad_dp {a : Addr} {b g : Int} (h : SqT K H a [.int b, .int g]) : Dp K H (.ref a) (dAd (some (b, g))) := dp_tints (ns := [b, g]) h
theorem ad_non {v : V} {q : Option (Int × Int)} (h : Dp K H v (dAd q)) : decide (v = .non) = q.isNone := by
  cases q with
  | none => rw [dp_none h]; rfl
  | some q =>
    obtain ⟨a, rfl, _⟩ := dp_ad_some h
    simp
theorem pl_dp : ∀ {p : Option Int} {v : V}, Dp K H v (dPl p) → v = (match p with | none => .non | some b => .int b)
  | none, _, h => dp_none h
  | some b, _, h => dp_int h
def vPl : Option Int → V
  | none => .non
  | some b => .int b
theorem dpAll_pl : ∀ {l : List (Option Int)} {vs : List V}, DpAll K H vs (l.map dPl) → vs = l.map vPl
  | [], _, h => by cases h; rfl
  | x :: r, _, h => by
    cases h with
    | cons h1 h2 =>
      rw [dpAll_pl h2]
      cases x with
      | none => rw [dp_none h1]; rfl
      | some b => rw [dp_int h1]; rfl
theorem pl_dpAll : ∀ (l : List (Option Int)), DpAll K H (l.map vPl) (l.map dPl)
  | [] => .nil
  | none :: r => .cons .non (pl_dpAll r)
  | some b :: r => .cons (.int b) (pl_dpAll r)
theorem dpAll_get : ∀ {ds : List PyData} {vs : List V} {i : Nat} {v : V}, DpAll K H vs ds → vs[i]? = some v → ∃ d, ds[i]? = some d ∧ Dp K H v d
  | [], _, i, v, h, e => by cases h; simp at e
  | d :: ds, _, 0, v, h, e => by
    cases h with
    | cons h1 h2 => obtain rfl := Option.some.inj e; exact ⟨d, rfl, h1⟩
  | d :: ds, _, i + 1, v, h, e => by
    cases h with
    | cons h1 h2 =>
      obtain ⟨d', h', q⟩ := dpAll_get (i := i) h2 (by simpa using e)
      exact ⟨d', by simpa using h', q⟩
theorem dpAll_len : ∀ {ds : List PyData} {vs : List V}, DpAll K H vs ds → vs.length = ds.length
  | [], _, h => by cases h; rfl
  | d :: ds, _, h => by
    cases h with
    | cons h1 h2 => rw [List.length_cons, List.length_cons, dpAll_len h2]
/-- a list that is no part of the data may change: data made of tuples alone -/
theorem dpAd_upd {D : Addr} {o : HO} {xs : List V} (hk : H D = some (.lst xs)) : ∀ {c : Option (Int × Int)} {v : V}, Dp K H v (dAd c) → Dp K (upd H D o) v (dAd c)
  | none, _, h => by rw [dp_none h]; exact .non
  | some q, _, h => by
    obtain ⟨a, rfl, hT⟩ := dp_ad_some h
    refine ad_dp ?_
    rcases hT with (z | ⟨u, z⟩) | z
    · exact .inl (.inl (upd_get (ne_of z hk (by intro e; cases e)) z))
    · exact .inl (.inr ⟨u, upd_get (ne_of z hk (by intro e; cases e)) z⟩)
    · exact .inr z
theorem dpAll_upd {D : Addr} {o : HO} {xs : List V} (hk : H D = some (.lst xs)) : ∀ {ch : List (Option (Int × Int))} {vs : List V}, DpAll K H vs (ch.map dAd) → DpAll K (upd H D o) vs (ch.map dAd)
  | [], _, h => by cases h; exact .nil
  | c :: ch, _, h => by
    cases h with
    | cons h1 h2 => exact .cons (dpAd_upd hk h1) (dpAll_upd hk h2)
theorem dpAll_snoc : ∀ {ds : List PyData} {vs : List V} {d : PyData} {v : V}, DpAll K H vs ds → Dp K H v d → DpAll K H (vs ++ [v]) (ds ++ [d])
  | [], _, d, v, h, q => by cases h; exact .cons q .nil
  | _ :: _, _, d, v, h, q => by
    cases h with
    | cons h1 h2 => exact .cons h1 (dpAll_snoc h2 q)
/-- a content's tuple, part by part -/
theorem c_mark {v : V} {n : Int} (h : Dp K H v (dC (.mark n))) : ∃ p, v = .ref p ∧ SqT K H p [.str "mark", .int n] := by
  obtain ⟨p, xs, rfl, hs, ha⟩ := dp_tup h
  cases ha with | cons a1 ha => cases ha with | cons a2 ha => cases ha; cases a1; cases a2; exact ⟨p, rfl, hs⟩
theorem c_node {v : V} {lv : Int} {ch : List (Option (Int × Int))} (h : Dp K H v (dC (.node lv ch))) : ∃ p c xs, v = .ref p ∧ SqT K H p [.str "node", .int lv, .ref c] ∧ SqT K H c xs ∧ DpAll K H xs (ch.map dAd) := by
  obtain ⟨p, xs, rfl, hs, ha⟩ := dp_tup h
  cases ha with | cons a1 ha => cases ha with | cons a2 ha => cases ha with | cons a3 ha =>
    cases ha; cases a1; cases a2
    obtain ⟨c, ys, rfl, hc, hd⟩ := dp_tup a3
    exact ⟨p, c, ys, rfl, hs, hc, hd⟩
theorem c_item {v : V} {ep ix key : Int} {la : Bool} {val : Option (List Int)} (h : Dp K H v (dC (.item ep ix la key val))) : ∃ p u, v = .ref p ∧ SqT K H p [.str "item", .int ep, .int ix, .bl la, .int key, u] ∧ Dp K H u (dVal val) := by
  obtain ⟨p, xs, rfl, hs, ha⟩ := dp_tup h
  cases ha with | cons a1 ha => cases ha with | cons a2 ha => cases ha with | cons a3 ha => cases ha with | cons a4 ha => cases ha with | cons a5 ha => cases ha with | cons a6 ha =>
    cases ha; cases a1; cases a2; cases a3; cases a4; cases a5
    exact ⟨p, _, rfl, hs, a6⟩
theorem c_root {v : V} {n ep : Int} {tr : Option (Int × Int)} {jr : List Int} {pl : List (Option Int)} {er bd : List Int} (h : Dp K H v (dC (.root n ep tr jr pl er bd))) :
    ∃ p t j q e d, v = .ref p ∧ SqT K H p [.str "root", .int n, .int ep, t, .ref j, .ref q, .ref e, .ref d] ∧ Dp K H t (dAd tr) ∧ SqT K H j (jr.map V.int) ∧ SqT K H q (pl.map vPl) ∧ SqT K H e (er.map V.int) ∧ SqT K H d (bd.map V.int) := by
  obtain ⟨p, xs, rfl, hs, ha⟩ := dp_tup h
  cases ha with | cons a1 ha => cases ha with | cons a2 ha => cases ha with | cons a3 ha => cases ha with | cons a4 ha => cases ha with | cons a5 ha => cases ha with | cons a6 ha => cases ha with | cons a7 ha => cases ha with | cons a8 ha =>
    cases ha; cases a1; cases a2; cases a3
    obtain ⟨j, rfl, hj⟩ := dp_ti a5
    obtain ⟨e, rfl, he⟩ := dp_ti a7
    obtain ⟨d, rfl, hd⟩ := dp_ti a8
    obtain ⟨q, ys, rfl, hq, hqa⟩ := dp_tup a6
    rw [dpAll_pl hqa] at hq
    exact ⟨p, _, j, q, e, d, rfl, hs, a4, hj, hq, he, hd⟩
theorem mark_c {p : Addr} {n : Int} (h : SqT K H p [.str "mark", .int n]) : Dp K H (.ref p) (dC (.mark n)) := .tup h (.cons (.str _) (.cons (.int _) .nil))
theorem node_c {p c : Addr} {lv : Int} {xs : List V} {ch : List (Option (Int × Int))} (h : SqT K H p [.str "node", .int lv, .ref c]) (hc : SqT K H c xs) (hd : DpAll K H xs (ch.map dAd)) : Dp K H (.ref p) (dC (.node lv ch)) :=
  .tup h (.cons (.str _) (.cons (.int _) (.cons (.tup hc hd) .nil)))
theorem item_c {p : Addr} {ep ix key : Int} {la : Bool} {u : V} {val : Option (List Int)} (h : SqT K H p [.str "item", .int ep, .int ix, .bl la, .int key, u]) (hu : Dp K H u (dVal val)) : Dp K H (.ref p) (dC (.item ep ix la key val)) :=
  .tup h (.cons (.str _) (.cons (.int _) (.cons (.int _) (.cons (.bl _) (.cons (.int _) (.cons hu .nil))))))
theorem root_c {p j q e d : Addr} {t : V} {n ep : Int} {tr : Option (Int × Int)} {jr : List Int} {pl : List (Option Int)} {er bd : List Int} (h : SqT K H p [.str "root", .int n, .int ep, t, .ref j, .ref q, .ref e, .ref d])
    (ht : Dp K H t (dAd tr)) (hj : SqT K H j (jr.map V.int)) (hq : SqT K H q (pl.map vPl)) (he : SqT K H e (er.map V.int)) (hd : SqT K H d (bd.map V.int)) : Dp K H (.ref p) (dC (.root n ep tr jr pl er bd)) :=
  .tup h (.cons (.str _) (.cons (.int _) (.cons (.int _) (.cons ht (.cons (ti_dp hj) (.cons (.tup hq (pl_dpAll pl)) (.cons (ti_dp he) (.cons (ti_dp hd) .nil))))))))
end
/-! ### further rules -/
section
variable {X : Cx} {K : PySem.W.Frag} {tg e : Expr} {te : TE} {t : TA} {p : Pos} {es : List Expr}
/-- what is walked is a list or a tuple -/
def iLT (K : PySem.W.Frag) (te : TE) : TI := fun σ H R => iList K te σ H R ∨ iTup K te σ H R
theorem q_pilt (he : PE X e te) (z : X.K = K := by rfl) : PI X tg e (iLT K te) :=
  ⟨fun pins s σ H R I h => h.elim (fun h => (q_pil (tg := tg) he z).run pins s σ H R I h) (fun h => (q_pit (tg := tg) he z).run pins s σ H R I h)⟩
def rdStar (K : PySem.W.Frag) (te : TE) (t : TA) : TA := fun σ H Q => te σ H fun x H1 => ∃ p xs, x = V.ref p ∧ (SqT K H1 p xs ∨ SqL K H1 p xs) ∧ t σ H1 fun ys H2 => Q (xs ++ ys) H2
theorem q_star (he : PE X e te) (hr : PA X es t) (hs : starEach (.Starred e p :: es) X.env = (true, eval e X.env) :: starEach es X.env := by rfl) (z : X.K = K := by rfl) : PA X (.Starred e p :: es) (rdStar K te t) := by
  subst z; exact StX.pa_star he hr hs
def kSt2 (xs : List V) (Q : List V → Hp → Prop) : List V → Hp → Prop := fun ys H2 => Q (xs ++ ys) H2
def kSt1 (K : PySem.W.Frag) (t : TA) (σ : St) (Q : List V → Hp → Prop) : VK := fun x H1 => ∃ p xs, x = V.ref p ∧ (SqT K H1 p xs ∨ SqL K H1 p xs) ∧ t σ H1 (kSt2 xs Q)
end
section
variable {σ : St} {H : Hp} {Q : VK} {K : PySem.W.Frag}
theorem i_star {te : TE} {t : TA} {Q : List V → Hp → Prop} (h : te σ H (kSt1 K t σ Q)) : rdStar K te t σ H Q := h
theorem i_kSt1L {t : TA} {Q : List V → Hp → Prop} {p : Addr} {xs : List V} (s : SqL K H p xs) (h : t σ H (kSt2 xs Q)) : kSt1 K t σ Q (.ref p) H := ⟨p, xs, rfl, .inr s, h⟩
theorem i_kSt1T {t : TA} {Q : List V → Hp → Prop} {p : Addr} {xs : List V} (s : SqT K H p xs) (h : t σ H (kSt2 xs Q)) : kSt1 K t σ Q (.ref p) H := ⟨p, xs, rfl, .inl s, h⟩
theorem i_kSt2 {xs ys : List V} {Q : List V → Hp → Prop} (h : Q (xs ++ ys) H) : kSt2 xs Q ys H := h
theorem i_all {a : Addr} {bs : List Bool} (s : SqL K H a (bs.map V.bl)) (h : Q (.bl (bs.all id)) H) : rAll K [.ref a] H Q := ⟨a, bs, rfl, s, h⟩
theorem i_any {a : Addr} {bs : List Bool} (s : SqL K H a (bs.map V.bl)) (h : Q (.bl (bs.any id)) H) : rAny K [.ref a] H Q := ⟨a, bs, rfl, s, h⟩
end
/-! ### both kinds walked by a comprehension; slices of tuples -/
section
variable {σ : St} {H : Hp} {Q : VK} {K : PySem.W.Frag} {X : Cx}
theorem i_lcLT {i : Nat} {a : Addr} {g : TG} {tt : TT} {te : TE} {vs : List Nat} (e : σ[i]? = some (some (.ref a))) (xs : List V) (Pv : Addr → Nat → Hp → Prop) (s : SqL K H a xs ∨ SqT K H a xs)
    (hsame : ∀ D i H1, Pv D i H1 → Same H H1) (h0 : ∀ D, H D = none → Pv D 0 (upd H D (.lst [])))
    (hs : ∀ D i x H1, H D = none → xs[i]? = some x → Pv D i H1 → g x (wipe σ vs) H1 (kLc1 tt te vs σ D (Pv D (i + 1)))) (hd : ∀ D H1, H D = none → Pv D xs.length H1 → Q (.ref D) H1) :
    iLT K (tVar i) σ H (kLc g tt te vs σ Q) := by
  rcases s with s | s
  · exact .inl (i_iList (i_var e (i_kIL s (i_lcL xs Pv h0 (fun D i H1 _ _ p => (hsame D i H1 p).seq s) hs hd))))
  · exact .inr (i_iTup (i_var e (i_kIT s (i_lcT xs Pv h0 (fun D i H1 _ _ p => same_tup (hsame D i H1 p) s) hs hd))))
theorem i_kLc2t {te : TE} {D : Addr} {N : Hp → Prop} {b : Bool} (e : b = true) (h : te σ H (kLc3 D N)) : kLc2 te σ D N b H := by subst e; exact i_kLc2T h
theorem i_kLc2f {te : TE} {D : Addr} {N : Hp → Prop} {b : Bool} (e : b = false) (h : N H) : kLc2 te σ D N b H := by subst e; exact i_kLc2F h
theorem get_map {α β : Type} {f : α → β} {l : List α} {i : Nat} {y : β} (h : (l.map f)[i]? = some y) : ∃ z, l[i]? = some z ∧ y = f z := by
  rw [List.getElem?_map] at h
  cases e : l[i]? with
  | none => rw [e] at h; cases h
  | some z => rw [e] at h; exact ⟨z, rfl, (Option.some.inj h).symm⟩
theorem tk_bind {α β : Type} {f : α → List β} {l : List α} {i : Nat} {z : α} (h : l[i]? = some z) : (l.take (i + 1)).flatMap f = (l.take i).flatMap f ++ f z := by
  rw [List.take_add_one, h, List.flatMap_append]; simp
theorem lt_of_get {α : Type} {l : List α} {i : Nat} {z : α} (h : l[i]? = some z) : i < l.length := (List.getElem?_eq_some_iff.mp h).1
theorem big {n : Nat} (h : n ≤ 100000) : n ≤ sizeLine := Nat.le_trans h (by decide)
theorem bigl {n : Nat} (h : n ≤ 100000) : n < sizeLine := Nat.lt_of_le_of_lt h (by decide)
theorem tk_map {α β : Type} {f : α → β} {l : List α} {i : Nat} {z : α} (h : l[i]? = some z) : (l.take (i + 1)).map f = (l.take i).map f ++ [f z] := by
  rw [List.take_add_one, h, List.map_append]; rfl
theorem q_slt (z : X.K = K := by rfl) : SlR X (rSlA K) := by subst z; exact sl_tupA
/-- t[k:], k within it -/
theorem i_slTF {b : Addr} {xs : List V} {k : Int} (j : Nat) (s : SqT K H b xs) (hj : 0 < j) (hl : j ≤ xs.length) (h : ∀ p, H p = none → Q (.ref p) (upd H p (.tup (xs.drop j)))) (e : k = (j : Int) := by first | rfl | omega) : rSlA K (.ref b) (some k) none H Q := by
  subst e
  refine ⟨b, xs, rfl, s, fun hw => ?_, fun _ p hp => ?_⟩
  · have := hw.1
    rw [sIx_n] at this
    omega
  · rw [cut_from]; exact h p hp
end
/-! ### steps that name the heap behind -/
section
variable {H H0 : Hp} {Q : VK} {K : PySem.W.Frag}
theorem same_mut {H' : Hp} {l : Addr} (n : H0 l = none) (s : Same H0 H) (k : ∀ b o, b ≠ l → H b = some o → H' b = some o) : Same H0 H' := fun b o e => k b o (ne_of_none e n) (s b o e)
theorem a_lst {xs : List V} (l : xs.length ≤ sizeLine) (h : ∀ p H', Same H H' → H p = none → H' p = some (.lst xs) → Q (.ref p) H') : kLst Q xs H := i_kLst l fun p hp => h p _ (same_upd hp) hp upd_same
theorem a_lstI {l : List Int} {xs : List V} (e : xs = l.map V.int) (z : l.length ≤ 100000) (h : ∀ p H', Same H H' → H p = none → H' p = some (.lst (l.map V.int)) → Q (.ref p) H') : kLst Q xs H := by
  subst e; exact a_lst (big (by rw [List.length_map]; exact z)) h
theorem a_tup {xs : List V} (l : xs.length ≤ sizeLine) (h : ∀ p H', Same H H' → H p = none → H' p = some (.tup xs) → Q (.ref p) H') : kTup Q xs H := i_kTup l fun p hp => h p _ (same_upd hp) hp upd_same
theorem a_cat {a b : Addr} {xs zs : List Int} (ha : H a = some (.lst (xs.map V.int))) (hb : H b = some (.lst (zs.map V.int))) (z : xs.length + zs.length ≤ 100000) (h : ∀ p H', Same H H' → H p = none → H' p = some (.lst ((xs ++ zs).map V.int)) → Q (.ref p) H') : rCat (.ref a) (.ref b) H Q :=
  i_cat ha hb (big (by rw [List.length_map, List.length_map]; exact z)) fun p hp => h p _ (same_upd hp) hp (by rw [upd_same, List.map_append])
theorem a_append {a : Addr} {xs : List Int} {y : Int} (ha : H a = some (.lst (xs.map V.int))) (z : xs.length < 100000) (h : ∀ H', (∀ b o, b ≠ a → H b = some o → H' b = some o) → H' a = some (.lst ((xs ++ [y]).map V.int)) → Q .non H') : rAppend (.ref a) [.int y] H Q :=
  i_append ha (bigl (by rw [List.length_map]; omega)) (h _ (fun b o n e => upd_get n e) (by rw [upd_same, List.map_append]; rfl))
theorem a_extend {a b : Addr} {xs zs : List Int} (ha : H a = some (.lst (xs.map V.int))) (hb : H b = some (.lst (zs.map V.int))) (z : xs.length + zs.length ≤ 100000) (h : ∀ H', (∀ b o, b ≠ a → H b = some o → H' b = some o) → H' a = some (.lst ((xs ++ zs).map V.int)) → Q .non H') : rExtend (.ref a) [.ref b] H Q :=
  i_extend ha hb (big (by rw [List.length_map, List.length_map]; exact z)) (h _ (fun b o n e => upd_get n e) (by rw [upd_same, List.map_append]))
theorem a_listT {p : Addr} {ys : List V} (s : SqT K H p ys) (h : ∀ l H', Same H H' → H l = none → H' l = some (.lst ys) → Q (.ref l) H') : rListOf K [.ref p] H Q := i_listT s fun l hl => h l _ (same_upd hl) hl upd_same
theorem a_listL {p : Addr} {ys : List V} (s : SqL K H p ys) (h : ∀ l H', Same H H' → H l = none → H' l = some (.lst ys) → Q (.ref l) H') : rListOf K [.ref p] H Q := i_listL s fun l hl => h l _ (same_upd hl) hl upd_same
theorem a_tupL {p : Addr} {ys : List V} (s : SqL K H p ys) (h : ∀ l H', Same H H' → H l = none → H' l = some (.tup ys) → Q (.ref l) H') : rTupOf K [.ref p] H Q := i_tupL s fun l hl => h l _ (same_upd hl) hl upd_same
theorem a_rep {a : Addr} {x : Int} {k : Int} (ha : H a = some (.lst [.int x])) (k0 : 0 ≤ k) (k1 : k ≤ 100000) (h : ∀ p H', Same H H' → H p = none → H' p = some (.lst ((List.replicate k.toNat x).map V.int)) → Q (.ref p) H') : rRep (.ref a) (.int k) H Q :=
  i_rep ha (by omega) (by omega) (big (by simp; omega)) fun p hp => h p _ (same_upd hp) hp (by rw [upd_same, rep_map V.int])
end
end Tm

/-! Te: what raises; tuples cut, joined, repeated -/
namespace Tm
open PySem PySem.Spec PyProof.Rows L2
/-- an exception of the class is the handler's -/
theorem exm_own {K : PySem.W.Frag} {C : Addr} (b : PySem.W.subIn K (.ref C) (.type "BaseException") = some true) (i : PySem.W.isClsIn K C = true) (t : PySem.W.typeIn K (.ref C) = some (.type "type")) (s : PySem.W.subIn K (.ref C) (.ref C) = some true) :
    PySem.W.exmOne K (.ref C) (.ref C) = some true := by
  have i' : (PySem.W.clsIn K C).isSome = true := i
  unfold PySem.W.exmOne PySem.W.kitCls
  simp [b, i', t, s]
def kCallS (sp : Sp) (E : XK) (Q : VK) : List V → Hp → Prop := fun vs H => sp vs H Q E
def rIsNotB : R2 := fun x y H Q => ∃ a b, x = .bl a ∧ y = .bl b ∧ Q (.bl (!decide (a = b))) H
theorem o_isnotB {X : Cx} : OpR X (compareOp .IsNot) rIsNotB := op_isnot_bl
section
variable {σ : St} {H : Hp} {Q : VK} {K : PySem.W.Frag} {X : Cx}
theorem i_callS {sp : Sp} {E : St → XK} {t : TA} (h : t σ H (kCall sp (E σ) Q)) : tCallS sp E t σ H Q := h
theorem i_isnotB {a b : Bool} (h : Q (.bl (!decide (a = b))) H) : rIsNotB (.bl a) (.bl b) H Q := ⟨a, b, rfl, rfl, h⟩
/-- an exception of the class c comes to the handler of c -/
theorem i_wOnly {C : Addr} {ts : Addr → Value → Option Addr → TS} {Wout : WX} {D : Ends} {d : Option Addr} (e : PySem.W.exmOne K (.ref C) (.ref C) = some true) (h : ∀ a, H a = none → ts a (.ref C) d D σ H) : wOnly K (.ref C) ts Wout D (.ref C) d σ H :=
  ⟨true, e, fun _ => h, fun q => Bool.noConfusion q⟩
theorem q_repT (z : X.K = K := by rfl) : OpR X (binaryOp .Mult) (rRepT K) := by subst z; exact op_repT
theorem q_catT (z : X.K = K := by rfl) : OpR X (binaryOp .Add) (rCatA K) := by subst z; exact op_catA
theorem a_repT {l : Addr} {x k : Int} (hT : SqT K H l [.int x]) (k0 : 2 ≤ k) (k1 : k ≤ 1000) (h : ∀ p H', Same H H' → H p = none → H' p = some (.tup ((List.replicate k.toNat x).map V.int)) → Q (.ref p) H') : rRepT K (.ref l) (.int k) H Q :=
  ⟨l, k, _, rfl, rfl, hT, by simp, k0, k1, by simp, fun p hp => h p _ (same_upd hp) hp (by rw [upd_same, rep_map V.int])⟩
theorem a_catT {l b : Addr} {xs ys : List V} (hx : SqT K H l xs) (hy : SqT K H b ys) (nx : xs ≠ []) (ny : ys ≠ []) (z : xs.length + ys.length ≤ 1000) (h : ∀ p H', Same H H' → H p = none → H' p = some (.tup (xs ++ ys)) → Q (.ref p) H') : rCatA K (.ref l) (.ref b) H Q :=
  ⟨l, b, xs, ys, rfl, rfl, hx, hy, sz z, fun e => absurd e nx, fun _ e => absurd e ny, fun _ _ p hp => h p _ (same_upd hp) hp upd_same⟩
/-- t[:k] -/
theorem a_slTT {b : Addr} {xs : List V} {k : Int} (j : Nat) (s : SqT K H b xs) (e : k = (j : Int)) (h : ∀ p H', Same H H' → SqT K H' p (xs.take j) → Q (.ref p) H') : rSlA K (.ref b) none (some k) H Q := by
  subst e
  refine ⟨b, xs, rfl, s, fun hw => ?_, fun _ p hp => ?_⟩
  · have w2 := hw.2
    rw [sIx_n] at w2
    refine h b H (Same.refl H) ?_
    rw [List.take_of_length_le (by omega)]; exact s
  · refine h p _ (same_upd hp) (SqT.of ?_)
    rw [upd_same, cut_to]
/-- an item of a list of anything is written -/
theorem a_setV {nx : St → Hp → Prop} {p : Addr} {l : List V} {k : Int} {v : V} (j : Nat) (hp : H p = some (.lst l)) (e : k = (j : Int)) (lt : j < l.length)
    (h : ∀ H', (∀ b o, b ≠ p → H b = some o → H' b = some o) → H' p = some (.lst (l.set j v)) → nx σ H') : kG2 rSetL (.ref p) v σ nx (.int k) H :=
  i_kG2 j hp e lt (h _ (fun b o n q => upd_get n q) upd_same)
end
end Tm

/-! the steps as one word -/
local macro_rules | `(tactic| walk_at "set") => `(tactic| ((repeat (with_reducible apply Tm.set_s)); exact Tm.set_z))
local macro_rules | `(tactic| walk_at "sc") => `(tactic| first | omega | (with_reducible assumption) | (dsimp only; first | omega | (with_reducible assumption)) | exact ⟨by omega, by omega⟩ | exact Or.inl ⟨by omega, by omega⟩ | exact Or.inr ⟨by omega, by omega⟩)
local macro_rules | `(tactic| walk_at "ne") => `(tactic| first | assumption | (apply Ne.symm; assumption) | (refine' L2.ne_of_none ?h ?n; (case n => assumption); (case h => walk_at "hp")) | (apply Ne.symm; refine' L2.ne_of_none ?h ?n; (case n => assumption); (case h => walk_at "hp")))
local macro_rules | `(tactic| walk_at "hp") => `(tactic| first | assumption | with_reducible exact L2.upd_same | ((with_reducible refine' Tm.upd_get ?n ?h); (case n => walk_at "ne"); (case h => walk_at "hp")) | (refine' (show L2.Same _ _ by assumption) _ _ ?h; (case h => walk_at "hp")))
local macro_rules | `(tactic| walk_at "sq") => `(tactic| first | assumption | ((with_reducible refine' L2.SqL.of ?h); (case h => walk_at "hp")) | ((with_reducible refine' L2.SqT.of ?h); (case h => walk_at "hp")) | ((with_reducible refine' Tm.sqL_new ?n ?h); (case n => assumption); (case h => walk_at "sq")) | ((with_reducible refine' Tm.sqT_new ?n ?h); (case n => assumption); (case h => walk_at "sq")) | ((with_reducible refine' Tm.sqL_upd ?n ?h); (case n => walk_at "ne"); (case h => walk_at "sq")) | ((with_reducible refine' Tm.sqT_upd ?n ?h); (case n => walk_at "ne"); (case h => walk_at "sq")) | (refine' L2.Same.seq (by assumption) ?h; (case h => walk_at "sq")) | (refine' Tm.same_tup (by assumption) ?h; (case h => walk_at "sq")))
local macro_rules | `(tactic| walk_at "s") => `(tactic| first
  | with_reducible refine' Tm.i_seq ?_
  | ((with_reducible refine' Tm.i_var ?k ?_); (case k => exact rfl))
  | with_reducible refine' Tm.i_c ?_
  | with_reducible refine' Tm.i_op ?_
  | with_reducible refine' Tm.i_kO1 ?_
  | with_reducible refine' Tm.i_kO2 ?_
  | with_reducible refine' Tm.i_asg ?_
  | with_reducible refine' Tm.i_kAsg ?_
  | ((with_reducible refine' Tm.i_gName ?k ?_); (case k => walk_at "set"))
  | with_reducible refine' Tm.i_rI0 ?_
  | ((with_reducible refine' Tm.i_rI ?k ?_); (case k => walk_at "sc"))
  | with_reducible refine' Tm.i_rU ?_
  | with_reducible refine' Tm.i_rEqI ?_
  | with_reducible refine' Tm.i_rNeI ?_
  | with_reducible refine' Tm.i_rEqS ?_
  | with_reducible refine' Tm.i_rNeS ?_
  | with_reducible refine' Tm.i_rEqB ?_
  | with_reducible refine' Tm.i_rNeB ?_
  | with_reducible refine' Tm.i_test ?_
  | with_reducible refine' Tm.i_tB ?_
  | with_reducible refine' Tm.i_kB ?_
  | with_reducible refine' Tm.i_ifS ?_
  | with_reducible refine' Tm.i_kIfT ?_
  | with_reducible refine' Tm.i_kIfF ?_
  | with_reducible refine' Tm.i_kIfn ?_
  | with_reducible refine' Tm.i_and ?_
  | with_reducible refine' Tm.i_or ?_
  | with_reducible refine' Tm.i_not ?_
  | with_reducible refine' Tm.i_kNot ?_
  | with_reducible refine' Tm.i_kAndT ?_
  | with_reducible refine' Tm.i_kAndF ?_
  | with_reducible refine' Tm.i_kOrT ?_
  | with_reducible refine' Tm.i_kOrF ?_
  | with_reducible refine' Tm.i_andV ?_
  | with_reducible refine' Tm.i_orV ?_
  | with_reducible refine' Tm.i_notV ?_
  | with_reducible refine' Tm.i_kNotV ?_
  | with_reducible refine' Tm.i_ifE ?_
  | with_reducible refine' Tm.i_kIfET ?_
  | with_reducible refine' Tm.i_kIfEF ?_
  | with_reducible refine' Tm.i_cons ?_
  | with_reducible refine' Tm.i_nil ?_
  | with_reducible refine' Tm.i_kA1 ?_
  | with_reducible refine' Tm.i_kA2 ?_
  | with_reducible refine' Tm.i_drop ?_
  | with_reducible refine' Tm.i_kDrop ?_
  | with_reducible refine' Tm.i_ret ?_
  | with_reducible refine' Tm.i_retN ?_
  | with_reducible refine' Tm.i_next ?_
  | with_reducible refine' Tm.i_brk ?_
  | with_reducible refine' Tm.i_cnt ?_
  | with_reducible refine' Tm.i_body ?_
  | ((with_reducible refine' Tm.i_aug ?k ?_); (case k => exact rfl))
  | with_reducible refine' Tm.i_kAug1 ?_
  | ((with_reducible refine' Tm.i_kAug2 ?k ?_); (case k => walk_at "set"))
  | with_reducible refine' Tm.i_ipI ?_
  | with_reducible refine' Tm.i_un ?_
  | with_reducible refine' Tm.i_kU ?_
  | with_reducible refine' Tm.i_cb ?_
  | with_reducible refine' Tm.i_kCB ?_
  | with_reducible refine' Tm.i_call ?_
  | with_reducible refine' Tm.i_kCall ?_
  | with_reducible refine' Tm.i_bm ?_
  | with_reducible refine' Tm.i_bm0 ?_
  | ((with_reducible refine' Tm.i_kBMl ?k ?_); (case k => walk_at "sq"))
  | ((with_reducible refine' Tm.i_kBM0l ?k ?_); (case k => walk_at "sq"))
  | with_reducible refine' Tm.i_kBM2 ?_
  | with_reducible refine' Tm.i_int ?_
  | ((with_reducible refine' Tm.i_lenL ?k ?_); (case k => walk_at "sq"))
  | ((with_reducible refine' Tm.i_lenT ?k ?_); (case k => walk_at "sq"))
  | with_reducible refine' Tm.i_isN ?_
  | with_reducible refine' Tm.i_notN ?_
  | with_reducible refine' Tm.i_tup ?_
  | with_reducible refine' Tm.i_lst ?_
  | with_reducible refine' Tm.i_sl ?_
  | with_reducible refine' Tm.i_kS1 ?_
  | with_reducible refine' Tm.i_kS2 ?_
  | with_reducible refine' Tm.i_kS3 ?_
  | with_reducible refine' Tm.i_noPart ?_
  | with_reducible refine' Tm.i_part ?_
  | with_reducible refine' Tm.i_kPart ?_
  | with_reducible refine' Tm.i_chain ?_
  | with_reducible refine' Tm.i_kC1 ?_
  | with_reducible refine' Tm.i_kC2 ?_
  | with_reducible refine' Tm.i_kC3 ?_
  | with_reducible refine' Tm.i_for ?_
  | with_reducible refine' Tm.i_lc ?_
  | with_reducible refine' Tm.i_iList ?_
  | with_reducible refine' Tm.i_iTup ?_
  | with_reducible refine' Tm.i_iRng1 ?_
  | with_reducible refine' Tm.i_iRng2 ?_
  | ((with_reducible refine' Tm.i_kIL ?k ?_); (case k => walk_at "sq"))
  | ((with_reducible refine' Tm.i_kIT ?k ?_); (case k => walk_at "sq"))
  | ((with_reducible refine' Tm.i_kIR1 ?k1 ?k2 ?_); (case k1 => walk_at "sc"); (case k2 => walk_at "sc"))
  | ((with_reducible refine' Tm.i_kIR2 ?k1 ?k2 ?k3 ?k4 ?_); (case k1 => walk_at "sc"); (case k2 => walk_at "sc"); (case k3 => walk_at "sc"); (case k4 => walk_at "sc"))
  | with_reducible refine' Tm.i_fld ?_
  | with_reducible refine' Tm.i_sFld ?_
  | with_reducible refine' Tm.i_kSF1 ?_
  | with_reducible refine' Tm.i_meth ?_
  | with_reducible refine' Tm.i_kM2 ?_
  | with_reducible refine' Tm.i_make ?_
  | with_reducible refine' Tm.i_yes ?_
  | with_reducible refine' Tm.i_gCons ?_
  | with_reducible refine' Tm.i_gNil ?_
  | ((with_reducible refine' Tm.i_gTup ?k1 ?k2 ?_); (case k1 => walk_at "sq"); (case k2 => exact rfl))
  | with_reducible refine' Tm.i_star ?_
  | ((with_reducible refine' Tm.i_kSt1T ?k1 ?_); (case k1 => walk_at "sq"))
  | ((with_reducible refine' Tm.i_kSt1L ?k1 ?_); (case k1 => walk_at "sq"))
  | with_reducible refine' Tm.i_kSt2 ?_
  | with_reducible refine' Tm.i_gSub ?_
  | with_reducible refine' Tm.i_kG1 ?_
  | ((with_reducible refine' Tm.i_gNameW ?k1 ?k2 ?k3 ?_); (case k1 => exact rfl); (case k2 => walk_at "set"); (case k3 => walk_at "set"))
  | ((with_reducible refine' Tm.i_kLc1 ?k ?_); (case k => exact rfl))
  | ((with_reducible refine' Tm.i_ixL ?k ?e ?_); (case k => walk_at "sq"); (case e => exact rfl))
  | ((with_reducible refine' Tm.i_ixI ?k ?e ?l1 ?l2 ?_); (case k => walk_at "sq"); (case e => first | exact Int.toNat_zero | exact Int.toNat_one | exact Int.toNat_ofNat _ | exact Int.toNat_natCast _); (case l1 => omega); (case l2 => omega))
  | ((with_reducible refine' Tm.i_ixT ?k ?e ?_); (case k => walk_at "sq"); (case e => exact rfl))
  | ((with_reducible refine' Tm.i_eqLL ?k1 ?k2 ?_); (case k1 => walk_at "sq"); (case k2 => walk_at "sq"))
  | ((with_reducible refine' Tm.i_neLL ?k1 ?k2 ?_); (case k1 => walk_at "sq"); (case k2 => walk_at "sq"))
  | ((with_reducible refine' Tm.i_eqTT ?k1 ?k2 ?_); (case k1 => walk_at "sq"); (case k2 => walk_at "sq"))
  | with_reducible refine' Tm.i_lstRev ?_
  | with_reducible refine' Tm.i_callS ?_
  | with_reducible refine' Tm.i_isnotB ?_
  | with_reducible refine' Tm.i_kLc2T ?_
  | with_reducible refine' Tm.i_kLc2F ?_
  | ((with_reducible refine' Tm.i_kIfdF ?k ?_); (case k => decide))
  | ((with_reducible refine' Tm.i_kIfdT ?k ?_); (case k => decide))
  | ((with_reducible refine' Tm.i_kIfdF ?k ?_); (case k => (intro hh; cases hh; done)))
  | ((with_reducible refine' Tm.i_kIfEdT ?k ?_); (case k => exact rfl))
  | ((with_reducible refine' Tm.i_kIfEdF ?k ?_); (case k => (intro hh; cases hh; done))))
local macro_rules | `(tactic| walk_at "go") => `(tactic| repeat walk_at "s")
namespace P07
open PySem PySem.Spec PyProof.Rows L2 Tm
abbrev St := L2.St
def topS (i : Nat) : Stmt := PySem.Challenge.pw_tidemark_k07_contents_that_fit.main.body.getD i (.Pass ⟨0, 0, 0, 0⟩)
abbrev s_number_row : Stmt := topS 4
abbrev N_number_row : List Str := ["number", "width", "row", "rest", "_"]
theorem sc_number_row : FnScope N_number_row ["number", "width"] (defScope s_number_row) := ⟨rfl, rfl, rfl, by decide +kernel, rfl, by decide +kernel, by decide +kernel⟩
abbrev s_fits_page : Stmt := topS 16
abbrev N_fits_page : List Str := ["content", "kind"]
theorem sc_fits_page : FnScope N_fits_page ["content"] (defScope s_fits_page) := ⟨rfl, rfl, rfl, by decide +kernel, rfl, by decide +kernel, by decide +kernel⟩
abbrev s__fits_root : Stmt := topS 17
abbrev N__fits_root : List Str := ["content", "_", "number", "epoch", "tree", "journal", "places", "erases", "bad", "named", "entries", "place"]
theorem sc__fits_root : FnScope N__fits_root ["content"] (defScope s__fits_root) := ⟨rfl, rfl, rfl, by decide +kernel, rfl, by decide +kernel, by decide +kernel⟩
abbrev s__fits_item : Stmt := topS 18
abbrev N__fits_item : List Str := ["content", "_", "epoch", "index", "key", "value"]
theorem sc__fits_item : FnScope N__fits_item ["content"] (defScope s__fits_item) := ⟨rfl, rfl, rfl, by decide +kernel, rfl, by decide +kernel, by decide +kernel⟩
abbrev s__fits_node : Stmt := topS 19
abbrev N__fits_node : List Str := ["content", "_", "level", "children", "child"]
theorem sc__fits_node : FnScope N__fits_node ["content"] (defScope s__fits_node) := ⟨rfl, rfl, rfl, by decide +kernel, rfl, by decide +kernel, by decide +kernel⟩
abbrev s__fits_value : Stmt := topS 20
abbrev N__fits_value : List Str := ["value"]
theorem sc__fits_value : FnScope N__fits_value ["value"] (defScope s__fits_value) := ⟨rfl, rfl, rfl, by decide +kernel, rfl, by decide +kernel, by decide +kernel⟩
abbrev s__fits_address : Stmt := topS 21
abbrev N__fits_address : List Str := ["address", "block", "page"]
theorem sc__fits_address : FnScope N__fits_address ["address"] (defScope s__fits_address) := ⟨rfl, rfl, rfl, by decide +kernel, rfl, by decide +kernel, by decide +kernel⟩
abbrev s__are_below : Stmt := topS 22
abbrev N__are_below : List Str := ["numbers", "bound", "number"]
theorem sc__are_below : FnScope N__are_below ["numbers", "bound"] (defScope s__are_below) := ⟨rfl, rfl, rfl, by decide +kernel, rfl, by decide +kernel, by decide +kernel⟩
abbrev s_content_body : Stmt := topS 23
abbrev N_content_body : List Str := ["content", "kind"]
theorem sc_content_body : FnScope N_content_body ["content"] (defScope s_content_body) := ⟨rfl, rfl, rfl, by decide +kernel, rfl, by decide +kernel, by decide +kernel⟩
abbrev s__root_body : Stmt := topS 24
abbrev N__root_body : List Str := ["content", "_", "number", "epoch", "tree", "journal", "places", "erases", "bad", "named", "body", "count", "place"]
theorem sc__root_body : FnScope N__root_body ["content"] (defScope s__root_body) := ⟨rfl, rfl, rfl, by decide +kernel, rfl, by decide +kernel, by decide +kernel⟩
abbrev s__item_body : Stmt := topS 25
abbrev N__item_body : List Str := ["content", "_", "epoch", "index", "last", "key", "value", "body"]
theorem sc__item_body : FnScope N__item_body ["content"] (defScope s__item_body) := ⟨rfl, rfl, rfl, by decide +kernel, rfl, by decide +kernel, by decide +kernel⟩
abbrev s__node_body : Stmt := topS 26
abbrev N__node_body : List Str := ["content", "_", "level", "children", "body", "child"]
theorem sc__node_body : FnScope N__node_body ["content"] (defScope s__node_body) := ⟨rfl, rfl, rfl, by decide +kernel, rfl, by decide +kernel, by decide +kernel⟩
abbrev s__address_row : Stmt := topS 27
abbrev N__address_row : List Str := ["address"]
theorem sc__address_row : FnScope N__address_row ["address"] (defScope s__address_row) := ⟨rfl, rfl, rfl, by decide +kernel, rfl, by decide +kernel, by decide +kernel⟩
abbrev s__law_draws : Stmt := topS 29
abbrev N__law_draws : List Str := ["script", "count", "draws", "k", "cell"]
theorem sc__law_draws : FnScope N__law_draws ["script", "count"] (defScope s__law_draws) := ⟨rfl, rfl, rfl, by decide +kernel, rfl, by decide +kernel, by decide +kernel⟩
abbrev s__law_number : Stmt := topS 30
abbrev N__law_number : List Str := ["draw"]
theorem sc__law_number : FnScope N__law_number ["draw"] (defScope s__law_number) := ⟨rfl, rfl, rfl, by decide +kernel, rfl, by decide +kernel, by decide +kernel⟩
abbrev s__law_address : Stmt := topS 31
abbrev N__law_address : List Str := ["draw"]
theorem sc__law_address : FnScope N__law_address ["draw"] (defScope s__law_address) := ⟨rfl, rfl, rfl, by decide +kernel, rfl, by decide +kernel, by decide +kernel⟩
abbrev s__law_place : Stmt := topS 32
abbrev N__law_place : List Str := ["draw"]
theorem sc__law_place : FnScope N__law_place ["draw"] (defScope s__law_place) := ⟨rfl, rfl, rfl, by decide +kernel, rfl, by decide +kernel, by decide +kernel⟩
abbrev s__law_count : Stmt := topS 33
abbrev N__law_count : List Str := ["draw"]
theorem sc__law_count : FnScope N__law_count ["draw"] (defScope s__law_count) := ⟨rfl, rfl, rfl, by decide +kernel, rfl, by decide +kernel, by decide +kernel⟩
abbrev s__law_octets : Stmt := topS 34
abbrev N__law_octets : List Str := ["draw", "count", "k"]
theorem sc__law_octets : FnScope N__law_octets ["draw", "count"] (defScope s__law_octets) := ⟨rfl, rfl, rfl, by decide +kernel, rfl, by decide +kernel, by decide +kernel⟩
abbrev s__law_content : Stmt := topS 35
abbrev N__law_content : List Str := ["draw", "other", "kind", "children", "value", "last", "journal", "places", "erases", "bad", "k"]
theorem sc__law_content : FnScope N__law_content ["draw", "other"] (defScope s__law_content) := ⟨rfl, rfl, rfl, by decide +kernel, rfl, by decide +kernel, by decide +kernel⟩
abbrev s__law_changed : Stmt := topS 36
abbrev N__law_changed : List Str := ["content", "draw", "over", "number", "which", "child", "value", "parts"]
theorem sc__law_changed : FnScope N__law_changed ["content", "draw"] (defScope s__law_changed) := ⟨rfl, rfl, rfl, by decide +kernel, rfl, by decide +kernel, by decide +kernel⟩
abbrev s__law_has_body : Stmt := topS 37
abbrev N__law_has_body : List Str := ["content"]
theorem sc__law_has_body : FnScope N__law_has_body ["content"] (defScope s__law_has_body) := ⟨rfl, rfl, rfl, by decide +kernel, rfl, by decide +kernel, by decide +kernel⟩
abbrev s_law : Stmt := topS 38
abbrev N_law : List Str := ["script", "draws", "content", "draw", "changed", "fits"]
theorem sc_law : FnScope N_law ["script"] (defScope s_law) := ⟨rfl, rfl, rfl, by decide +kernel, rfl, by decide +kernel, by decide +kernel⟩
/-- where the text's things stand -/
structure Ad where
  f_number_row : Addr
  d_number_row : FuncData
  f_fits_page : Addr
  d_fits_page : FuncData
  f__fits_root : Addr
  d__fits_root : FuncData
  f__fits_item : Addr
  d__fits_item : FuncData
  f__fits_node : Addr
  d__fits_node : FuncData
  f__fits_value : Addr
  d__fits_value : FuncData
  f__fits_address : Addr
  d__fits_address : FuncData
  f__are_below : Addr
  d__are_below : FuncData
  f_content_body : Addr
  d_content_body : FuncData
  f__root_body : Addr
  d__root_body : FuncData
  f__item_body : Addr
  d__item_body : FuncData
  f__node_body : Addr
  d__node_body : FuncData
  f__address_row : Addr
  d__address_row : FuncData
  f__law_draws : Addr
  d__law_draws : FuncData
  f__law_number : Addr
  d__law_number : FuncData
  f__law_address : Addr
  d__law_address : FuncData
  f__law_place : Addr
  d__law_place : FuncData
  f__law_count : Addr
  d__law_count : FuncData
  f__law_octets : Addr
  d__law_octets : FuncData
  f__law_content : Addr
  d__law_content : FuncData
  f__law_changed : Addr
  d__law_changed : FuncData
  f__law_has_body : Addr
  d__law_has_body : FuncData
  f_law : Addr
  d_law : FuncData
  k_InvalidContent : Addr
  v_NUMBER_BOUND : Value
  v_BLOCK_BOUND : Value
  v_MOST_ENTRIES : Value
  v_NODE_CHILDREN : Value
  v_LEVEL_BOUND : Value
  v_OCTET_BOUND : Value
  v_MOST_OCTETS : Value
  v_PAGE_BOUND : Value
  v_NO_BLOCK : Value
  v_NO_ADDRESS : Value
  t_NO_ADDRESS : Addr
/-- what the top has written -/
structure Txt (w : World) (K : PySem.W.Frag) (mg : Str → Option Value) (a : Ad) : Prop where
  F_number_row : Fun K "number_row" "number_row" s_number_row a.f_number_row a.d_number_row
  b_number_row : Binds K a.d_number_row ["number", "width"] []
  g_number_row : mg "number_row" = some (.ref a.f_number_row)
  F_fits_page : Fun K "fits_page" "fits_page" s_fits_page a.f_fits_page a.d_fits_page
  b_fits_page : Binds K a.d_fits_page ["content"] []
  g_fits_page : mg "fits_page" = some (.ref a.f_fits_page)
  F__fits_root : Fun K "_fits_root" "_fits_root" s__fits_root a.f__fits_root a.d__fits_root
  b__fits_root : Binds K a.d__fits_root ["content"] []
  g__fits_root : mg "_fits_root" = some (.ref a.f__fits_root)
  F__fits_item : Fun K "_fits_item" "_fits_item" s__fits_item a.f__fits_item a.d__fits_item
  b__fits_item : Binds K a.d__fits_item ["content"] []
  g__fits_item : mg "_fits_item" = some (.ref a.f__fits_item)
  F__fits_node : Fun K "_fits_node" "_fits_node" s__fits_node a.f__fits_node a.d__fits_node
  b__fits_node : Binds K a.d__fits_node ["content"] []
  g__fits_node : mg "_fits_node" = some (.ref a.f__fits_node)
  F__fits_value : Fun K "_fits_value" "_fits_value" s__fits_value a.f__fits_value a.d__fits_value
  b__fits_value : Binds K a.d__fits_value ["value"] []
  g__fits_value : mg "_fits_value" = some (.ref a.f__fits_value)
  F__fits_address : Fun K "_fits_address" "_fits_address" s__fits_address a.f__fits_address a.d__fits_address
  b__fits_address : Binds K a.d__fits_address ["address"] []
  g__fits_address : mg "_fits_address" = some (.ref a.f__fits_address)
  F__are_below : Fun K "_are_below" "_are_below" s__are_below a.f__are_below a.d__are_below
  b__are_below : Binds K a.d__are_below ["numbers", "bound"] []
  g__are_below : mg "_are_below" = some (.ref a.f__are_below)
  F_content_body : Fun K "content_body" "content_body" s_content_body a.f_content_body a.d_content_body
  b_content_body : Binds K a.d_content_body ["content"] []
  g_content_body : mg "content_body" = some (.ref a.f_content_body)
  F__root_body : Fun K "_root_body" "_root_body" s__root_body a.f__root_body a.d__root_body
  b__root_body : Binds K a.d__root_body ["content"] []
  g__root_body : mg "_root_body" = some (.ref a.f__root_body)
  F__item_body : Fun K "_item_body" "_item_body" s__item_body a.f__item_body a.d__item_body
  b__item_body : Binds K a.d__item_body ["content"] []
  g__item_body : mg "_item_body" = some (.ref a.f__item_body)
  F__node_body : Fun K "_node_body" "_node_body" s__node_body a.f__node_body a.d__node_body
  b__node_body : Binds K a.d__node_body ["content"] []
  g__node_body : mg "_node_body" = some (.ref a.f__node_body)
  F__address_row : Fun K "_address_row" "_address_row" s__address_row a.f__address_row a.d__address_row
  b__address_row : Binds K a.d__address_row ["address"] []
  g__address_row : mg "_address_row" = some (.ref a.f__address_row)
  F__law_draws : Fun K "_law_draws" "_law_draws" s__law_draws a.f__law_draws a.d__law_draws
  b__law_draws : Binds K a.d__law_draws ["script", "count"] []
  g__law_draws : mg "_law_draws" = some (.ref a.f__law_draws)
  F__law_number : Fun K "_law_number" "_law_number" s__law_number a.f__law_number a.d__law_number
  b__law_number : Binds K a.d__law_number ["draw"] []
  g__law_number : mg "_law_number" = some (.ref a.f__law_number)
  F__law_address : Fun K "_law_address" "_law_address" s__law_address a.f__law_address a.d__law_address
  b__law_address : Binds K a.d__law_address ["draw"] []
  g__law_address : mg "_law_address" = some (.ref a.f__law_address)
  F__law_place : Fun K "_law_place" "_law_place" s__law_place a.f__law_place a.d__law_place
  b__law_place : Binds K a.d__law_place ["draw"] []
  g__law_place : mg "_law_place" = some (.ref a.f__law_place)
  F__law_count : Fun K "_law_count" "_law_count" s__law_count a.f__law_count a.d__law_count
  b__law_count : Binds K a.d__law_count ["draw"] []
  g__law_count : mg "_law_count" = some (.ref a.f__law_count)
  F__law_octets : Fun K "_law_octets" "_law_octets" s__law_octets a.f__law_octets a.d__law_octets
  b__law_octets : Binds K a.d__law_octets ["draw", "count"] []
  g__law_octets : mg "_law_octets" = some (.ref a.f__law_octets)
  F__law_content : Fun K "_law_content" "_law_content" s__law_content a.f__law_content a.d__law_content
  b__law_content : Binds K a.d__law_content ["draw", "other"] []
  g__law_content : mg "_law_content" = some (.ref a.f__law_content)
  F__law_changed : Fun K "_law_changed" "_law_changed" s__law_changed a.f__law_changed a.d__law_changed
  b__law_changed : Binds K a.d__law_changed ["content", "draw"] []
  g__law_changed : mg "_law_changed" = some (.ref a.f__law_changed)
  F__law_has_body : Fun K "_law_has_body" "_law_has_body" s__law_has_body a.f__law_has_body a.d__law_has_body
  b__law_has_body : Binds K a.d__law_has_body ["content"] []
  g__law_has_body : mg "_law_has_body" = some (.ref a.f__law_has_body)
  F_law : Fun K "law" "law" s_law a.f_law a.d_law
  b_law : Binds K a.d_law ["script"] []
  g_law : mg "law" = some (.ref a.f_law)
  g_InvalidContent : mg "InvalidContent" = some (.ref a.k_InvalidContent)
  x_InvalidContent : PySem.W.excIn K a.k_InvalidContent [.type "ValueError", .type "Exception", .type "BaseException", .type "object"] "ValueError.__new__" = true
  kp_InvalidContent : PySem.W.keepIn K (.ref a.k_InvalidContent) = true
  bs_InvalidContent : PySem.W.subIn K (.ref a.k_InvalidContent) (.type "BaseException") = some true
  ty_InvalidContent : PySem.W.typeIn K (.ref a.k_InvalidContent) = some (.type "type")
  e_InvalidContent : PySem.W.exmOne K (.ref a.k_InvalidContent) (.ref a.k_InvalidContent) = some true
  z_list : mg "list" = none
  z_reversed : mg "reversed" = none
  z_range : mg "range" = none
  z_any : mg "any" = none
  z_len : mg "len" = none
  z_all : mg "all" = none
  z_int : mg "int" = none
  z_tuple : mg "tuple" = none
  c_NUMBER_BOUND : mg "NUMBER_BOUND" = some a.v_NUMBER_BOUND ∧ RelV (V.int 4294967296) a.v_NUMBER_BOUND
  c_BLOCK_BOUND : mg "BLOCK_BOUND" = some a.v_BLOCK_BOUND ∧ RelV (V.int 48) a.v_BLOCK_BOUND
  c_MOST_ENTRIES : mg "MOST_ENTRIES" = some a.v_MOST_ENTRIES ∧ RelV (V.int 48) a.v_MOST_ENTRIES
  c_NODE_CHILDREN : mg "NODE_CHILDREN" = some a.v_NODE_CHILDREN ∧ RelV (V.int 32) a.v_NODE_CHILDREN
  c_LEVEL_BOUND : mg "LEVEL_BOUND" = some a.v_LEVEL_BOUND ∧ RelV (V.int 256) a.v_LEVEL_BOUND
  c_OCTET_BOUND : mg "OCTET_BOUND" = some a.v_OCTET_BOUND ∧ RelV (V.int 256) a.v_OCTET_BOUND
  c_MOST_OCTETS : mg "MOST_OCTETS" = some a.v_MOST_OCTETS ∧ RelV (V.int 448) a.v_MOST_OCTETS
  c_PAGE_BOUND : mg "PAGE_BOUND" = some a.v_PAGE_BOUND ∧ RelV (V.int 32) a.v_PAGE_BOUND
  c_NO_BLOCK : mg "NO_BLOCK" = some a.v_NO_BLOCK ∧ RelV (V.int 255) a.v_NO_BLOCK
  c_NO_ADDRESS : mg "NO_ADDRESS" = some a.v_NO_ADDRESS ∧ RelV (.ref a.t_NO_ADDRESS) a.v_NO_ADDRESS
  t_NO_ADDRESS : ∀ H : Hp, SqT K H a.t_NO_ADDRESS [V.int 255, V.int 255]

/-- no list of a content is long -/
def szC : Cont → Prop
  | .mark _ => True
  | .node _ ch => ch.length ≤ 1000
  | .item _ _ _ _ val => ∀ l, val = some l → l.length ≤ 1000
  | .root _ _ _ jr pl er bd => jr.length ≤ 1000 ∧ pl.length ≤ 1000 ∧ er.length ≤ 1000 ∧ bd.length ≤ 1000
theorem rowOf_length (n : Nat) (r : Int) : (rowOf n r).length = n := rowOf_len n r
theorem bAd_len (q : Option (Int × Int)) : (bAd q).length = 2 := by cases q <;> rfl
theorem flat_len {α : Type} (f : α → List Int) (k : Nat) (h : ∀ x, (f x).length = k) : ∀ l : List α, (l.flatMap f).length = l.length * k
  | [] => by simp
  | x :: r => by rw [List.flatMap_cons, List.length_append, h, flat_len f k h r, List.length_cons, Nat.succ_mul]; omega

theorem below_nil (m : Int) : below m [] = true := rfl
theorem below_snoc {m z : Int} {l : List Int} (h : below m l = true) (h0 : 0 ≤ z) (h1 : z < m) : below m (l ++ [z]) = true := by
  unfold below at h ⊢
  rw [List.all_append, h]
  simp [cLo, h0, h1]
theorem below_one {m z : Int} (h0 : 0 ≤ z) (h1 : z < m) : below m [z] = true := by simp [below, cLo, h0, h1]
theorem below_app {m : Int} {l r : List Int} (h : below m l = true) (h' : below m r = true) : below m (l ++ r) = true := by
  unfold below at *
  rw [List.all_append, h, h']; rfl

theorem below_cons' (m x : Int) (l : List Int) : below m (x :: l) = (cLo m x && below m l) := rfl
theorem below_nil' (m : Int) : below m [] = true := rfl
theorem below_append' (m : Int) (a b : List Int) : below m (a ++ b) = (below m a && below m b) := by unfold below; rw [List.all_append]
theorem below_rep' (m x : Int) (n : Nat) (h : cLo m x = true) : below m (List.replicate n x) = true := by
  induction n with
  | zero => rfl
  | succ n ih => rw [List.replicate_succ, below_cons', h, ih]; rfl
theorem cLo_top {m z d : Int} (m0 : 0 < m) (e : z = m - 1 + d % 2) : cLo m z = decide (d % 2 = 0) := by
  subst e
  unfold cLo
  apply decide_eq_decide.mpr
  omega
theorem dpAll_take {K : PySem.W.Frag} {H : Hp} : ∀ {ds : List PyData} {vs : List V} (k : Nat), DpAll K H vs ds → DpAll K H (vs.take k) (ds.take k)
  | _, _, 0, _ => .nil
  | [], _, k + 1, h => by cases h; exact .nil
  | d :: ds, _, k + 1, h => by
    cases h with
    | cons h1 h2 => exact .cons h1 (dpAll_take k h2)
theorem all_take' {α : Type} {p : α → Bool} {l : List α} (k : Nat) (h : l.all p = true) : (l.take k).all p = true := by
  rw [List.all_eq_true] at h ⊢
  exact fun x hx => h x (List.mem_of_mem_take hx)
theorem named_rep (x : Int) (n : Nat) : named (List.replicate n (some x)) = List.replicate n x := by
  induction n with
  | zero => rfl
  | succ n ih =>
    rw [List.replicate_succ, List.replicate_succ, ← ih]; rfl
/-- what a root's list of parts shows -/
def PartsOf (K : PySem.W.Frag) (H : Hp) (xs : List V) (c : Cont) : Prop := ∀ H' t, Same H H' → SqT K H' t xs → Dp K H' (.ref t) (dC c)

section
variable {P : Program} {w : World} {K : PySem.W.Frag} {mg : Str → Option Value} {base : Heap} {a : Ad}
def sp_number_row (K : PySem.W.Frag) : Sp := fun vs H Q _ => ∃ (r wd : Int), vs = [.int r, .int wd] ∧ 0 ≤ wd ∧ wd ≤ 100 ∧
  ∀ H' p, Same H H' → H p = none → H' p = some (.lst ((rowOf wd.toNat r).map V.int)) → Q (.ref p) H'
set_option maxHeartbeats 20000000 in
theorem ok_number_row (T : Txt w K mg a) : FnOk P w K mg base CX0 1 a.f_number_row a.d_number_row ["number", "width"] (sp_number_row K) := by
  refine T.F_number_row.ok sc_number_row (fun vs H Q E h => ?_) (fun cdv A outer s H vs Q E hr h => ?_)
  · obtain ⟨r, wd, rfl, w0, w1, q⟩ := h
    rfl
  · obtain ⟨r, wd, rfl, w0, w1, q⟩ := h
    refine ⟨_, (pss_cons (ps_set (i := 2) sc_number_row.nd rfl (.inl rfl) (pe_lst pa_nil))
        (pss_cons (ps_set (i := 3) sc_number_row.nd rfl (.inl rfl) (pv 0))
        (pss_cons (ps_for PassesOwn.never rfl (pi_range1 (by rfl) T.z_range (pa_cons (pv 1) pa_nil)) (pg_name (i := 4) sc_number_row.nd rfl (.inl rfl)) (pss_cons (ps_expr (pe_bm PySem.F.plainAttrs_list PySem.F.slot_list_append PySem.F.type_list_append mt_append (pv 2) (pa_cons (pe_op op_and (pv 3) pe_int) pa_nil)))
        (pss_one (ps_set (i := 3) sc_number_row.nd rfl (.inl rfl) (pe_op op_shr (pv 3) pe_int)))))
        (pss_one (ps_ret (pe_listRev rfl (by rfl) T.z_list (by rfl) T.z_reversed (pv 2))))))), ?_⟩
    refine i_st (σ' := [some (.int r), some (.int wd), none, none, none]) rfl ?_
    walk_at "go"
    refine i_kLst (Nat.zero_le _) fun p hp => ?_
    walk_at "go"
    refine i_forR0 (fun i σ H1 => ∃ y4, σ = [some (.int r), some (.int wd), some (.ref p), some (.int (r / 256 ^ i)), y4] ∧ Same H H1 ∧ H1 p = some (.lst ((lit i r).map V.int)))
      ⟨none, by rw [show r / 256 ^ 0 = r by rw [Int.pow_zero, Int.ediv_one]], same_upd hp, upd_same⟩ ?_ ?_
    · rintro i σ H1 hi ⟨y4, rfl, sm, hP⟩
      walk_at "go"
      refine i_append hP (small1000 (by rw [List.length_map, lit_len]; omega)) ?_
      walk_at "go"
      refine ⟨some (.int i), ?_, fun x o e => upd_get (ne_of_none e hp) (sm x o e), ?_⟩
      · rw [pow_div_up]
        rfl
      · rw [upd_same, lit_succ, List.map_append, PyProof.Rows.bitAnd_m8]; rfl
    · rintro σ H1 ⟨y4, rfl, sm, hP⟩
      walk_at "go"
      refine i_kLstRev (SqL.of hP) fun t ht => ?_
      have e : ((lit wd.toNat r).map V.int).reverse = (rowOf wd.toNat r).map V.int := by rw [← List.map_reverse]; rfl
      rw [e]
      exact q _ t (Same.trans sm (same_upd ht)) (Same.free sm ht) upd_same
def sp__are_below (K : PySem.W.Frag) : Sp := fun vs H Q _ => ∃ (b : Addr) (l : List Int) (m : Int), vs = [.ref b, .int m] ∧ (SqL K H b (l.map V.int) ∨ SqT K H b (l.map V.int)) ∧ l.length ≤ 5000 ∧
  ∀ H', Same H H' → Q (.bl (below m l)) H'
set_option maxHeartbeats 20000000 in
theorem ok__are_below (T : Txt w K mg a) : FnOk P w K mg base CX0 1 a.f__are_below a.d__are_below ["numbers", "bound"] (sp__are_below K) := by
  refine T.F__are_below.ok sc__are_below (fun vs H Q E h => ?_) (fun cdv A outer s H vs Q E hr h => ?_)
  · obtain ⟨b, l, m, rfl, hS, hl, q⟩ := h
    rfl
  · obtain ⟨b, l, m, rfl, hS, hl, q⟩ := h
    refine ⟨_, (pss_one (ps_ret (pe_callB (q_all (K := K) rfl) (by rfl) T.z_all (by decide +kernel) (pa_cons (pe_lc (own := [("number", 2)]) (g := gName 2) (tt := tYes) rfl sc__are_below.nd (q_pilt (K := K) (pv 0)) (blkOk_by (own := [("number", 2)]) (N := N__are_below) (sc := defScope s__are_below) (by decide +kernel)) (fun _ _ _ _ _ => pg_name (i := 2) sc__are_below.nd rfl (Or.inl rfl)) (fun _ _ _ _ _ => pts_nil) (fun _ _ _ _ _ => (pe_chain op_le op_lt pe_int (pv 2) (pv 1)))) pa_nil)))), ?_⟩
    refine i_st (σ' := [some (.ref b), some (.int m), none]) rfl ?_
    walk_at "go"
    refine i_lcLT rfl (l.map V.int) (fun D i H' => Same H H' ∧ H' D = some (.lst (((l.take i).map (cLo m)).map V.bl))) hS (fun D i H1 h => h.1) (fun D hD => ⟨same_upd hD, upd_same⟩) ?_ ?_
    · rintro D i x H1 hD hx ⟨sm, hO⟩
      obtain ⟨z, hz, rfl⟩ := map_at hx
      have hn : (((l.take i).map (cLo m)).map V.bl).length < sizeLine := Nat.lt_of_le_of_lt (by rw [List.length_map, List.length_map, List.length_take]; omega : _ ≤ 5000) (by decide)
      walk_at "go"
      refine i_kC2' (fun h => ?_) (fun h => ?_)
      · walk_at "go"
        refine i_kLc3 hO hn ⟨same_wr hD sm, ?_⟩
        have e : cLo m z = decide (z < m) := by unfold cLo; simp [of_decide_eq_true h]
        rw [upd_same, tk_map hz, List.map_append, e]; rfl
      · walk_at "go"
        refine i_kLc3 hO hn ⟨same_wr hD sm, ?_⟩
        have e : cLo m z = false := by unfold cLo; simp only [decide_eq_false_iff_not]; intro w; exact of_decide_eq_false h w.1
        rw [upd_same, tk_map hz, List.map_append, e]; rfl
    · rintro D H1 hD ⟨sm, hO⟩
      walk_at "go"
      rw [List.length_map, List.take_length] at hO
      refine i_all (SqL.of hO) ?_
      rw [List.all_map]
      exact q H1 sm
def sp__fits_address (K : PySem.W.Frag) : Sp := fun vs H Q _ => ∃ (v : V) (c : Option (Int × Int)), vs = [v] ∧ Dp K H v (dAd c) ∧ ∀ H', Same H H' → Q (.bl (fAd c)) H'
set_option maxHeartbeats 20000000 in
theorem ok__fits_address (T : Txt w K mg a) : FnOk P w K mg base CX0 2 a.f__fits_address a.d__fits_address ["address"] (sp__fits_address K) := by
  refine T.F__fits_address.ok sc__fits_address (fun vs H Q E h => ?_) (fun cdv A outer s H vs Q E hr h => ?_)
  · obtain ⟨v, c, rfl, hD, q⟩ := h
    rfl
  · obtain ⟨v, c, rfl, hD, q⟩ := h
    refine ⟨_, (pss_cons (ps_if (pt_cmpR o_isN (pv 0) pe_non (nomark _)) (pss_one (ps_ret pe_bl)) pss_nil)
        (pss_cons (ps_asg (pv 0) (pg_tup rfl (pgs_cons (pg_name (i := 1) sc__fits_address.nd rfl (.inl rfl)) (pgs_cons (pg_name (i := 2) sc__fits_address.nd rfl (.inl rfl)) pgs_nil))))
        (pss_one (ps_ret (pe_and (pe_call (ok__are_below (K := K) T) (hr.mono (by decide)) (by rfl) T.g__are_below T.F__are_below.kp T.b__are_below .nil pass0 (pa_cons (pe_lst (pa_cons (pv 1) pa_nil)) (pa_cons (pe_glob rfl T.c_BLOCK_BOUND.1 T.c_BLOCK_BOUND.2) pa_nil))) (pe_one (pe_call (ok__are_below (K := K) T) (hr.mono (by decide)) (by rfl) T.g__are_below T.F__are_below.kp T.b__are_below .nil pass0 (pa_cons (pe_lst (pa_cons (pv 2) pa_nil)) (pa_cons (pe_glob rfl T.c_PAGE_BOUND.1 T.c_PAGE_BOUND.2) pa_nil))))))))), ?_⟩
    refine i_st (σ' := [some (v), none, none]) rfl ?_
    cases c with
    | none =>
      obtain rfl := dp_none hD
      walk_at "go"
      exact q H (Same.refl H)
    | some c =>
      obtain ⟨a', rfl, hT⟩ := dp_ad_some hD
      walk_at "go"
      refine i_kLst (sz (by simp)) fun t ht => ?_
      walk_at "go"
      refine ⟨t, [c.1], 48, rfl, .inl (SqL.of upd_same), by simp, fun H1 sm1 => ?_⟩
      refine i_kAndV (fun h => ?_) (fun h => ?_)
      · walk_at "go"
        refine i_kLst (sz (by simp)) fun u hu => ?_
        walk_at "go"
        refine ⟨u, [c.2], 32, rfl, .inl (SqL.of upd_same), by simp, fun H2 sm2 => ?_⟩
        have e : fAd (some c) = below 32 [c.2] := by simp only [fAd, h, Bool.true_and]
        rw [← e]
        exact q H2 (Same.trans (same_upd ht) (Same.trans sm1 (Same.trans (same_upd hu) sm2)))
      · have e : fAd (some c) = false := by simp only [fAd, h, Bool.false_and]
        rw [← e]
        exact q H1 (Same.trans (same_upd ht) sm1)
def sp__fits_root (K : PySem.W.Frag) : Sp := fun vs H Q _ => ∃ (v : V) (n ep : Int) (tr : Option (Int × Int)) (jr : List Int) (pl : List (Option Int)) (er bd : List Int), vs = [v] ∧ Dp K H v (dC (.root n ep tr jr pl er bd)) ∧ jr.length ≤ 1000 ∧ pl.length ≤ 1000 ∧ er.length ≤ 1000 ∧ bd.length ≤ 1000 ∧
  ∀ H', Same H H' → Q (.bl (fC (.root n ep tr jr pl er bd))) H'
set_option maxHeartbeats 20000000 in
theorem ok__fits_root (T : Txt w K mg a) : FnOk P w K mg base CX0 3 a.f__fits_root a.d__fits_root ["content"] (sp__fits_root K) := by
  refine T.F__fits_root.ok sc__fits_root (fun vs H Q E h => ?_) (fun cdv A outer s H vs Q E hr h => ?_)
  · obtain ⟨v, n, ep, tr, jr, pl, er, bd, rfl, hD, hj, hp, he, hb, q⟩ := h
    rfl
  · obtain ⟨v, n, ep, tr, jr, pl, er, bd, rfl, hD, hj, hp, he, hb, q⟩ := h
    refine ⟨_, (pss_cons (ps_asg (pv 0) (pg_tup rfl (pgs_cons (pg_name (i := 1) sc__fits_root.nd rfl (.inl rfl)) (pgs_cons (pg_name (i := 2) sc__fits_root.nd rfl (.inl rfl)) (pgs_cons (pg_name (i := 3) sc__fits_root.nd rfl (.inl rfl)) (pgs_cons (pg_name (i := 4) sc__fits_root.nd rfl (.inl rfl)) (pgs_cons (pg_name (i := 5) sc__fits_root.nd rfl (.inl rfl)) (pgs_cons (pg_name (i := 6) sc__fits_root.nd rfl (.inl rfl)) (pgs_cons (pg_name (i := 7) sc__fits_root.nd rfl (.inl rfl)) (pgs_cons (pg_name (i := 8) sc__fits_root.nd rfl (.inl rfl)) pgs_nil))))))))))
        (pss_cons (ps_if (pt_val (pe_callB (q_any (K := K) rfl) (by rfl) T.z_any (by decide +kernel) (pa_cons (pe_lc (own := [("entries", 10)]) (g := gName 10) (tt := tYes) rfl sc__fits_root.nd (q_pit (K := K) (pe_tup (pa_cons (pv 5) (pa_cons (pv 6) (pa_cons (pv 7) (pa_cons (pv 8) pa_nil)))))) (blkOk_by (own := [("entries", 10)]) (N := N__fits_root) (sc := defScope s__fits_root) (by decide +kernel)) (fun _ _ _ _ _ => pg_name (i := 10) sc__fits_root.nd rfl (Or.inl rfl)) (fun _ _ _ _ _ => pts_nil) (fun _ _ _ _ _ => (pe_cmpR op_gt (pe_callB (q_len (K := K)) (by rfl) T.z_len (by decide +kernel) (pa_cons (pv 10) pa_nil)) (pe_glob rfl T.c_MOST_ENTRIES.1 T.c_MOST_ENTRIES.2) (nomark _)))) pa_nil))) (pss_one (ps_ret pe_bl)) pss_nil)
        (pss_cons (ps_setLc (i := 9) (own := [("place", 11)]) (g := gName 11) rfl sc__fits_root.nd rfl rfl (sw_true rfl rfl rfl (by decide +kernel)) (q_pit (K := K) (pv 6)) (blkOk_by (own := [("place", 11)]) (N := N__fits_root) (sc := defScope s__fits_root) (by decide +kernel)) (fun _ _ _ _ _ => pg_name (i := 11) sc__fits_root.nd rfl (Or.inl rfl)) (fun _ _ _ _ _ => (pts_one (pt_cmpR o_notN (pv 11) pe_non (nomark _)))) (fun _ _ _ _ _ => (pv 11)))
        (pss_one (ps_ret (pe_and (pe_call (ok__are_below (K := K) T) (hr.mono (by decide)) (by rfl) T.g__are_below T.F__are_below.kp T.b__are_below .nil pass0 (pa_cons (pe_lst (pa_cons (pv 2) (pa_cons (pv 3) (q_star (K := K) (pv 7) pa_nil)))) (pa_cons (pe_glob rfl T.c_NUMBER_BOUND.1 T.c_NUMBER_BOUND.2) pa_nil))) (pe_and (pe_call (ok__fits_address (K := K) T) (hr.mono (by decide)) (by rfl) T.g__fits_address T.F__fits_address.kp T.b__fits_address .nil pass0 (pa_cons (pv 4) pa_nil)) (pe_one (pe_call (ok__are_below (K := K) T) (hr.mono (by decide)) (by rfl) T.g__are_below T.F__are_below.kp T.b__are_below .nil pass0 (pa_cons (pe_lst (q_star (K := K) (pv 5) (q_star (K := K) (pv 9) (q_star (K := K) (pv 8) pa_nil)))) (pa_cons (pe_glob rfl T.c_BLOCK_BOUND.1 T.c_BLOCK_BOUND.2) pa_nil))))))))))), ?_⟩
    refine i_st (σ' := [some (v), none, none, none, none, none, none, none, none, none, none, none]) rfl ?_
    obtain ⟨p, t, j, u, e, d, rfl, hs, htr, hJ, hP, hE, hB⟩ := c_root hD
    walk_at "go"
    refine i_kTup (sz (by simp)) fun w hw => ?_
    have smW : Same H (upd H w (.tup [.ref j, .ref u, .ref e, .ref d])) := same_upd hw
    have hW : SqT K (upd H w (.tup [.ref j, .ref u, .ref e, .ref d])) w [.ref j, .ref u, .ref e, .ref d] := SqT.of upd_same
    generalize upd H w (.tup [.ref j, .ref u, .ref e, .ref d]) = H1 at smW hW ⊢
    walk_at "go"
    have lens : ∀ (i : Nat) (x : V), ([.ref j, .ref u, .ref e, .ref d] : List V)[i]? = some x → ∃ (a' : Addr) (vs : List V), x = .ref a' ∧ SqT K H1 a' vs ∧ [jr.length, pl.length, er.length, bd.length][i]? = some vs.length := by
      intro i x hx
      match i, hx with
      | 0, hx => exact ⟨j, _, (Option.some.inj hx).symm, same_tup smW hJ, by rw [List.length_map]; rfl⟩
      | 1, hx => exact ⟨u, _, (Option.some.inj hx).symm, same_tup smW hP, by rw [List.length_map]; rfl⟩
      | 2, hx => exact ⟨e, _, (Option.some.inj hx).symm, same_tup smW hE, by rw [List.length_map]; rfl⟩
      | 3, hx => exact ⟨d, _, (Option.some.inj hx).symm, same_tup smW hB, by rw [List.length_map]; rfl⟩
      | i + 4, hx => simp at hx
    refine i_lcT [.ref j, .ref u, .ref e, .ref d] (fun D i H' => Same H1 H' ∧ H' D = some (.lst ((([jr.length, pl.length, er.length, bd.length].take i).map fun k => decide (48 < k)).map V.bl))) (fun D hD => ⟨same_upd hD, upd_same⟩) (fun D i H' _ _ h => same_tup h.1 hW) ?_ ?_
    · rintro D i x H' hD hx0 ⟨sm, hO⟩
      obtain ⟨a', vs, rfl, hv, hk⟩ := lens i x hx0
      have hv1 := same_tup sm hv
      walk_at "go"
      refine i_kLc3 hO (small1000 (by rw [List.length_map, List.length_map, List.length_take]; simp; omega)) ⟨same_wr hD sm, ?_⟩
      have e0 : decide (48 < (vs.length : Int)) = decide (48 < vs.length) := decide_eq_decide.mpr (by omega)
      rw [upd_same, tk_map hk, List.map_append, e0]; rfl
    rintro D H2 hD ⟨sm2, hO⟩
    walk_at "go"
    refine i_any (bs := [jr.length, pl.length, er.length, bd.length].map fun k => decide (48 < k)) (SqL.of hO) ?_
    have smA := Same.trans smW sm2
    walk_at "go"
    refine i_kIf (fun h => ?_) (fun h => ?_)
    · walk_at "go"
      have e : fC (.root n ep tr jr pl er bd) = false := by
        have h' : (decide (48 < jr.length) || (decide (48 < pl.length) || (decide (48 < er.length) || decide (48 < bd.length)))) = true := by
          simp only [List.map_cons, List.map_nil, List.any_cons, List.any_nil, id, Bool.or_false] at h
          exact h
        simp only [fC, h', Bool.not_true, Bool.false_and]
      rw [← e]
      exact q H2 smA
    have hF : (decide (48 < jr.length) || (decide (48 < pl.length) || (decide (48 < er.length) || decide (48 < bd.length)))) = false := by
      simp only [List.map_cons, List.map_nil, List.any_cons, List.any_nil, id, Bool.or_false] at h
      exact h
    have hP2 := same_tup smA hP
    walk_at "go"
    refine i_lcT (pl.map vPl) (fun D i H' => Same H2 H' ∧ H' D = some (.lst ((named (pl.take i)).map V.int))) (fun D hD => ⟨same_upd hD, upd_same⟩) (fun D i H' _ _ h => same_tup h.1 hP2) ?_ ?_
    · rintro D i x H' hD hx0 ⟨sm, hO⟩
      obtain ⟨c', hz, rfl⟩ := map_at hx0
      have hi := lt_of_get hz
      have hle : (named (pl.take i)).length ≤ i := Nat.le_trans (List.length_filterMap_le _ _) (by rw [List.length_take]; omega)
      have tk : named (pl.take (i + 1)) = named (pl.take i) ++ named [c'] := by unfold named; rw [List.take_add_one, hz, List.filterMap_append]; rfl
      walk_at "go"
      cases c' with
      | none =>
        refine i_kLc2f (by simp [vPl]) ⟨sm, ?_⟩
        rw [tk]; simpa [named] using hO
      | some z =>
        refine i_kLc2t (by simp [vPl]) ?_
        walk_at "go"
        refine i_kLc3 hO (bigl (by rw [List.length_map]; omega)) ⟨same_wr hD sm, ?_⟩
        rw [upd_same, tk, List.map_append]; rfl
    rintro D3 H3 hD3 ⟨sm3, hN⟩
    rw [List.length_map, List.take_length] at hN
    have smB := Same.trans smA sm3
    have hE3 := same_tup smB hE
    walk_at "go"
    refine i_kLst (big (by simp; omega)) fun t1 ht1 => ?_
    walk_at "go"
    refine ⟨t1, n :: ep :: er, 4294967296, rfl, .inl (SqL.of (by rw [upd_same]; simp)), by simp; omega, fun H4 sm4 => ?_⟩
    have smC := Same.trans smB (Same.trans (same_upd ht1) sm4)
    refine i_kAndV (fun h1 => ?_) (fun h1 => ?_)
    · walk_at "go"
      refine ⟨t, tr, rfl, dp_same smC _ _ htr, fun H5 sm5 => ?_⟩
      have smD := Same.trans smC sm5
      refine i_kAndV (fun h2 => ?_) (fun h2 => ?_)
      · have hJ5 := same_tup smD hJ
        have hB5 := same_tup smD hB
        have hN5 : SqL K H5 D3 ((named pl).map V.int) := sm5.seq (sm4.seq (sqL_new ht1 (SqL.of hN)))
        have hln : (named pl).length ≤ pl.length := List.length_filterMap_le _ _
        walk_at "go"
        refine i_kLst (big (by simp; omega)) fun t2 ht2 => ?_
        walk_at "go"
        refine ⟨t2, jr ++ (named pl ++ bd), 48, rfl, .inl (SqL.of (by rw [upd_same]; simp)), by simp; omega, fun H6 sm6 => ?_⟩
        have e : fC (.root n ep tr jr pl er bd) = below 48 (jr ++ (named pl ++ bd)) := by simp only [fC, hF, h1, h2, Bool.not_false, Bool.true_and]
        rw [← e]
        exact q H6 (Same.trans smD (Same.trans (same_upd ht2) sm6))
      · have e : fC (.root n ep tr jr pl er bd) = false := by simp only [fC, h2, Bool.false_and, Bool.and_false]
        rw [← e]
        exact q H5 smD
    · have e : fC (.root n ep tr jr pl er bd) = false := by simp only [fC, h1, Bool.false_and, Bool.and_false]
      rw [← e]
      exact q H4 smC
def sp__fits_value (K : PySem.W.Frag) : Sp := fun vs H Q _ => ∃ (v : V) (c : Option (List Int)), vs = [v] ∧ Dp K H v (dVal c) ∧ (∀ l, c = some l → l.length ≤ 1000) ∧ ∀ H', Same H H' → Q (.bl (fVal c)) H'
set_option maxHeartbeats 20000000 in
theorem ok__fits_value (T : Txt w K mg a) : FnOk P w K mg base CX0 2 a.f__fits_value a.d__fits_value ["value"] (sp__fits_value K) := by
  refine T.F__fits_value.ok sc__fits_value (fun vs H Q E h => ?_) (fun cdv A outer s H vs Q E hr h => ?_)
  · obtain ⟨v, c, rfl, hD, hl, q⟩ := h
    rfl
  · obtain ⟨v, c, rfl, hD, hl, q⟩ := h
    refine ⟨_, (pss_one (ps_ret (pe_or (pe_cmpR o_isN (pv 0) pe_non (nomark _)) (pe_one (pe_and (pe_cmpR op_le (pe_callB (q_len (K := K)) (by rfl) T.z_len (by decide +kernel) (pa_cons (pv 0) pa_nil)) (pe_glob rfl T.c_MOST_OCTETS.1 T.c_MOST_OCTETS.2) (nomark _)) (pe_one (pe_call (ok__are_below (K := K) T) (hr.mono (by decide)) (by rfl) T.g__are_below T.F__are_below.kp T.b__are_below .nil pass0 (pa_cons (pv 0) (pa_cons (pe_glob rfl T.c_OCTET_BOUND.1 T.c_OCTET_BOUND.2) pa_nil))))))))), ?_⟩
    refine i_st (σ' := [some (v)]) rfl ?_
    cases c with
    | none =>
      obtain rfl := dp_none hD
      walk_at "go"
      refine i_kOrV (fun _ => ?_) (fun h => by simp at h)
      exact q H (Same.refl H)
    | some l =>
      obtain ⟨a', rfl, hT⟩ := dp_ti hD
      have hl' := hl l rfl
      walk_at "go"
      refine i_kOrV (fun h => by simp at h) (fun _ => ?_)
      walk_at "go"
      rw [List.length_map]
      refine i_kAndV (fun h => ?_) (fun h => ?_)
      · walk_at "go"
        refine ⟨a', l, 256, rfl, .inr hT, by omega, fun H1 sm1 => ?_⟩
        have e : fVal (some l) = below 256 l := by
          have : l.length ≤ 448 := by have := of_decide_eq_true h; omega
          simp only [fVal, decide_eq_true this, Bool.true_and]
        rw [← e]
        exact q H1 sm1
      · have e : fVal (some l) = false := by
          have : ¬ l.length ≤ 448 := by have := of_decide_eq_false h; omega
          simp only [fVal, decide_eq_false this, Bool.false_and]
        rw [← e]
        exact q H (Same.refl H)
def sp__fits_item (K : PySem.W.Frag) : Sp := fun vs H Q _ => ∃ (v : V) (ep ix key : Int) (la : Bool) (val : Option (List Int)), vs = [v] ∧ Dp K H v (dC (.item ep ix la key val)) ∧ (∀ l, val = some l → l.length ≤ 1000) ∧ ∀ H', Same H H' → Q (.bl (fC (.item ep ix la key val))) H'
set_option maxHeartbeats 20000000 in
theorem ok__fits_item (T : Txt w K mg a) : FnOk P w K mg base CX0 3 a.f__fits_item a.d__fits_item ["content"] (sp__fits_item K) := by
  refine T.F__fits_item.ok sc__fits_item (fun vs H Q E h => ?_) (fun cdv A outer s H vs Q E hr h => ?_)
  · obtain ⟨v, ep, ix, key, la, val, rfl, hD, hl, q⟩ := h
    rfl
  · obtain ⟨v, ep, ix, key, la, val, rfl, hD, hl, q⟩ := h
    refine ⟨_, (pss_cons (ps_asg (pv 0) (pg_tup rfl (pgs_cons (pg_name (i := 1) sc__fits_item.nd rfl (.inl rfl)) (pgs_cons (pg_name (i := 2) sc__fits_item.nd rfl (.inl rfl)) (pgs_cons (pg_name (i := 3) sc__fits_item.nd rfl (.inl rfl)) (pgs_cons (pg_name (i := 1) sc__fits_item.nd rfl (.inl rfl)) (pgs_cons (pg_name (i := 4) sc__fits_item.nd rfl (.inl rfl)) (pgs_cons (pg_name (i := 5) sc__fits_item.nd rfl (.inl rfl)) pgs_nil))))))))
        (pss_one (ps_ret (pe_and (pe_call (ok__are_below (K := K) T) (hr.mono (by decide)) (by rfl) T.g__are_below T.F__are_below.kp T.b__are_below .nil pass0 (pa_cons (pe_lst (pa_cons (pv 2) (pa_cons (pv 3) (pa_cons (pv 4) pa_nil)))) (pa_cons (pe_glob rfl T.c_NUMBER_BOUND.1 T.c_NUMBER_BOUND.2) pa_nil))) (pe_one (pe_call (ok__fits_value (K := K) T) (hr.mono (by decide)) (by rfl) T.g__fits_value T.F__fits_value.kp T.b__fits_value .nil pass0 (pa_cons (pv 5) pa_nil))))))), ?_⟩
    refine i_st (σ' := [some (v), none, none, none, none, none]) rfl ?_
    obtain ⟨p, u, rfl, hs, hu⟩ := c_item hD
    walk_at "go"
    refine i_kLst (sz (by simp)) fun t ht => ?_
    walk_at "go"
    refine ⟨t, [ep, ix, key], 4294967296, rfl, .inl (SqL.of upd_same), by simp, fun H1 sm1 => ?_⟩
    have smA := Same.trans (same_upd ht) sm1
    refine i_kAndV (fun h => ?_) (fun h => ?_)
    · walk_at "go"
      refine ⟨u, val, rfl, dp_same smA _ _ hu, hl, fun H2 sm2 => ?_⟩
      have e : fC (.item ep ix la key val) = fVal val := by simp only [fC, h, Bool.true_and]
      rw [← e]
      exact q H2 (Same.trans smA sm2)
    · have e : fC (.item ep ix la key val) = false := by simp only [fC, h, Bool.false_and]
      rw [← e]
      exact q H1 smA
def sp__fits_node (K : PySem.W.Frag) : Sp := fun vs H Q _ => ∃ (v : V) (lv : Int) (ch : List (Option (Int × Int))), vs = [v] ∧ Dp K H v (dC (.node lv ch)) ∧ ch.length ≤ 1000 ∧ ∀ H', Same H H' → Q (.bl (fC (.node lv ch))) H'
set_option maxHeartbeats 20000000 in
theorem ok__fits_node (T : Txt w K mg a) : FnOk P w K mg base CX0 3 a.f__fits_node a.d__fits_node ["content"] (sp__fits_node K) := by
  refine T.F__fits_node.ok sc__fits_node (fun vs H Q E h => ?_) (fun cdv A outer s H vs Q E hr h => ?_)
  · obtain ⟨v, lv, ch, rfl, hD, hl, q⟩ := h
    rfl
  · obtain ⟨v, lv, ch, rfl, hD, hl, q⟩ := h
    refine ⟨_, (pss_cons (ps_asg (pv 0) (pg_tup rfl (pgs_cons (pg_name (i := 1) sc__fits_node.nd rfl (.inl rfl)) (pgs_cons (pg_name (i := 2) sc__fits_node.nd rfl (.inl rfl)) (pgs_cons (pg_name (i := 3) sc__fits_node.nd rfl (.inl rfl)) pgs_nil)))))
        (pss_one (ps_ret (pe_and (pe_call (ok__are_below (K := K) T) (hr.mono (by decide)) (by rfl) T.g__are_below T.F__are_below.kp T.b__are_below .nil pass0 (pa_cons (pe_lst (pa_cons (pv 2) pa_nil)) (pa_cons (pe_glob rfl T.c_LEVEL_BOUND.1 T.c_LEVEL_BOUND.2) pa_nil))) (pe_and (pe_cmpR op_eq (pe_callB (q_len (K := K)) (by rfl) T.z_len (by decide +kernel) (pa_cons (pv 3) pa_nil)) (pe_glob rfl T.c_NODE_CHILDREN.1 T.c_NODE_CHILDREN.2) (nomark _)) (pe_one (pe_callB (q_all (K := K) rfl) (by rfl) T.z_all (by decide +kernel) (pa_cons (pe_lc (own := [("child", 4)]) (g := gName 4) (tt := tYes) rfl sc__fits_node.nd (q_pit (K := K) (pv 3)) (blkOk_by (own := [("child", 4)]) (N := N__fits_node) (sc := defScope s__fits_node) (by decide +kernel)) (fun _ _ _ _ _ => pg_name (i := 4) sc__fits_node.nd rfl (Or.inl rfl)) (fun _ _ _ _ _ => pts_nil) (fun _ _ _ _ _ => (pe_call (ok__fits_address (K := K) T) (hr.mono (by decide)) (by rfl) T.g__fits_address T.F__fits_address.kp T.b__fits_address .nil pass0 (pa_cons (pv 4) pa_nil)))) pa_nil)))))))), ?_⟩
    refine i_st (σ' := [some (v), none, none, none, none]) rfl ?_
    obtain ⟨p, c, xs, rfl, hs, hc, hd⟩ := c_node hD
    have hx := dpAll_len hd
    rw [List.length_map] at hx
    walk_at "go"
    refine i_kLst (sz (by simp)) fun t ht => ?_
    walk_at "go"
    refine ⟨t, [lv], 256, rfl, .inl (SqL.of upd_same), by simp, fun H1 sm1 => ?_⟩
    have smA := Same.trans (same_upd ht) sm1
    have hc1 := same_tup smA hc
    have hd1 := dpAll_same smA _ _ hd
    refine i_kAndV (fun h => ?_) (fun h => ?_)
    · walk_at "go"
      rw [hx]
      refine i_kAndV (fun h2 => ?_) (fun h2 => ?_)
      · have h2' : ch.length = 32 := by have := of_decide_eq_true h2; omega
        walk_at "go"
        refine i_lcT xs (fun D i H' => Same H1 H' ∧ H' D = some (.lst (((ch.take i).map fAd).map V.bl))) (fun D hD => ⟨same_upd hD, upd_same⟩) (fun D i H' _ _ h => same_tup h.1 hc1) ?_ ?_
        · rintro D i x H' hD hx0 ⟨sm, hO⟩
          obtain ⟨d, e1, hx1⟩ := dpAll_get hd1 hx0
          obtain ⟨c', hz, rfl⟩ := get_map e1
          walk_at "go"
          refine ⟨x, c', rfl, dp_same sm _ _ hx1, fun H3 sm3 => ?_⟩
          walk_at "go"
          refine i_kLc3 (sm3 _ _ hO) (bigl (by rw [List.length_map, List.length_map, List.length_take]; omega)) ⟨same_wr hD (Same.trans sm sm3), ?_⟩
          rw [upd_same, tk_map hz, List.map_append]; rfl
        · rintro D H2 hD ⟨sm, hO⟩
          rw [hx, List.take_length] at hO
          walk_at "go"
          refine i_all (SqL.of hO) ?_
          have e : fC (.node lv ch) = (ch.map fAd).all id := by simp only [fC, h, h2', decide_true, Bool.true_and, List.all_map]; rfl
          rw [← e]
          exact q H2 (Same.trans smA sm)
      · have e : fC (.node lv ch) = false := by
          have : ¬ ch.length = 32 := by have := of_decide_eq_false h2; omega
          simp only [fC, decide_eq_false this, Bool.false_and, Bool.and_false]
        rw [← e]
        exact q H1 smA
    · have e : fC (.node lv ch) = false := by simp only [fC, h, Bool.false_and]
      rw [← e]
      exact q H1 smA
def sp_fits_page (K : PySem.W.Frag) : Sp := fun vs H Q _ => ∃ (v : V) (c : Cont), vs = [v] ∧ Dp K H v (dC c) ∧ szC c ∧ ∀ H', Same H H' → Q (.bl (fC c)) H'
set_option maxHeartbeats 20000000 in
theorem ok_fits_page (T : Txt w K mg a) : FnOk P w K mg base CX0 4 a.f_fits_page a.d_fits_page ["content"] (sp_fits_page K) := by
  refine T.F_fits_page.ok sc_fits_page (fun vs H Q E h => ?_) (fun cdv A outer s H vs Q E hr h => ?_)
  · obtain ⟨v, c, rfl, hD, hz, q⟩ := h
    rfl
  · obtain ⟨v, c, rfl, hD, hz, q⟩ := h
    refine ⟨_, (pss_cons (ps_set (i := 1) sc_fits_page.nd rfl (.inl rfl) (pe_ix (q_ixt (K := K)) (pv 0) pe_int (fun _ _ => rfl)))
        (pss_cons (ps_if (pt_cmpR op_eq (pv 1) pe_str (nomark _)) (pss_one (ps_ret (pe_call (ok__fits_root (K := K) T) (hr.mono (by decide)) (by rfl) T.g__fits_root T.F__fits_root.kp T.b__fits_root .nil pass0 (pa_cons (pv 0) pa_nil)))) pss_nil)
        (pss_cons (ps_if (pt_cmpR op_eq (pv 1) pe_str (nomark _)) (pss_one (ps_ret (pe_call (ok__fits_item (K := K) T) (hr.mono (by decide)) (by rfl) T.g__fits_item T.F__fits_item.kp T.b__fits_item .nil pass0 (pa_cons (pv 0) pa_nil)))) pss_nil)
        (pss_cons (ps_if (pt_cmpR op_eq (pv 1) pe_str (nomark _)) (pss_one (ps_ret (pe_call (ok__fits_node (K := K) T) (hr.mono (by decide)) (by rfl) T.g__fits_node T.F__fits_node.kp T.b__fits_node .nil pass0 (pa_cons (pv 0) pa_nil)))) pss_nil)
        (pss_one (ps_ret (pe_call (ok__are_below (K := K) T) (hr.mono (by decide)) (by rfl) T.g__are_below T.F__are_below.kp T.b__are_below .nil pass0 (pa_cons (pe_slice (q_slt (K := K)) (pv 0) (po_some pe_int) po_none) (pa_cons (pe_glob rfl T.c_NUMBER_BOUND.1 T.c_NUMBER_BOUND.2) pa_nil))))))))), ?_⟩
    refine i_st (σ' := [some (v), none]) rfl ?_
    cases c with
    | mark n =>
      obtain ⟨p, rfl, hs⟩ := c_mark hD
      walk_at "go"
      refine i_slTF 1 hs (by decide) (by simp) fun t ht => ?_
      walk_at "go"
      refine ⟨t, [n], 4294967296, rfl, .inr (SqT.of upd_same), by simp, fun H1 sm1 => ?_⟩
      exact q H1 (Same.trans (same_upd ht) sm1)
    | node lv ch =>
      obtain ⟨p, c', xs, rfl, hs, _, _⟩ := c_node hD
      walk_at "go"
      exact ⟨.ref p, lv, ch, rfl, hD, hz, fun H1 sm1 => q H1 sm1⟩
    | item ep ix la key val =>
      obtain ⟨p, u, rfl, hs, _⟩ := c_item hD
      walk_at "go"
      exact ⟨.ref p, ep, ix, key, la, val, rfl, hD, hz, fun H1 sm1 => q H1 sm1⟩
    | root n ep tr jr pl er bd =>
      obtain ⟨p, t, j, u, e, d, rfl, hs, _⟩ := c_root hD
      walk_at "go"
      exact ⟨.ref p, n, ep, tr, jr, pl, er, bd, rfl, hD, hz.1, hz.2.1, hz.2.2.1, hz.2.2.2, fun H1 sm1 => q H1 sm1⟩
def sp__address_row (K : PySem.W.Frag) : Sp := fun vs H Q _ => ∃ (v : V) (c : Option (Int × Int)), vs = [v] ∧ Dp K H v (dAd c) ∧ ∀ H' p, Same H H' → H p = none → H' p = some (.lst ((bAd c).map V.int)) → Q (.ref p) H'
set_option maxHeartbeats 20000000 in
theorem ok__address_row (T : Txt w K mg a) : FnOk P w K mg base CX0 1 a.f__address_row a.d__address_row ["address"] (sp__address_row K) := by
  refine T.F__address_row.ok sc__address_row (fun vs H Q E h => ?_) (fun cdv A outer s H vs Q E hr h => ?_)
  · obtain ⟨v, c, rfl, hD, q⟩ := h
    rfl
  · obtain ⟨v, c, rfl, hD, q⟩ := h
    refine ⟨_, (pss_one (ps_ret (pe_callTy (q_list (K := K)) (by rfl) T.z_list (by decide +kernel) (pa_cons (pe_ifExp (pt_cmpR o_isN (pv 0) pe_non (nomark _)) (pe_glob rfl T.c_NO_ADDRESS.1 T.c_NO_ADDRESS.2) (pv 0)) pa_nil)))), ?_⟩
    refine i_st (σ' := [some (v)]) rfl ?_
    cases c with
    | none =>
      obtain rfl := dp_none hD
      walk_at "go"
      refine i_listT (T.t_NO_ADDRESS H) fun l hl => ?_
      exact q _ l (same_upd hl) hl upd_same
    | some c =>
      obtain ⟨a', rfl, hT⟩ := dp_ad_some hD
      walk_at "go"
      refine i_listT hT fun l hl => ?_
      exact q _ l (same_upd hl) hl upd_same
def sp__root_body (K : PySem.W.Frag) : Sp := fun vs H Q _ => ∃ (v : V) (n ep : Int) (tr : Option (Int × Int)) (jr : List Int) (pl : List (Option Int)) (er bd : List Int), vs = [v] ∧ Dp K H v (dC (.root n ep tr jr pl er bd)) ∧ szC (.root n ep tr jr pl er bd) ∧
  ∀ H' p, Same H H' → H p = none → H' p = some (.lst ((body (.root n ep tr jr pl er bd)).map V.int)) → Q (.ref p) H'
set_option maxHeartbeats 20000000 in
theorem ok__root_body (T : Txt w K mg a) : FnOk P w K mg base CX0 2 a.f__root_body a.d__root_body ["content"] (sp__root_body K) := by
  refine T.F__root_body.ok sc__root_body (fun vs H Q E h => ?_) (fun cdv A outer s H vs Q E hr h => ?_)
  · obtain ⟨v, n, ep, tr, jr, pl, er, bd, rfl, hD, hz, q⟩ := h
    rfl
  · obtain ⟨v, n, ep, tr, jr, pl, er, bd, rfl, hD, hz, q⟩ := h
    refine ⟨_, (pss_cons (ps_asg (pv 0) (pg_tup rfl (pgs_cons (pg_name (i := 1) sc__root_body.nd rfl (.inl rfl)) (pgs_cons (pg_name (i := 2) sc__root_body.nd rfl (.inl rfl)) (pgs_cons (pg_name (i := 3) sc__root_body.nd rfl (.inl rfl)) (pgs_cons (pg_name (i := 4) sc__root_body.nd rfl (.inl rfl)) (pgs_cons (pg_name (i := 5) sc__root_body.nd rfl (.inl rfl)) (pgs_cons (pg_name (i := 6) sc__root_body.nd rfl (.inl rfl)) (pgs_cons (pg_name (i := 7) sc__root_body.nd rfl (.inl rfl)) (pgs_cons (pg_name (i := 8) sc__root_body.nd rfl (.inl rfl)) pgs_nil))))))))))
        (pss_cons (ps_setLc (i := 9) (own := [("place", 12)]) (g := gName 12) (tt := tYes) rfl sc__root_body.nd rfl rfl (sw_true rfl rfl rfl (by decide +kernel)) (q_pit (K := K) (pv 6)) (blkOk_by (own := [("place", 12)]) (N := N__root_body) (sc := defScope s__root_body) (by decide +kernel)) (fun _ _ _ _ _ => pg_name (i := 12) sc__root_body.nd rfl (Or.inl rfl)) (fun _ _ _ _ _ => pts_nil) (fun _ _ _ _ _ => (pe_ifExp (pt_cmpR o_isN (pv 12) pe_non (nomark _)) (pe_glob rfl T.c_NO_BLOCK.1 T.c_NO_BLOCK.2) (pv 12))))
        (pss_cons (ps_set (i := 10) sc__root_body.nd rfl (.inl rfl) (pe_op op_cat (pe_op op_cat (pe_call (ok_number_row (K := K) T) (hr.mono (by decide)) (by rfl) T.g_number_row T.F_number_row.kp T.b_number_row .nil pass0 (pa_cons (pv 2) (pa_cons pe_int pa_nil))) (pe_call (ok_number_row (K := K) T) (hr.mono (by decide)) (by rfl) T.g_number_row T.F_number_row.kp T.b_number_row .nil pass0 (pa_cons (pv 3) (pa_cons pe_int pa_nil)))) (pe_call (ok__address_row (K := K) T) (hr.mono (by decide)) (by rfl) T.g__address_row T.F__address_row.kp T.b__address_row .nil pass0 (pa_cons (pv 4) pa_nil))))
        (pss_cons (ps_set (i := 10) sc__root_body.nd rfl (.inl rfl) (pe_op op_cat (pv 10) (pe_lst (pa_cons (pe_callB (q_len (K := K)) (by rfl) T.z_len (by decide +kernel) (pa_cons (pv 5) pa_nil)) (q_star (K := K) (pv 5) (pa_cons (pe_callB (q_len (K := K)) (by rfl) T.z_len (by decide +kernel) (pa_cons (pv 9) pa_nil)) (q_star (K := K) (pv 9) (pa_cons (pe_callB (q_len (K := K)) (by rfl) T.z_len (by decide +kernel) (pa_cons (pv 7) pa_nil)) pa_nil))))))))
        (pss_cons (ps_for PassesOwn.never rfl (q_pit (K := K) (pv 7)) (pg_name (i := 11) sc__root_body.nd rfl (.inl rfl)) (pss_one (ps_expr (pe_bm PySem.F.plainAttrs_list PySem.F.slot_list_extend PySem.F.type_list_extend mt_extend (pv 10) (pa_cons (pe_call (ok_number_row (K := K) T) (hr.mono (by decide)) (by rfl) T.g_number_row T.F_number_row.kp T.b_number_row .nil pass0 (pa_cons (pv 11) (pa_cons pe_int pa_nil))) pa_nil)))))
        (pss_one (ps_ret (pe_op op_cat (pv 10) (pe_lst (pa_cons (pe_callB (q_len (K := K)) (by rfl) T.z_len (by decide +kernel) (pa_cons (pv 8) pa_nil)) (q_star (K := K) (pv 8) pa_nil))))))))))), ?_⟩
    refine i_st (σ' := [some (v), none, none, none, none, none, none, none, none, none, none, none, none]) rfl ?_
    obtain ⟨hz1, hz2, hz3, hz4⟩ := hz
    obtain ⟨p, t, j, u, e, d, rfl, hs, htr, hJ, hP, hE, hB⟩ := c_root hD
    walk_at "go"
    refine i_lcT (pl.map vPl) (fun D i H' => Same H H' ∧ H' D = some (.lst (((pl.take i).map bPl).map V.int))) (fun D hD => ⟨same_upd hD, upd_same⟩) (fun D i H' _ _ h => same_tup h.1 hP) ?_ ?_
    · rintro D i x H' hD hx0 ⟨sm, hO⟩
      obtain ⟨c', hz', rfl⟩ := map_at hx0
      have hi := lt_of_get hz'
      cases c' with
      | none =>
        walk_at "go"
        refine i_kLc3 hO (bigl (by rw [List.length_map, List.length_map, List.length_take]; omega)) ⟨same_wr hD sm, ?_⟩
        rw [upd_same, tk_map hz', List.map_append]; rfl
      | some z =>
        walk_at "go"
        refine i_kLc3 hO (bigl (by rw [List.length_map, List.length_map, List.length_take]; omega)) ⟨same_wr hD sm, ?_⟩
        rw [upd_same, tk_map hz', List.map_append]; rfl
    rintro D H1 fD ⟨sm1, hN⟩
    rw [List.length_map, List.take_length] at hN
    walk_at "go"
    refine ⟨n, 4, rfl, by decide, by decide, fun H2 p2 sm2 n2 h2 => ?_⟩
    walk_at "go"
    refine ⟨ep, 4, rfl, by decide, by decide, fun H3 p3 sm3 n3 h3 => ?_⟩
    walk_at "go"
    refine a_cat (sm3 _ _ h2) h3 (by simp [rowOf_length]) fun o4 H4 sm4 n4 h4 => ?_
    have sm04 := Same.trans (Same.trans sm1 sm2) (Same.trans sm3 sm4)
    walk_at "go"
    refine ⟨t, tr, rfl, dp_same sm04 _ _ htr, fun H5 p5 sm5 n5 h5 => ?_⟩
    walk_at "go"
    refine a_cat (sm5 _ _ h4) h5 (by simp [rowOf_length, bAd_len]) fun o6 H6 sm6 n6 h6 => ?_
    have sm06 := Same.trans sm04 (Same.trans sm5 sm6)
    have sm16 := Same.trans (Same.trans sm2 (Same.trans sm3 sm4)) (Same.trans sm5 sm6)
    have hJ6 := same_tup sm06 hJ
    have hP6 := same_tup sm06 hP
    have hE6 := same_tup sm06 hE
    have hN6 : SqL K H6 D ((pl.map bPl).map V.int) := SqL.of (sm16 _ _ hN)
    walk_at "go"
    refine a_lstI (l := [(jr.length : Int)] ++ jr ++ [(pl.length : Int)] ++ pl.map bPl ++ [(er.length : Int)]) (by simp) (by simp; omega) fun o7 H7 sm7 n7 h7 => ?_
    walk_at "go"
    refine a_cat (sm7 _ _ h6) h7 (by simp [rowOf_length, bAd_len]; omega) fun o8 H8 sm8 n8 h8 => ?_
    have sm08 := Same.trans sm06 (Same.trans sm7 sm8)
    have fo : H o8 = none := Same.free (Same.trans sm06 sm7) n8
    have hE8 := same_tup sm08 hE
    walk_at "go"
    refine i_forT (er.map V.int) (fun i σ' H' => ∃ y11, σ' = [some (.ref p), some (.str "root"), some (.int n), some (.int ep), some t, some (.ref j), some (.ref u), some (.ref e), some (.ref d), some (.ref D), some (.ref o8), y11, none] ∧ Same H H' ∧
      H' o8 = some (.lst ((rowOf 4 n ++ rowOf 4 ep ++ bAd tr ++ ([(jr.length : Int)] ++ jr ++ [(pl.length : Int)] ++ pl.map bPl ++ [(er.length : Int)]) ++ (er.take i).flatMap (rowOf 4)).map V.int))) ⟨none, rfl, sm08, by rw [h8]; simp⟩ ?_ ?_ ?_
    · rintro i σ' H' _ ⟨_, _, sm, _⟩
      exact same_tup sm hE
    · rintro i x σ' H' hx0 ⟨y11, rfl, sm, hO⟩
      obtain ⟨z, hz', rfl⟩ := map_at hx0
      have hi := lt_of_get hz'
      walk_at "go"
      refine ⟨z, 4, rfl, by decide, by decide, fun H9 p9 sm9 n9 h9 => ?_⟩
      walk_at "go"
      have hfl : ((er.take i).flatMap (rowOf 4)).length ≤ 4000 := by rw [flat_len (rowOf 4) 4 (rowOf_length 4), List.length_take]; omega
      refine a_extend (sm9 _ _ hO) h9 (by simp only [List.length_append, List.length_map, rowOf_length, bAd_len, List.length_cons, List.length_nil]; omega) fun H10 k10 h10 => ?_
      walk_at "go"
      refine ⟨_, rfl, same_mut fo (Same.trans sm sm9) k10, ?_⟩
      rw [h10, tk_bind hz']; simp
    rintro σ' H9 ⟨y11, rfl, sm9, h9⟩
    rw [List.length_map, List.take_length] at h9
    have hB9 := same_tup sm9 hB
    walk_at "go"
    refine a_lstI (l := [(bd.length : Int)] ++ bd) (by simp) (by simp; omega) fun o10 H10 sm10 n10 h10 => ?_
    walk_at "go"
    have hfl : (er.flatMap (rowOf 4)).length ≤ 4000 := by rw [flat_len (rowOf 4) 4 (rowOf_length 4)]; omega
    refine a_cat (sm10 _ _ h9) h10 (by simp only [List.length_append, List.length_map, rowOf_length, bAd_len, List.length_cons, List.length_nil]; omega) fun o11 H11 sm11 n11 h11 => ?_
    exact q _ o11 (Same.trans sm9 (Same.trans sm10 sm11)) (Same.free (Same.trans sm9 sm10) n11) h11
def sp__item_body (K : PySem.W.Frag) : Sp := fun vs H Q _ => ∃ (v : V) (ep ix key : Int) (la : Bool) (val : Option (List Int)), vs = [v] ∧ Dp K H v (dC (.item ep ix la key val)) ∧ szC (.item ep ix la key val) ∧
  ∀ H' p, Same H H' → H p = none → H' p = some (.lst ((body (.item ep ix la key val)).map V.int)) → Q (.ref p) H'
set_option maxHeartbeats 20000000 in
theorem ok__item_body (T : Txt w K mg a) : FnOk P w K mg base CX0 2 a.f__item_body a.d__item_body ["content"] (sp__item_body K) := by
  refine T.F__item_body.ok sc__item_body (fun vs H Q E h => ?_) (fun cdv A outer s H vs Q E hr h => ?_)
  · obtain ⟨v, ep, ix, key, la, val, rfl, hD, hz, q⟩ := h
    rfl
  · obtain ⟨v, ep, ix, key, la, val, rfl, hD, hz, q⟩ := h
    refine ⟨_, (pss_cons (ps_asg (pv 0) (pg_tup rfl (pgs_cons (pg_name (i := 1) sc__item_body.nd rfl (.inl rfl)) (pgs_cons (pg_name (i := 2) sc__item_body.nd rfl (.inl rfl)) (pgs_cons (pg_name (i := 3) sc__item_body.nd rfl (.inl rfl)) (pgs_cons (pg_name (i := 4) sc__item_body.nd rfl (.inl rfl)) (pgs_cons (pg_name (i := 5) sc__item_body.nd rfl (.inl rfl)) (pgs_cons (pg_name (i := 6) sc__item_body.nd rfl (.inl rfl)) pgs_nil))))))))
        (pss_cons (ps_set (i := 7) sc__item_body.nd rfl (.inl rfl) (pe_op op_cat (pe_call (ok_number_row (K := K) T) (hr.mono (by decide)) (by rfl) T.g_number_row T.F_number_row.kp T.b_number_row .nil pass0 (pa_cons (pv 2) (pa_cons pe_int pa_nil))) (pe_call (ok_number_row (K := K) T) (hr.mono (by decide)) (by rfl) T.g_number_row T.F_number_row.kp T.b_number_row .nil pass0 (pa_cons (pv 3) (pa_cons pe_int pa_nil)))))
        (pss_cons (ps_expr (pe_bm PySem.F.plainAttrs_list PySem.F.slot_list_append PySem.F.type_list_append mt_append (pv 7) (pa_cons (pe_ifExp (pt_val (pv 4)) pe_int pe_int) pa_nil)))
        (pss_cons (ps_expr (pe_bm PySem.F.plainAttrs_list PySem.F.slot_list_extend PySem.F.type_list_extend mt_extend (pv 7) (pa_cons (pe_call (ok_number_row (K := K) T) (hr.mono (by decide)) (by rfl) T.g_number_row T.F_number_row.kp T.b_number_row .nil pass0 (pa_cons (pv 5) (pa_cons pe_int pa_nil))) pa_nil)))
        (pss_cons (ps_if (pt_cmpR o_isN (pv 6) pe_non (nomark _)) (pss_one (ps_ret (pe_op op_cat (pv 7) (pe_lst (pa_cons pe_int pa_nil))))) pss_nil)
        (pss_one (ps_ret (pe_op op_cat (pe_op op_cat (pe_op op_cat (pv 7) (pe_lst (pa_cons pe_int pa_nil))) (pe_call (ok_number_row (K := K) T) (hr.mono (by decide)) (by rfl) T.g_number_row T.F_number_row.kp T.b_number_row .nil pass0 (pa_cons (pe_callB (q_len (K := K)) (by rfl) T.z_len (by decide +kernel) (pa_cons (pv 6) pa_nil)) (pa_cons pe_int pa_nil)))) (pe_callTy (q_list (K := K)) (by rfl) T.z_list (by decide +kernel) (pa_cons (pv 6) pa_nil)))))))))), ?_⟩
    refine i_st (σ' := [some (v), none, none, none, none, none, none, none]) rfl ?_
    obtain ⟨p, u, rfl, hs, hu⟩ := c_item hD
    cases la
    all_goals
      walk_at "go"
      refine ⟨ep, 4, rfl, by decide, by decide, fun H1 p1 sm1 n1 h1 => ?_⟩
      walk_at "go"
      refine ⟨ix, 4, rfl, by decide, by decide, fun H2 p2 sm2 n2 h2 => ?_⟩
      walk_at "go"
      refine a_cat (sm2 _ _ h1) h2 (by simp [rowOf_length]) fun o H3 sm3 n3 h3 => ?_
      have fo : H o = none := Same.free (Same.trans sm1 sm2) n3
      have sm03 := Same.trans (Same.trans sm1 sm2) sm3
      walk_at "go"
      refine a_append h3 (by simp [rowOf_length]) fun H4 k4 h4 => ?_
      have sm04 := same_mut fo sm03 k4
      walk_at "go"
      refine ⟨key, 4, rfl, by decide, by decide, fun H5 p5 sm5 n5 h5 => ?_⟩
      walk_at "go"
      refine a_extend (sm5 _ _ h4) h5 (by simp [rowOf_length]) fun H6 k6 h6 => ?_
      have sm06 := same_mut fo (Same.trans sm04 sm5) k6
      walk_at "go"
      cases val with
      | none =>
        obtain rfl := dp_none hu
        walk_at "go"
        refine a_lstI (l := [0]) rfl (by simp) fun t H7 sm7 n7 h7 => ?_
        walk_at "go"
        refine a_cat (sm7 _ _ h6) h7 (by simp [rowOf_length]) fun o2 H8 sm8 n8 h8 => ?_
        refine q _ o2 (Same.trans sm06 (Same.trans sm7 sm8)) (Same.free (Same.trans sm06 sm7) n8) ?_
        rw [h8]; simp [body, bVal, bit]
      | some l =>
        have hll := hz l rfl
        obtain ⟨a', rfl, hT⟩ := dp_ti hu
        walk_at "go"
        refine a_lstI (l := [1]) rfl (by simp) fun t H7 sm7 n7 h7 => ?_
        walk_at "go"
        refine a_cat (sm7 _ _ h6) h7 (by simp [rowOf_length]) fun o2 H8 sm8 n8 h8 => ?_
        have sm08 := Same.trans sm06 (Same.trans sm7 sm8)
        have hT8 := same_tup sm08 hT
        walk_at "go"
        refine ⟨_, 2, rfl, by decide, by decide, fun H9 p9 sm9 n9 h9 => ?_⟩
        walk_at "go"
        refine a_cat (sm9 _ _ h8) h9 (by simp [rowOf_length]) fun o3 H10 sm10 n10 h10 => ?_
        have sm0a := Same.trans sm08 (Same.trans sm9 sm10)
        walk_at "go"
        refine a_listT (same_tup sm0a hT) fun o4 H11 sm11 n11 h11 => ?_
        walk_at "go"
        refine a_cat (sm11 _ _ h10) h11 (by simp [rowOf_length]; omega) fun o5 H12 sm12 n12 h12 => ?_
        refine q _ o5 (Same.trans sm0a (Same.trans sm11 sm12)) (Same.free (Same.trans sm0a sm11) n12) ?_
        rw [h12, List.length_map]; simp [body, bVal, bit]
def sp__node_body (K : PySem.W.Frag) : Sp := fun vs H Q _ => ∃ (v : V) (lv : Int) (ch : List (Option (Int × Int))), vs = [v] ∧ Dp K H v (dC (.node lv ch)) ∧ szC (.node lv ch) ∧
  ∀ H' p, Same H H' → H p = none → H' p = some (.lst ((body (.node lv ch)).map V.int)) → Q (.ref p) H'
set_option maxHeartbeats 20000000 in
theorem ok__node_body (T : Txt w K mg a) : FnOk P w K mg base CX0 2 a.f__node_body a.d__node_body ["content"] (sp__node_body K) := by
  refine T.F__node_body.ok sc__node_body (fun vs H Q E h => ?_) (fun cdv A outer s H vs Q E hr h => ?_)
  · obtain ⟨v, lv, ch, rfl, hD, hz, q⟩ := h
    rfl
  · obtain ⟨v, lv, ch, rfl, hD, hz, q⟩ := h
    refine ⟨_, (pss_cons (ps_asg (pv 0) (pg_tup rfl (pgs_cons (pg_name (i := 1) sc__node_body.nd rfl (.inl rfl)) (pgs_cons (pg_name (i := 2) sc__node_body.nd rfl (.inl rfl)) (pgs_cons (pg_name (i := 3) sc__node_body.nd rfl (.inl rfl)) pgs_nil)))))
        (pss_cons (ps_set (i := 4) sc__node_body.nd rfl (.inl rfl) (pe_lst (pa_cons (pv 2) pa_nil)))
        (pss_cons (ps_for PassesOwn.never rfl (q_pit (K := K) (pv 3)) (pg_name (i := 5) sc__node_body.nd rfl (.inl rfl)) (pss_one (ps_expr (pe_bm PySem.F.plainAttrs_list PySem.F.slot_list_extend PySem.F.type_list_extend mt_extend (pv 4) (pa_cons (pe_call (ok__address_row (K := K) T) (hr.mono (by decide)) (by rfl) T.g__address_row T.F__address_row.kp T.b__address_row .nil pass0 (pa_cons (pv 5) pa_nil)) pa_nil)))))
        (pss_one (ps_ret (pv 4)))))), ?_⟩
    refine i_st (σ' := [some (v), none, none, none, none, none]) rfl ?_
    have hl : ch.length ≤ 1000 := hz
    obtain ⟨p, c, xs, rfl, hs, hc, hd⟩ := c_node hD
    have hx := dpAll_len hd
    rw [List.length_map] at hx
    walk_at "go"
    refine i_kLst (sz (by simp)) fun t ht => ?_
    have hc1 : SqT K (upd H t (.lst [.int lv])) c xs := sqT_new ht hc
    walk_at "go"
    refine i_forT xs (fun i σ' H' => ∃ y4, σ' = [some (.ref p), some (.str "node"), some (.int lv), some (.ref c), some (.ref t), y4] ∧ Same H H' ∧ H' t = some (.lst ((lv :: (ch.take i).flatMap bAd).map V.int))) ⟨none, rfl, same_upd ht, upd_same⟩ ?_ ?_ ?_
    · rintro i σ' H' _ ⟨_, _, sm, _⟩
      exact same_tup sm hc
    · rintro i x σ' H' hx0 ⟨y4, rfl, sm, hO⟩
      obtain ⟨d, e1, hx1⟩ := dpAll_get hd hx0
      obtain ⟨c', hz', rfl⟩ := get_map e1
      have hi := lt_of_get hz'
      walk_at "go"
      refine ⟨x, c', rfl, dp_same sm _ _ hx1, fun H3 u sm3 nu hu => ?_⟩
      walk_at "go"
      have hl2 : ((ch.take i).flatMap bAd).length ≤ 2000 := by rw [flat_len bAd 2 bAd_len, List.length_take]; omega
      refine i_extend (sm3 _ _ hO) hu (big (by simp only [List.length_map, List.length_cons, bAd_len]; omega)) ?_
      walk_at "go"
      refine ⟨_, rfl, same_wr ht (Same.trans sm sm3), ?_⟩
      rw [upd_same, tk_bind hz', ← List.map_append]; rfl
    rintro σ' H' ⟨y4, rfl, sm, hO⟩
    rw [hx, List.take_length] at hO
    walk_at "go"
    exact q H' t sm ht hO
def sp_content_body (K : PySem.W.Frag) (C : Addr) : Sp := fun vs H Q E => ∃ (v : V) (c : Cont), vs = [v] ∧ Dp K H v (dC c) ∧ szC c ∧ (fC c = true → ∀ H' p, Same H H' → H p = none → H' p = some (.lst ((body c).map V.int)) → Q (.ref p) H') ∧ (fC c = false → ∀ H', Same H H' → E (.ref C) none H')
set_option maxHeartbeats 20000000 in
theorem ok_content_body (T : Txt w K mg a) : FnOk P w K mg base (L2.CX P w) 5 a.f_content_body a.d_content_body ["content"] (sp_content_body K a.k_InvalidContent) := by
  refine T.F_content_body.okX sc_content_body (fun vs H Q E h => ?_) (fun cdv A outer s H vs Q E hr h => ?_)
  · obtain ⟨v, c, rfl, hD, hz, q, qe⟩ := h
    rfl
  · obtain ⟨v, c, rfl, hD, hz, q, qe⟩ := h
    refine ⟨_, (pss_cons (ps_if (pt_not (pt_val (pe_call (ok_fits_page (K := K) T) (hr.mono (by decide)) (by rfl) T.g_fits_page T.F_fits_page.kp T.b_fits_page .nil pass0 (pa_cons (pv 0) pa_nil)))) (pss_one (ps_raise rfl (takes_of rfl rfl rfl rfl) (pmk_own PySem.F.excBase_ValueError T.x_InvalidContent T.g_InvalidContent T.kp_InvalidContent (raises_own T.bs_InvalidContent T.ty_InvalidContent) (by exact rfl)))) pss_nil)
        (pss_cons (ps_set (i := 1) sc_content_body.nd rfl (.inl rfl) (pe_ix (q_ixt (K := K)) (pv 0) pe_int (fun _ _ => rfl)))
        (pss_cons (ps_if (pt_cmpR op_eq (pv 1) pe_str (nomark _)) (pss_one (ps_ret (pe_call (ok__root_body (K := K) T) (hr.mono (by decide)) (by rfl) T.g__root_body T.F__root_body.kp T.b__root_body .nil pass0 (pa_cons (pv 0) pa_nil)))) pss_nil)
        (pss_cons (ps_if (pt_cmpR op_eq (pv 1) pe_str (nomark _)) (pss_one (ps_ret (pe_call (ok__item_body (K := K) T) (hr.mono (by decide)) (by rfl) T.g__item_body T.F__item_body.kp T.b__item_body .nil pass0 (pa_cons (pv 0) pa_nil)))) pss_nil)
        (pss_cons (ps_if (pt_cmpR op_eq (pv 1) pe_str (nomark _)) (pss_one (ps_ret (pe_call (ok__node_body (K := K) T) (hr.mono (by decide)) (by rfl) T.g__node_body T.F__node_body.kp T.b__node_body .nil pass0 (pa_cons (pv 0) pa_nil)))) pss_nil)
        (pss_one (ps_ret (pe_call (ok_number_row (K := K) T) (hr.mono (by decide)) (by rfl) T.g_number_row T.F_number_row.kp T.b_number_row .nil pass0 (pa_cons (pe_ix (q_ixt (K := K)) (pv 0) pe_int (fun _ _ => rfl)) (pa_cons pe_int pa_nil)))))))))), ?_⟩
    refine i_st (σ' := [some (v), none]) rfl ?_
    walk_at "go"
    refine ⟨v, c, rfl, hD, hz, fun H1 sm1 => ?_⟩
    cases hf : fC c with
    | false =>
      walk_at "go"
      exact qe hf H1 sm1
    | true =>
      walk_at "go"
      have hD1 := dp_same sm1 _ _ hD
      cases c with
      | mark n =>
        obtain ⟨p, rfl, hs⟩ := c_mark hD1
        walk_at "go"
        refine ⟨n, 4, rfl, by decide, by decide, fun H2 p2 sm2 n2 h2 => ?_⟩
        exact q hf _ p2 (Same.trans sm1 sm2) (Same.free sm1 n2) h2
      | node lv ch =>
        obtain ⟨p, c', xs, rfl, hs, _, _⟩ := c_node hD1
        walk_at "go"
        exact ⟨.ref p, lv, ch, rfl, hD1, hz, fun H2 p2 sm2 n2 h2 => q hf _ p2 (Same.trans sm1 sm2) (Same.free sm1 n2) h2⟩
      | item ep ix la key val =>
        obtain ⟨p, u, rfl, hs, _⟩ := c_item hD1
        walk_at "go"
        exact ⟨.ref p, ep, ix, key, la, val, rfl, hD1, hz, fun H2 p2 sm2 n2 h2 => q hf _ p2 (Same.trans sm1 sm2) (Same.free sm1 n2) h2⟩
      | root n ep tr jr pl er bd =>
        obtain ⟨p, t, j, u, e, d, rfl, hs, _⟩ := c_root hD1
        walk_at "go"
        exact ⟨.ref p, n, ep, tr, jr, pl, er, bd, rfl, hD1, hz, fun H2 p2 sm2 n2 h2 => q hf _ p2 (Same.trans sm1 sm2) (Same.free sm1 n2) h2⟩
def sp__law_draws (K : PySem.W.Frag) : Sp := fun vs H Q _ => ∃ (b : Addr) (ns : List Int) (n : Int), vs = [.ref b, .int n] ∧ SqL K H b (ns.map V.int) ∧ 0 ≤ n ∧ n ≤ 63 ∧
  ∀ H' p (ds : List Int), Same H H' → H p = none → H' p = some (.lst (ds.map V.int)) → ds.length = n.toNat → (∀ d ∈ ds, 0 ≤ d) → Q (.ref p) H'
set_option maxHeartbeats 20000000 in
theorem ok__law_draws (T : Txt w K mg a) : FnOk P w K mg base CX0 1 a.f__law_draws a.d__law_draws ["script", "count"] (sp__law_draws K) := by
  refine T.F__law_draws.ok sc__law_draws (fun vs H Q E h => ?_) (fun cdv A outer s H vs Q E hr h => ?_)
  · obtain ⟨b, ns, n, rfl, hS, n0, n1, q⟩ := h
    rfl
  · obtain ⟨b, ns, n, rfl, hS, n0, n1, q⟩ := h
    refine ⟨_, (pss_cons (ps_set (i := 2) sc__law_draws.nd rfl (.inl rfl) (pe_lst pa_nil))
        (pss_cons (ps_for PassesOwn.never rfl (pi_range1 (by rfl) T.z_range (pa_cons (pv 1) pa_nil)) (pg_name (i := 3) sc__law_draws.nd rfl (.inl rfl)) (pss_cons (ps_set (i := 4) sc__law_draws.nd rfl (.inl rfl) pe_int)
        (C8.pss_cut (ps_if (pt_cmpR op_gt (pe_callB (q_len (K := K)) (by rfl) T.z_len (by decide +kernel) (pa_cons (pv 0) pa_nil)) pe_int (nomark _)) (pss_one (ps_set (i := 4) sc__law_draws.nd rfl (.inl rfl) (pe_callTy c_int (by rfl) T.z_int (by decide +kernel) (pa_cons (pe_ix (q_ixl (K := K)) (pv 0) (pe_op op_mod (pv 3) (pe_callB (q_len (K := K)) (by rfl) T.z_len (by decide +kernel) (pa_cons (pv 0) pa_nil))) (fun _ _ => rfl)) pa_nil)))) pss_nil)
        (C8.pss_cut (ps_if (pt_cmpR op_lt (pv 4) pe_int (nomark _)) (pss_one (ps_set (i := 4) sc__law_draws.nd rfl (.inl rfl) (pe_op op_sub pe_int (pe_op op_mul pe_int (pv 4))))) pss_nil)
        (C8.pss_cut (ps_if (PW.pt (pw_or (pt_cmpR op_lt (pv 4) pe_int (nomark _)) (pw_or1 (pt_cmpR op_ge (pv 3) (pe_callB (q_len (K := K)) (by rfl) T.z_len (by decide +kernel) (pa_cons (pv 0) pa_nil)) (nomark _))))) (pss_cons (ps_set (i := 4) sc__law_draws.nd rfl (.inl rfl) (pe_op op_mod (pe_callTy c_int (by rfl) T.z_int (by decide +kernel) (pa_cons (pe_op op_add (pe_op op_mul (pv 4) pe_int) (pe_op op_mul pe_int (pe_op op_add (pv 3) pe_int))) pa_nil)) pe_int))
        (pss_one (ps_set (i := 4) sc__law_draws.nd rfl (.inl rfl) (pe_op op_mod (pe_callTy c_int (by rfl) T.z_int (by decide +kernel) (pa_cons (pe_op op_add (pe_op op_add (pe_op op_mul (pv 4) pe_int) pe_int) (pv 3)) pa_nil)) pe_int)))) pss_nil)
        (pss_one (ps_expr (pe_bm PySem.F.plainAttrs_list PySem.F.slot_list_append PySem.F.type_list_append mt_append (pv 2) (pa_cons (pv 4) pa_nil)))))))))
        (pss_one (ps_ret (pv 2))))), ?_⟩
    refine i_st (σ' := [some (.ref b), some (.int n), none, none, none]) rfl ?_
    walk_at "go"
    refine i_kLst (Nat.zero_le _) fun p hp => ?_
    walk_at "go"
    refine i_forR0 (fun i σ H1 => ∃ (ds : List Int) (y3 y4 : Option V), σ = [some (.ref b), some (.int n), some (.ref p), y3, y4] ∧ Same H H1 ∧ H1 p = some (.lst (ds.map V.int)) ∧ ds.length = i ∧ ∀ d ∈ ds, 0 ≤ d)
      ⟨[], none, none, rfl, same_upd hp, upd_same, rfl, by simp⟩ ?_ ?_
    · rintro i σ H1 hi ⟨ds, y3, y4, rfl, sm, hP, hl, h0⟩
      have hS1 : SqL K H1 b (ns.map V.int) := sm.seq hS
      have hlen : ((ns.map V.int).length : Int) = ns.length := by rw [List.length_map]
      walk_at "go"
      refine i_cut (fun σ' H' => H' = H1 ∧ ∃ c : Int, σ' = [some (.ref b), some (.int n), some (.ref p), some (.int i), some (.int c)]) ?_ ?_
      · walk_at "go"
        refine i_kIfd (fun h => ?_) (fun h => ?_)
        · walk_at "go"
          rw [hlen] at h
          have hlt := Int.emod_lt_of_pos (i : Int) h
          have hge := Int.emod_nonneg (i : Int) (Int.ne_of_gt h)
          rw [hlen]
          refine i_ixL hS1 (atI_map V.int ns _ 0 hge hlt) ?_
          walk_at "go"
          exact ⟨rfl, _, rfl⟩
        · walk_at "go"
          exact ⟨rfl, _, rfl⟩
      rintro σ2 H2 ⟨rfl, c, rfl⟩
      refine i_cut (fun σ' H' => H' = H2 ∧ ∃ c : Int, 0 ≤ c ∧ σ' = [some (.ref b), some (.int n), some (.ref p), some (.int i), some (.int c)]) ?_ ?_
      · walk_at "go"
        refine i_kIfd (fun h => ?_) (fun h => ?_)
        · walk_at "go"
          exact ⟨rfl, _, by omega, rfl⟩
        · walk_at "go"
          exact ⟨rfl, _, by omega, rfl⟩
      rintro σ3 H3 ⟨rfl, c2, hc2, rfl⟩
      refine i_cut (fun σ' H' => H' = H3 ∧ ∃ c : Int, 0 ≤ c ∧ σ' = [some (.ref b), some (.int n), some (.ref p), some (.int i), some (.int c)]) ?_ ?_
      · walk_at "go"
        refine i_kOr (fun _ => ?_) (fun _ => ?_)
        · walk_at "go"
          exact ⟨rfl, _, Int.emod_nonneg _ (by decide), rfl⟩
        · walk_at "go"
          refine i_kIfd (fun h => ?_) (fun h => ?_)
          · walk_at "go"
            exact ⟨rfl, _, Int.emod_nonneg _ (by decide), rfl⟩
          · walk_at "go"
            exact ⟨rfl, _, hc2, rfl⟩
      rintro σ4 H4 ⟨rfl, c3, hc3, rfl⟩
      walk_at "go"
      refine i_append hP (small1000 (by rw [List.length_map]; omega)) ?_
      walk_at "go"
      refine ⟨ds ++ [c3], _, _, rfl, fun x o e => upd_get (ne_of_none e hp) (sm x o e), by rw [upd_same, List.map_append]; rfl, by rw [List.length_append, hl]; rfl, fun d hd => ?_⟩
      rcases List.mem_append.mp hd with hd | hd
      · exact h0 d hd
      · rw [List.mem_singleton.mp hd]; exact hc3
    · rintro σ H1 ⟨ds, y3, y4, rfl, sm, hP, hl, h0⟩
      walk_at "go"
      exact q H1 p ds sm hp hP hl h0
def sp__law_number (K : PySem.W.Frag) : Sp := fun vs H Q _ => ∃ (d : Int), vs = [.int d] ∧ 0 ≤ d ∧ ∀ n : Int, 0 ≤ n → n < 4294967296 → Q (.int n) H
set_option maxHeartbeats 20000000 in
theorem ok__law_number (T : Txt w K mg a) : FnOk P w K mg base CX0 1 a.f__law_number a.d__law_number ["draw"] (sp__law_number K) := by
  refine T.F__law_number.ok sc__law_number (fun vs H Q E h => ?_) (fun cdv A outer s H vs Q E hr h => ?_)
  · obtain ⟨d, rfl, d0, q⟩ := h
    rfl
  · obtain ⟨d, rfl, d0, q⟩ := h
    refine ⟨_, (pss_cons (ps_if (pt_cmpR op_eq (pe_op op_mod (pv 0) pe_int) pe_int (nomark _)) (pss_one (ps_ret (pe_op op_sub pe_int (pe_op op_mod (pe_op op_fdiv (pv 0) pe_int) pe_int)))) pss_nil)
        (pss_one (ps_ret (pe_op op_mod (pe_op op_fdiv (pv 0) pe_int) pe_int)))), ?_⟩
    refine i_st (σ' := [some (.int d)]) rfl ?_
    walk_at "go"
    refine i_kIfd (fun _ => ?_) (fun _ => ?_)
    · walk_at "go"
      exact q _ (by omega) (by omega)
    · walk_at "go"
      exact q _ (by omega) (by omega)
def sp__law_address (K : PySem.W.Frag) : Sp := fun vs H Q _ => ∃ (d : Int), vs = [.int d] ∧ 0 ≤ d ∧ ∀ (v : V) (c : Option (Int × Int)) (H' : Hp), Same H H' → Dp K H' v (dAd c) → fAd c = true → Q v H'
set_option maxHeartbeats 20000000 in
theorem ok__law_address (T : Txt w K mg a) : FnOk P w K mg base CX0 1 a.f__law_address a.d__law_address ["draw"] (sp__law_address K) := by
  refine T.F__law_address.ok sc__law_address (fun vs H Q E h => ?_) (fun cdv A outer s H vs Q E hr h => ?_)
  · obtain ⟨d, rfl, d0, q⟩ := h
    rfl
  · obtain ⟨d, rfl, d0, q⟩ := h
    refine ⟨_, (pss_cons (ps_if (pt_cmpR op_eq (pe_op op_mod (pv 0) pe_int) pe_int (nomark _)) (pss_one (ps_ret pe_non)) pss_nil)
        (pss_one (ps_ret (pe_tup (pa_cons (pe_op op_mod (pe_op op_fdiv (pv 0) pe_int) pe_int) (pa_cons (pe_op op_mod (pe_op op_fdiv (pv 0) pe_int) pe_int) pa_nil)))))), ?_⟩
    refine i_st (σ' := [some (.int d)]) rfl ?_
    walk_at "go"
    refine i_kIfd (fun _ => ?_) (fun _ => ?_)
    · walk_at "go"
      exact q _ none H (Same.refl H) .non rfl
    · walk_at "go"
      refine a_tup (sz (by simp)) fun p H' sm _ hp => ?_
      refine q _ (some (d / 5 % 48, d / 240 % 32)) H' sm (ad_dp (SqT.of hp)) ?_
      have e1 : below 48 [d / 5 % 48] = true := below_one (by omega) (by omega)
      have e2 : below 32 [d / 240 % 32] = true := below_one (by omega) (by omega)
      simp only [fAd, e1, e2, Bool.and_true]
def sp__law_place (K : PySem.W.Frag) : Sp := fun vs H Q _ => ∃ (d : Int), vs = [.int d] ∧ 0 ≤ d ∧ ∀ (c : Option Int), (∀ b, c = some b → 0 ≤ b ∧ b < 48) → Q (vPl c) H
set_option maxHeartbeats 20000000 in
theorem ok__law_place (T : Txt w K mg a) : FnOk P w K mg base CX0 1 a.f__law_place a.d__law_place ["draw"] (sp__law_place K) := by
  refine T.F__law_place.ok sc__law_place (fun vs H Q E h => ?_) (fun cdv A outer s H vs Q E hr h => ?_)
  · obtain ⟨d, rfl, d0, q⟩ := h
    rfl
  · obtain ⟨d, rfl, d0, q⟩ := h
    refine ⟨_, (pss_cons (ps_if (pt_cmpR op_eq (pe_op op_mod (pv 0) pe_int) pe_int (nomark _)) (pss_one (ps_ret pe_non)) pss_nil)
        (pss_one (ps_ret (pe_op op_mod (pe_op op_fdiv (pv 0) pe_int) pe_int)))), ?_⟩
    refine i_st (σ' := [some (.int d)]) rfl ?_
    walk_at "go"
    refine i_kIfd (fun _ => ?_) (fun _ => ?_)
    · walk_at "go"
      exact q none (fun b h => by cases h)
    · walk_at "go"
      exact q (some _) (fun b h => by cases h; omega)
def sp__law_count (K : PySem.W.Frag) : Sp := fun vs H Q _ => ∃ (d : Int), vs = [.int d] ∧ 0 ≤ d ∧ ∀ n : Int, 0 ≤ n → n ≤ 48 → Q (.int n) H
set_option maxHeartbeats 20000000 in
theorem ok__law_count (T : Txt w K mg a) : FnOk P w K mg base CX0 1 a.f__law_count a.d__law_count ["draw"] (sp__law_count K) := by
  refine T.F__law_count.ok sc__law_count (fun vs H Q E h => ?_) (fun cdv A outer s H vs Q E hr h => ?_)
  · obtain ⟨d, rfl, d0, q⟩ := h
    rfl
  · obtain ⟨d, rfl, d0, q⟩ := h
    refine ⟨_, (pss_cons (ps_if (pt_cmpR op_eq (pe_op op_mod (pv 0) pe_int) pe_int (nomark _)) (pss_one (ps_ret (pe_op op_add pe_int (pe_op op_mod (pe_op op_fdiv (pv 0) pe_int) pe_int)))) pss_nil)
        (pss_one (ps_ret (pe_op op_mod (pe_op op_fdiv (pv 0) pe_int) pe_int)))), ?_⟩
    refine i_st (σ' := [some (.int d)]) rfl ?_
    walk_at "go"
    refine i_kIfd (fun _ => ?_) (fun _ => ?_)
    · walk_at "go"
      exact q _ (by omega) (by omega)
    · walk_at "go"
      exact q _ (by omega) (by omega)
def sp__law_octets (K : PySem.W.Frag) : Sp := fun vs H Q _ => ∃ (d n : Int), vs = [.int d, .int n] ∧ 0 ≤ d ∧ 0 ≤ n ∧ n ≤ 448 ∧ ∀ (p : Addr) (l : List Int) (H' : Hp), Same H H' → H' p = some (.tup (l.map V.int)) → l.length ≤ 448 → below 256 l = true → Q (.ref p) H'
set_option maxHeartbeats 20000000 in
theorem ok__law_octets (T : Txt w K mg a) : FnOk P w K mg base CX0 1 a.f__law_octets a.d__law_octets ["draw", "count"] (sp__law_octets K) := by
  refine T.F__law_octets.ok sc__law_octets (fun vs H Q E h => ?_) (fun cdv A outer s H vs Q E hr h => ?_)
  · obtain ⟨d, n, rfl, d0, n0, n1, q⟩ := h
    rfl
  · obtain ⟨d, n, rfl, d0, n0, n1, q⟩ := h
    refine ⟨_, (pss_one (ps_ret (pe_callTy (q_tuple (K := K)) (by rfl) T.z_tuple (by decide +kernel) (pa_cons (pe_lc (own := [("k", 2)]) (g := gName 2) (tt := tYes) rfl sc__law_octets.nd (pi_range1 (by rfl) T.z_range (pa_cons (pv 1) pa_nil)) (blkOk_by (own := [("k", 2)]) (N := N__law_octets) (sc := defScope s__law_octets) (by decide +kernel)) (fun _ _ _ _ _ => pg_name (i := 2) sc__law_octets.nd rfl (Or.inl rfl)) (fun _ _ _ _ _ => pts_nil) (fun _ _ _ _ _ => (pe_op op_mod (pe_callTy c_int (by rfl) T.z_int (by decide +kernel) (pa_cons (pe_op op_add (pe_op op_fdiv (pv 0) (pe_op op_add (pv 2) pe_int)) (pe_op op_mul (pe_op op_mul pe_int (pv 2)) (pe_op op_mod (pv 0) pe_int))) pa_nil)) pe_int))) pa_nil)))), ?_⟩
    refine i_st (σ' := [some (.int d), some (.int n), none]) rfl ?_
    walk_at "go"
    refine i_lcR0 (fun D i H' => Same H H' ∧ ∃ l : List Int, H' D = some (.lst (l.map V.int)) ∧ l.length = i ∧ below 256 l = true) (fun D hD => ⟨same_upd hD, [], upd_same, rfl, rfl⟩) ?_ ?_
    · rintro D i H' hD hi ⟨sm, l, hO, hl, hb⟩
      walk_at "go"
      refine i_kLc3 hO (bigl (by rw [List.length_map]; omega)) ⟨same_wr hD sm, l ++ [_], by rw [upd_same, List.map_append]; rfl, by rw [List.length_append, hl]; rfl, below_snoc hb (by omega) (by omega)⟩
    rintro D H' hD ⟨sm, l, hO, hl, hb⟩
    walk_at "go"
    refine a_tupL (SqL.of hO) fun p H2 sm2 _ hp => ?_
    exact q p l H2 (Same.trans sm sm2) hp (by omega) hb
def sp__law_content (K : PySem.W.Frag) : Sp := fun vs H Q _ => ∃ (d o : Int), vs = [.int d, .int o] ∧ 0 ≤ d ∧ 0 ≤ o ∧ ∀ (p : Addr) (c : Cont) (H' : Hp), Same H H' → Dp K H' (.ref p) (dC c) → fC c = true → szC c → Q (.ref p) H'
set_option maxHeartbeats 20000000 in
theorem ok__law_content (T : Txt w K mg a) : FnOk P w K mg base CX0 2 a.f__law_content a.d__law_content ["draw", "other"] (sp__law_content K) := by
  refine T.F__law_content.ok sc__law_content (fun vs H Q E h => ?_) (fun cdv A outer s H vs Q E hr h => ?_)
  · obtain ⟨d, o, rfl, d0, o0, q⟩ := h
    rfl
  · obtain ⟨d, o, rfl, d0, o0, q⟩ := h
    refine ⟨_, (pss_cons (ps_set (i := 2) sc__law_content.nd rfl (.inl rfl) (pe_op op_mod (pv 0) pe_int))
        (pss_cons (ps_if (pt_cmpR op_eq (pv 2) pe_int (nomark _)) (pss_one (ps_ret (pe_tup (pa_cons pe_str (pa_cons (pe_call (ok__law_number (K := K) T) (hr.mono (by decide)) (by rfl) T.g__law_number T.F__law_number.kp T.b__law_number .nil pass0 (pa_cons (pe_op op_fdiv (pv 0) pe_int) pa_nil)) pa_nil))))) pss_nil)
        (pss_cons (ps_if (pt_cmpR op_eq (pv 2) pe_int (nomark _)) (pss_cons (ps_setLc (i := 3) (own := [("k", 10)]) (g := gName 10) (tt := tYes) rfl sc__law_content.nd rfl rfl (sw_true rfl rfl rfl (by decide +kernel)) (pi_range1 (by rfl) T.z_range (pa_cons pe_int pa_nil)) (blkOk_by (own := [("k", 10)]) (N := N__law_content) (sc := defScope s__law_content) (by decide +kernel)) (fun _ _ _ _ _ => pg_name (i := 10) sc__law_content.nd rfl (Or.inl rfl)) (fun _ _ _ _ _ => pts_nil) (fun _ _ _ _ _ => (pe_call (ok__law_address (K := K) T) (hr.mono (by decide)) (by rfl) T.g__law_address T.F__law_address.kp T.b__law_address .nil pass0 (pa_cons (pe_op op_add (pe_op op_fdiv (pv 1) (pe_op op_add (pv 10) pe_int)) (pe_op op_mul (pv 10) (pe_op op_fdiv (pv 0) pe_int))) pa_nil))))
        (pss_one (ps_ret (pe_tup (pa_cons pe_str (pa_cons (pe_op op_mod (pe_op op_fdiv (pv 0) pe_int) pe_int) (pa_cons (pe_callTy (q_tuple (K := K)) (by rfl) T.z_tuple (by decide +kernel) (pa_cons (pv 3) pa_nil)) pa_nil))))))) pss_nil)
        (pss_cons (ps_if (pt_cmpR op_eq (pv 2) pe_int (nomark _)) (pss_cons (ps_set (i := 4) sc__law_content.nd rfl (.inl rfl) pe_non)
        (C8.pss_cut (ps_if (pt_cmpR op_gt (pe_op op_mod (pv 1) pe_int) pe_int (nomark _)) (pss_one (ps_set (i := 4) sc__law_content.nd rfl (.inl rfl) (pe_call (ok__law_octets (K := K) T) (hr.mono (by decide)) (by rfl) T.g__law_octets T.F__law_octets.kp T.b__law_octets .nil pass0 (pa_cons (pe_op op_fdiv (pv 1) pe_int) (pa_cons (pe_ifExp (pt_cmpR op_eq (pe_op op_mod (pv 1) pe_int) pe_int (nomark _)) (pe_op op_add pe_int (pe_op op_mod (pe_op op_fdiv (pv 1) pe_int) pe_int)) (pe_op op_mod (pe_op op_fdiv (pv 1) pe_int) pe_int)) pa_nil))))) pss_nil)
        (pss_cons (ps_set (i := 5) sc__law_content.nd rfl (.inl rfl) (pe_cmpR op_eq (pe_op op_mod (pe_op op_fdiv (pv 0) pe_int) pe_int) pe_int (nomark _)))
        (pss_one (ps_ret (pe_tup (pa_cons pe_str (pa_cons (pe_call (ok__law_number (K := K) T) (hr.mono (by decide)) (by rfl) T.g__law_number T.F__law_number.kp T.b__law_number .nil pass0 (pa_cons (pe_op op_fdiv (pv 0) pe_int) pa_nil)) (pa_cons (pe_call (ok__law_number (K := K) T) (hr.mono (by decide)) (by rfl) T.g__law_number T.F__law_number.kp T.b__law_number .nil pass0 (pa_cons (pe_op op_fdiv (pv 1) pe_int) pa_nil)) (pa_cons (pv 5) (pa_cons (pe_call (ok__law_number (K := K) T) (hr.mono (by decide)) (by rfl) T.g__law_number T.F__law_number.kp T.b__law_number .nil pass0 (pa_cons (pe_op op_fdiv (pv 0) pe_int) pa_nil)) (pa_cons (pv 4) pa_nil)))))))))))) pss_nil)
        (pss_cons (ps_set (i := 6) sc__law_content.nd rfl (.inl rfl) (pe_callTy (q_tuple (K := K)) (by rfl) T.z_tuple (by decide +kernel) (pa_cons (pe_lc (own := [("k", 10)]) (g := gName 10) (tt := tYes) rfl sc__law_content.nd (pi_range1 (by rfl) T.z_range (pa_cons (pe_call (ok__law_count (K := K) T) (hr.mono (by decide)) (by rfl) T.g__law_count T.F__law_count.kp T.b__law_count .nil pass0 (pa_cons (pe_op op_fdiv (pv 0) pe_int) pa_nil)) pa_nil)) (blkOk_by (own := [("k", 10)]) (N := N__law_content) (sc := defScope s__law_content) (by decide +kernel)) (fun _ _ _ _ _ => pg_name (i := 10) sc__law_content.nd rfl (Or.inl rfl)) (fun _ _ _ _ _ => pts_nil) (fun _ _ _ _ _ => (pe_op op_mod (pe_callTy c_int (by rfl) T.z_int (by decide +kernel) (pa_cons (pe_op op_fdiv (pv 0) (pe_op op_add (pv 10) pe_int)) pa_nil)) pe_int))) pa_nil)))
        (pss_cons (ps_set (i := 7) sc__law_content.nd rfl (.inl rfl) (pe_callTy (q_tuple (K := K)) (by rfl) T.z_tuple (by decide +kernel) (pa_cons (pe_lc (own := [("k", 10)]) (g := gName 10) (tt := tYes) rfl sc__law_content.nd (pi_range1 (by rfl) T.z_range (pa_cons (pe_call (ok__law_count (K := K) T) (hr.mono (by decide)) (by rfl) T.g__law_count T.F__law_count.kp T.b__law_count .nil pass0 (pa_cons (pe_op op_fdiv (pv 1) pe_int) pa_nil)) pa_nil)) (blkOk_by (own := [("k", 10)]) (N := N__law_content) (sc := defScope s__law_content) (by decide +kernel)) (fun _ _ _ _ _ => pg_name (i := 10) sc__law_content.nd rfl (Or.inl rfl)) (fun _ _ _ _ _ => pts_nil) (fun _ _ _ _ _ => (pe_call (ok__law_place (K := K) T) (hr.mono (by decide)) (by rfl) T.g__law_place T.F__law_place.kp T.b__law_place .nil pass0 (pa_cons (pe_op op_add (pe_op op_fdiv (pv 1) (pe_op op_add (pv 10) pe_int)) (pv 10)) pa_nil)))) pa_nil)))
        (pss_cons (ps_set (i := 8) sc__law_content.nd rfl (.inl rfl) (pe_callTy (q_tuple (K := K)) (by rfl) T.z_tuple (by decide +kernel) (pa_cons (pe_lc (own := [("k", 10)]) (g := gName 10) (tt := tYes) rfl sc__law_content.nd (pi_range1 (by rfl) T.z_range (pa_cons (pe_call (ok__law_count (K := K) T) (hr.mono (by decide)) (by rfl) T.g__law_count T.F__law_count.kp T.b__law_count .nil pass0 (pa_cons (pe_op op_fdiv (pv 0) pe_int) pa_nil)) pa_nil)) (blkOk_by (own := [("k", 10)]) (N := N__law_content) (sc := defScope s__law_content) (by decide +kernel)) (fun _ _ _ _ _ => pg_name (i := 10) sc__law_content.nd rfl (Or.inl rfl)) (fun _ _ _ _ _ => pts_nil) (fun _ _ _ _ _ => (pe_call (ok__law_number (K := K) T) (hr.mono (by decide)) (by rfl) T.g__law_number T.F__law_number.kp T.b__law_number .nil pass0 (pa_cons (pe_op op_add (pe_op op_fdiv (pv 1) (pe_op op_add (pv 10) pe_int)) (pv 10)) pa_nil)))) pa_nil)))
        (pss_cons (ps_set (i := 9) sc__law_content.nd rfl (.inl rfl) (pe_callTy (q_tuple (K := K)) (by rfl) T.z_tuple (by decide +kernel) (pa_cons (pe_lc (own := [("k", 10)]) (g := gName 10) (tt := tYes) rfl sc__law_content.nd (pi_range1 (by rfl) T.z_range (pa_cons (pe_call (ok__law_count (K := K) T) (hr.mono (by decide)) (by rfl) T.g__law_count T.F__law_count.kp T.b__law_count .nil pass0 (pa_cons (pe_op op_fdiv (pv 1) pe_int) pa_nil)) pa_nil)) (blkOk_by (own := [("k", 10)]) (N := N__law_content) (sc := defScope s__law_content) (by decide +kernel)) (fun _ _ _ _ _ => pg_name (i := 10) sc__law_content.nd rfl (Or.inl rfl)) (fun _ _ _ _ _ => pts_nil) (fun _ _ _ _ _ => (pe_op op_mod (pe_callTy c_int (by rfl) T.z_int (by decide +kernel) (pa_cons (pe_op op_fdiv (pv 1) (pe_op op_add (pv 10) pe_int)) pa_nil)) pe_int))) pa_nil)))
        (pss_one (ps_ret (pe_tup (pa_cons pe_str (pa_cons (pe_call (ok__law_number (K := K) T) (hr.mono (by decide)) (by rfl) T.g__law_number T.F__law_number.kp T.b__law_number .nil pass0 (pa_cons (pe_op op_fdiv (pv 0) pe_int) pa_nil)) (pa_cons (pe_call (ok__law_number (K := K) T) (hr.mono (by decide)) (by rfl) T.g__law_number T.F__law_number.kp T.b__law_number .nil pass0 (pa_cons (pe_op op_fdiv (pv 1) pe_int) pa_nil)) (pa_cons (pe_call (ok__law_address (K := K) T) (hr.mono (by decide)) (by rfl) T.g__law_address T.F__law_address.kp T.b__law_address .nil pass0 (pa_cons (pe_op op_fdiv (pv 0) pe_int) pa_nil)) (pa_cons (pv 6) (pa_cons (pv 7) (pa_cons (pv 8) (pa_cons (pv 9) pa_nil))))))))))))))))))), ?_⟩
    refine i_st (σ' := [some (.int d), some (.int o), none, none, none, none, none, none, none, none, none]) rfl ?_
    walk_at "go"
    refine i_kIfd (fun h0 => ?_) (fun h0 => ?_)
    · walk_at "go"
      refine ⟨_, rfl, by omega, fun n n0 n1 => ?_⟩
      walk_at "go"
      refine a_tup (sz (by simp)) fun p H' sm _ hp => ?_
      exact q p (.mark n) H' sm (mark_c (SqT.of hp)) (below_one n0 n1) trivial
    walk_at "go"
    refine i_kIfd (fun h1 => ?_) (fun h1 => ?_)
    · walk_at "go"
      refine i_lcR0 (fun D i H' => Same H H' ∧ ∃ (xs : List V) (ch : List (Option (Int × Int))), H' D = some (.lst xs) ∧ DpAll K H' xs (ch.map dAd) ∧ ch.length = i ∧ ch.all fAd = true) (fun D hD => ⟨same_upd hD, [], [], upd_same, .nil, rfl, rfl⟩) ?_ ?_
      · rintro D i H' hD hi ⟨sm, xs, ch, hO, hd, hl, hb⟩
        have hi' : i < 32 := hi
        have hx := dpAll_len hd
        rw [List.length_map] at hx
        walk_at "go"
        refine ⟨_, rfl, ?_, fun v c' H3 sm3 hv hf => ?_⟩
        · have e1 : 0 ≤ o / ((i : Int) + 1) := Int.ediv_nonneg o0 (by omega)
          have e2 : 0 ≤ (i : Int) * (d / 4) := Int.mul_nonneg (by omega) (by omega)
          omega
        walk_at "go"
        have hk := sm3 _ _ hO
        refine i_kLc3 hk (bigl (by omega)) ⟨same_wr hD (Same.trans sm sm3), xs ++ [v], ch ++ [c'], upd_same, ?_, by rw [List.length_append, hl]; rfl, by rw [List.all_append, hb]; simp [hf]⟩
        exact dpAll_upd hk (ch := ch ++ [c']) (by rw [List.map_append]; exact dpAll_snoc (dpAll_same sm3 _ _ hd) hv)
      rintro D H1 fD ⟨sm1, xs, ch, hO, hd, hl, hb⟩
      walk_at "go"
      refine a_tupL (SqL.of hO) fun p2 H2 sm2 _ h2 => ?_
      walk_at "go"
      refine a_tup (sz (by simp)) fun p H3 sm3 _ h3 => ?_
      have hl' : ch.length = 32 := hl
      refine q p (.node (d / 4 % 256) ch) H3 (Same.trans sm1 (Same.trans sm2 sm3)) (node_c (SqT.of h3) (SqT.of (sm3 _ _ h2)) (dpAll_same (Same.trans sm2 sm3) _ _ hd)) ?_ (by show ch.length ≤ 1000; omega)
      have e1 : below 256 [d / 4 % 256] = true := below_one (by omega) (by omega)
      simp only [fC, e1, hl', hb, decide_true, Bool.and_true]
    walk_at "go"
    refine i_kIfd (fun h2 => ?_) (fun h2 => ?_)
    · walk_at "go"
      refine i_cut (fun σ' H' => ∃ (u : V) (val : Option (List Int)), σ' = [some (.int d), some (.int o), some (.int (d % 4)), none, some u, none, none, none, none, none, none] ∧ Same H H' ∧ Dp K H' u (dVal val) ∧ fVal val = true) ?_ ?_
      · walk_at "go"
        refine i_kIfd (fun h3 => ?_) (fun h3 => ?_)
        · walk_at "go"
          refine i_kIfEd (fun h4 => ?_) (fun h4 => ?_)
          all_goals
            walk_at "go"
            refine ⟨_, _, rfl, by omega, by omega, by omega, fun p l H1 sm1 hp hl hb => ?_⟩
            walk_at "go"
            exact ⟨_, some l, rfl, sm1, dp_tints (SqT.of hp), by simp only [fVal, hb, Bool.and_true]; exact decide_eq_true hl⟩
        · walk_at "go"
          exact ⟨_, none, rfl, Same.refl H, .non, rfl⟩
      rintro σ1 H1 ⟨u, val, rfl, sm1, hu, hf⟩
      walk_at "go"
      refine ⟨_, rfl, by omega, fun n1 n10 n11 => ?_⟩
      walk_at "go"
      refine ⟨_, rfl, by omega, fun n2 n20 n21 => ?_⟩
      walk_at "go"
      refine ⟨_, rfl, by omega, fun n3 n30 n31 => ?_⟩
      walk_at "go"
      refine a_tup (sz (by simp)) fun p H2 sm2 _ h2 => ?_
      refine q p (.item n1 n2 _ n3 val) H2 (Same.trans sm1 sm2) (item_c (SqT.of h2) (dp_same sm2 _ _ hu)) ?_ ?_
      · have e1 : below 4294967296 [n1, n2, n3] = true := below_app (below_one n10 n11) (below_app (below_one n20 n21) (below_one n30 n31))
        simp only [fC, e1, hf, Bool.and_true]
      · rintro l rfl
        simp only [fVal, Bool.and_eq_true, decide_eq_true_eq] at hf
        omega
    walk_at "go"
    refine ⟨_, rfl, by omega, fun k1 k10 k11 => ?_⟩
    walk_at "go"
    refine i_lcR0 (fun D i H' => Same H H' ∧ ∃ l : List Int, H' D = some (.lst (l.map V.int)) ∧ l.length = i ∧ below 48 l = true) (fun D hD => ⟨same_upd hD, [], upd_same, rfl, rfl⟩) ?_ ?_
    · rintro D i H' hD hi ⟨sm, l, hO, hl, hb⟩
      walk_at "go"
      refine i_kLc3 hO (bigl (by rw [List.length_map]; omega)) ⟨same_wr hD sm, l ++ [_], by rw [upd_same, List.map_append]; rfl, by rw [List.length_append, hl]; rfl, below_snoc hb (by omega) (by omega)⟩
    rintro D1 H1 fD1 ⟨sm1, jr, hO1, hjl, hjb⟩
    walk_at "go"
    refine a_tupL (SqL.of hO1) fun j H2 sm2 _ hj => ?_
    walk_at "go"
    refine ⟨_, rfl, by omega, fun k2 k20 k21 => ?_⟩
    walk_at "go"
    refine i_lcR0 (fun D i H' => Same H2 H' ∧ ∃ l : List (Option Int), H' D = some (.lst (l.map vPl)) ∧ l.length = i ∧ below 48 (named l) = true) (fun D hD => ⟨same_upd hD, [], upd_same, rfl, rfl⟩) ?_ ?_
    · rintro D i H' hD hi ⟨sm, l, hO, hl, hb⟩
      walk_at "go"
      refine ⟨_, rfl, by have := Int.ediv_nonneg (b := (i : Int) + 1) o0 (by omega); omega, fun c' hc' => ?_⟩
      walk_at "go"
      refine i_kLc3 hO (bigl (by rw [List.length_map]; omega)) ⟨same_wr hD sm, l ++ [c'], by rw [upd_same, List.map_append]; rfl, by rw [List.length_append, hl]; rfl, ?_⟩
      have e : named (l ++ [c']) = named l ++ named [c'] := by unfold named; rw [List.filterMap_append]
      rw [e]
      refine below_app hb ?_
      cases c' with
      | none => rfl
      | some b => exact below_one (hc' b rfl).1 (hc' b rfl).2
    rintro D3 H3 fD3 ⟨sm3, pl, hO3, hpl, hpb⟩
    walk_at "go"
    refine a_tupL (SqL.of hO3) fun u H4 sm4 _ hu => ?_
    walk_at "go"
    refine ⟨_, rfl, by omega, fun k3 k30 k31 => ?_⟩
    walk_at "go"
    refine i_lcR0 (fun D i H' => Same H4 H' ∧ ∃ l : List Int, H' D = some (.lst (l.map V.int)) ∧ l.length = i ∧ below 4294967296 l = true) (fun D hD => ⟨same_upd hD, [], upd_same, rfl, rfl⟩) ?_ ?_
    · rintro D i H' hD hi ⟨sm, l, hO, hl, hb⟩
      walk_at "go"
      refine ⟨_, rfl, by have := Int.ediv_nonneg (b := (i : Int) + 2) o0 (by omega); omega, fun z z0 z1 => ?_⟩
      walk_at "go"
      refine i_kLc3 hO (bigl (by rw [List.length_map]; omega)) ⟨same_wr hD sm, l ++ [z], by rw [upd_same, List.map_append]; rfl, by rw [List.length_append, hl]; rfl, below_snoc hb z0 z1⟩
    rintro D5 H5 fD5 ⟨sm5, er, hO5, hel, heb⟩
    walk_at "go"
    refine a_tupL (SqL.of hO5) fun e H6 sm6 _ he => ?_
    walk_at "go"
    refine ⟨_, rfl, by omega, fun k4 k40 k41 => ?_⟩
    walk_at "go"
    refine i_lcR0 (fun D i H' => Same H6 H' ∧ ∃ l : List Int, H' D = some (.lst (l.map V.int)) ∧ l.length = i ∧ below 48 l = true) (fun D hD => ⟨same_upd hD, [], upd_same, rfl, rfl⟩) ?_ ?_
    · rintro D i H' hD hi ⟨sm, l, hO, hl, hb⟩
      walk_at "go"
      refine i_kLc3 hO (bigl (by rw [List.length_map]; omega)) ⟨same_wr hD sm, l ++ [_], by rw [upd_same, List.map_append]; rfl, by rw [List.length_append, hl]; rfl, below_snoc hb (by omega) (by omega)⟩
    rintro D7 H7 fD7 ⟨sm7, bd, hO7, hbl, hbb⟩
    walk_at "go"
    refine a_tupL (SqL.of hO7) fun b' H8 sm8 _ hb8 => ?_
    walk_at "go"
    refine ⟨_, rfl, by omega, fun n1 n10 n11 => ?_⟩
    walk_at "go"
    refine ⟨_, rfl, by omega, fun n2 n20 n21 => ?_⟩
    walk_at "go"
    refine ⟨_, rfl, by omega, fun t tr H9 sm9 ht htf => ?_⟩
    walk_at "go"
    refine a_tup (sz (by simp)) fun p H10 sm10 _ h10 => ?_
    have s98 := Same.trans sm9 sm10
    have s76 := Same.trans sm7 (Same.trans sm8 s98)
    have s54 := Same.trans sm5 (Same.trans sm6 s76)
    have s32 := Same.trans sm3 (Same.trans sm4 s54)
    have hjl' : jr.length ≤ 48 := by omega
    have hpl' : pl.length ≤ 48 := by omega
    have hel' : er.length ≤ 48 := by omega
    have hbl' : bd.length ≤ 48 := by omega
    refine q p (.root n1 n2 tr jr pl er bd) H10 (Same.trans sm1 (Same.trans sm2 s32)) (root_c (SqT.of h10) (dp_same sm10 _ _ ht) (SqT.of (s32 _ _ hj)) (SqT.of (s54 _ _ hu)) (SqT.of (s76 _ _ he)) (SqT.of (s98 _ _ hb8))) ?_ ⟨by omega, by omega, by omega, by omega⟩
    have e0 : (decide (48 < jr.length) || (decide (48 < pl.length) || (decide (48 < er.length) || decide (48 < bd.length)))) = false := by
      simp only [Bool.or_eq_false_iff, decide_eq_false_iff_not]
      omega
    have e1 : below 4294967296 (n1 :: n2 :: er) = true := below_app (l := [n1]) (below_one n10 n11) (below_app (l := [n2]) (below_one n20 n21) heb)
    have e2 : below 48 (jr ++ (named pl ++ bd)) = true := below_app hjb (below_app hpb hbb)
    simp only [fC, e0, e1, e2, htf, Bool.not_false, Bool.and_true]
def sp__law_changed (K : PySem.W.Frag) : Sp := fun vs H Q _ => ∃ (v : V) (c : Cont) (d : Int), vs = [v, .int d] ∧ Dp K H v (dC c) ∧ szC c ∧ fC c = true ∧ 0 ≤ d ∧ ∀ H' v' c', Same H H' → Dp K H' v' (dC c') → szC c' → fC c' = decide (d % 2 = 0) → Q v' H'
set_option maxHeartbeats 20000000 in
theorem ok__law_changed (T : Txt w K mg a) : FnOk P w K mg base CX0 1 a.f__law_changed a.d__law_changed ["content", "draw"] (sp__law_changed K) := by
  refine T.F__law_changed.ok sc__law_changed (fun vs H Q E h => ?_) (fun cdv A outer s H vs Q E hr h => ?_)
  · obtain ⟨v, c, d, rfl, hD, hz, hf, d0, q⟩ := h
    rfl
  · obtain ⟨v, c, d, rfl, hD, hz, hf, d0, q⟩ := h
    refine ⟨_, (pss_cons (ps_set (i := 2) sc__law_changed.nd rfl (.inl rfl) (pe_op op_mod (pv 1) pe_int))
        (pss_cons (ps_set (i := 3) sc__law_changed.nd rfl (.inl rfl) (pe_op op_add pe_int (pv 2)))
        (pss_cons (ps_if (pt_cmpR op_eq (pe_ix (q_ixt (K := K)) (pv 0) pe_int (fun _ _ => rfl)) pe_str (nomark _)) (pss_one (ps_ret (pe_tup (pa_cons pe_str (pa_cons (pv 3) pa_nil))))) pss_nil)
        (pss_cons (ps_if (pt_cmpR op_eq (pe_ix (q_ixt (K := K)) (pv 0) pe_int (fun _ _ => rfl)) pe_str (nomark _)) (pss_cons (ps_set (i := 4) sc__law_changed.nd rfl (.inl rfl) (pe_op op_mod (pe_op op_fdiv (pv 1) pe_int) pe_int))
        (pss_cons (ps_if (pt_cmpR op_eq (pv 4) pe_int (nomark _)) (pss_one (ps_ret (pe_tup (pa_cons pe_str (pa_cons (pe_op op_add pe_int (pv 2)) (pa_cons (pe_ix (q_ixt (K := K)) (pv 0) pe_int (fun _ _ => rfl)) pa_nil)))))) pss_nil)
        (pss_cons (ps_if (pt_cmpR op_eq (pv 4) pe_int (nomark _)) (pss_one (ps_ret (pe_tup (pa_cons pe_str (pa_cons (pe_ix (q_ixt (K := K)) (pv 0) pe_int (fun _ _ => rfl)) (pa_cons (pe_slice (q_slt (K := K)) (pe_ix (q_ixt (K := K)) (pv 0) pe_int (fun _ _ => rfl)) po_none (po_some (pe_op op_sub (pe_op op_add pe_int pe_int) (pv 2)))) pa_nil)))))) pss_nil)
        (pss_cons (ps_set (i := 5) sc__law_changed.nd rfl (.inl rfl) (pe_ifExp (pt_cmpR op_eq (pv 4) pe_int (nomark _)) (pe_tup (pa_cons (pe_op op_add pe_int (pv 2)) (pa_cons pe_int pa_nil))) (pe_tup (pa_cons pe_int (pa_cons (pe_op op_add pe_int (pv 2)) pa_nil)))))
        (pss_one (ps_ret (pe_tup (pa_cons pe_str (pa_cons (pe_ix (q_ixt (K := K)) (pv 0) pe_int (fun _ _ => rfl)) (pa_cons (pe_op (q_catT (K := K)) (pe_slice (q_slt (K := K)) (pe_ix (q_ixt (K := K)) (pv 0) pe_int (fun _ _ => rfl)) po_none (po_some pe_int)) (pe_tup (pa_cons (pv 5) pa_nil))) pa_nil)))))))))) pss_nil)
        (pss_cons (ps_if (pt_cmpR op_eq (pe_ix (q_ixt (K := K)) (pv 0) pe_int (fun _ _ => rfl)) pe_str (nomark _)) (pss_cons (ps_set (i := 4) sc__law_changed.nd rfl (.inl rfl) (pe_op op_mod (pe_op op_fdiv (pv 1) pe_int) pe_int))
        (pss_cons (ps_if (pt_cmpR op_eq (pv 4) pe_int (nomark _)) (pss_one (ps_ret (pe_tup (pa_cons pe_str (pa_cons (pv 3) (pa_cons (pe_ix (q_ixt (K := K)) (pv 0) pe_int (fun _ _ => rfl)) (pa_cons (pe_ix (q_ixt (K := K)) (pv 0) pe_int (fun _ _ => rfl)) (pa_cons (pe_ix (q_ixt (K := K)) (pv 0) pe_int (fun _ _ => rfl)) (pa_cons (pe_ix (q_ixt (K := K)) (pv 0) pe_int (fun _ _ => rfl)) pa_nil))))))))) pss_nil)
        (pss_cons (ps_if (pt_cmpR op_eq (pv 4) pe_int (nomark _)) (pss_one (ps_ret (pe_tup (pa_cons pe_str (pa_cons (pe_ix (q_ixt (K := K)) (pv 0) pe_int (fun _ _ => rfl)) (pa_cons (pv 3) (pa_cons (pe_ix (q_ixt (K := K)) (pv 0) pe_int (fun _ _ => rfl)) (pa_cons (pe_ix (q_ixt (K := K)) (pv 0) pe_int (fun _ _ => rfl)) (pa_cons (pe_ix (q_ixt (K := K)) (pv 0) pe_int (fun _ _ => rfl)) pa_nil))))))))) pss_nil)
        (pss_cons (ps_if (pt_cmpR op_eq (pv 4) pe_int (nomark _)) (pss_one (ps_ret (pe_tup (pa_cons pe_str (pa_cons (pe_ix (q_ixt (K := K)) (pv 0) pe_int (fun _ _ => rfl)) (pa_cons (pe_ix (q_ixt (K := K)) (pv 0) pe_int (fun _ _ => rfl)) (pa_cons (pe_ix (q_ixt (K := K)) (pv 0) pe_int (fun _ _ => rfl)) (pa_cons (pv 3) (pa_cons (pe_ix (q_ixt (K := K)) (pv 0) pe_int (fun _ _ => rfl)) pa_nil))))))))) pss_nil)
        (pss_cons (ps_set (i := 6) sc__law_changed.nd rfl (.inl rfl) (pe_ifExp (pt_cmpR op_eq (pv 4) pe_int (nomark _)) (pe_op (q_repT (K := K)) (pe_tup (pa_cons pe_int pa_nil)) (pe_op op_add pe_int (pv 2))) (pe_tup (pa_cons pe_int (pa_cons (pe_op op_add pe_int (pv 2)) pa_nil)))))
        (pss_one (ps_ret (pe_tup (pa_cons pe_str (pa_cons (pe_ix (q_ixt (K := K)) (pv 0) pe_int (fun _ _ => rfl)) (pa_cons (pe_ix (q_ixt (K := K)) (pv 0) pe_int (fun _ _ => rfl)) (pa_cons (pe_ix (q_ixt (K := K)) (pv 0) pe_int (fun _ _ => rfl)) (pa_cons (pe_ix (q_ixt (K := K)) (pv 0) pe_int (fun _ _ => rfl)) (pa_cons (pv 6) pa_nil)))))))))))))) pss_nil)
        (pss_cons (ps_set (i := 7) sc__law_changed.nd rfl (.inl rfl) (pe_callTy (q_list (K := K)) (by rfl) T.z_list (by decide +kernel) (pa_cons (pv 0) pa_nil)))
        (pss_cons (ps_set (i := 4) sc__law_changed.nd rfl (.inl rfl) (pe_op op_mod (pe_op op_fdiv (pv 1) pe_int) pe_int))
        (C8.pss_cut (ps_if (PW.pt (pw_or (pt_cmpR op_eq (pv 4) pe_int (nomark _)) (pw_or1 (pt_cmpR op_eq (pv 4) pe_int (nomark _))))) (pss_one (ps_asg (pv 3) (pg_sub (pv 7) (pe_op op_add pe_int (pv 4)) set_list))) (pss_one (ps_if (pt_cmpR op_eq (pv 4) pe_int (nomark _)) (pss_one (ps_asg (pe_tup (pa_cons (pe_op op_add pe_int (pv 2)) (pa_cons pe_int pa_nil))) (pg_sub (pv 7) pe_int set_list))) (pss_one (ps_if (pt_cmpR op_eq (pv 4) pe_int (nomark _)) (pss_one (ps_asg (pe_tup (pa_cons pe_int (pa_cons (pe_op op_add pe_int (pv 2)) pa_nil))) (pg_sub (pv 7) pe_int set_list))) (pss_one (ps_if (pt_cmpR op_eq (pv 4) pe_int (nomark _)) (pss_one (ps_asg (pe_tup (pa_cons (pe_op op_add pe_int (pv 2)) pa_nil)) (pg_sub (pv 7) pe_int set_list))) (pss_one (ps_if (pt_cmpR op_eq (pv 4) pe_int (nomark _)) (pss_one (ps_asg (pe_tup (pa_cons pe_non (pa_cons (pe_op op_add pe_int (pv 2)) pa_nil))) (pg_sub (pv 7) pe_int set_list))) (pss_one (ps_if (pt_cmpR op_eq (pv 4) pe_int (nomark _)) (pss_one (ps_asg (pe_tup (pa_cons pe_int (pa_cons (pv 3) pa_nil))) (pg_sub (pv 7) pe_int set_list))) (pss_one (ps_if (pt_cmpR op_eq (pv 4) pe_int (nomark _)) (pss_one (ps_asg (pe_tup (pa_cons (pe_op op_add pe_int (pv 2)) pa_nil)) (pg_sub (pv 7) pe_int set_list))) (pss_one (ps_asg (pe_op (q_repT (K := K)) (pe_tup (pa_cons pe_int pa_nil)) (pe_op op_add pe_int (pv 2))) (pg_sub (pv 7) (pe_op op_add (pe_op op_mod (pe_op op_fdiv (pv 1) pe_int) pe_int) pe_int) set_list))))))))))))))))
        (pss_one (ps_ret (pe_callTy (q_tuple (K := K)) (by rfl) T.z_tuple (by decide +kernel) (pa_cons (pv 7) pa_nil)))))))))))), ?_⟩
    refine i_st (σ' := [some (v), some (.int d), none, none, none, none, none, none]) rfl ?_
    have hov : d % 2 = 0 ∨ d % 2 = 1 := by omega
    have t32 : cLo 4294967296 (4294967295 + d % 2) = decide (d % 2 = 0) := cLo_top (by decide) (by omega)
    have t256 : cLo 256 (255 + d % 2) = decide (d % 2 = 0) := cLo_top (by decide) (by omega)
    have t48 : cLo 48 (47 + d % 2) = decide (d % 2 = 0) := cLo_top (by decide) (by omega)
    have t31 : cLo 32 (31 + d % 2) = decide (d % 2 = 0) := cLo_top (by decide) (by omega)
    have g1 : cLo 48 3 = true := by decide
    have g2 : cLo 32 3 = true := by decide
    have g3 : cLo 256 1 = true := by decide
    have g4 : cLo 48 0 = true := by decide
    have g5 : cLo 32 31 = true := by decide
    have g6 : cLo 4294967296 0 = true := by decide
    have g7 : cLo 48 5 = true := by decide
    have g8 : cLo 4294967296 5 = true := by decide
    have g9 : cLo 256 7 = true := by decide
    
    cases c with
    | mark n =>
      obtain ⟨p, rfl, hs⟩ := c_mark hD
      walk_at "go"
      refine a_tup (sz (by simp)) fun t H1 sm1 n1 h1 => ?_
      exact q H1 _ (.mark (4294967295 + d % 2)) sm1 (mark_c (SqT.of h1)) trivial (by simp only [fC, below_cons', below_nil', t32, Bool.and_true])
    | node lv ch =>
      obtain ⟨p, c, xs, rfl, hs, hc, hd⟩ := c_node hD
      simp only [fC, below_cons', below_nil', Bool.and_true, Bool.and_eq_true, decide_eq_true_eq] at hf
      obtain ⟨f1, f2, f3⟩ := hf
      have hx := dpAll_len hd
      rw [List.length_map] at hx
      walk_at "go"
      refine i_kIfd (fun k0 => ?_) (fun k0 => ?_)
      · walk_at "go"
        refine a_tup (sz (by simp)) fun t H1 sm1 n1 h1 => ?_
        refine q H1 _ (.node (255 + d % 2) ch) sm1 (node_c (SqT.of h1) (same_tup sm1 hc) (dpAll_same sm1 _ _ hd)) hz ?_
        simp only [fC, below_cons', below_nil', t256, f2, f3, decide_true, Bool.and_true]
      walk_at "go"
      refine i_kIfd (fun k1 => ?_) (fun k1 => ?_)
      · walk_at "go"
        refine a_slTT (32 - d % 2).toNat hc (by omega) fun u H1 sm1 hu => ?_
        walk_at "go"
        refine a_tup (sz (by simp)) fun t H2 sm2 n2 h2 => ?_
        refine q H2 _ (.node lv (ch.take (32 - d % 2).toNat)) (Same.trans sm1 sm2) (node_c (SqT.of h2) (same_tup sm2 hu) (by rw [List.map_take]; exact dpAll_take _ (dpAll_same (Same.trans sm1 sm2) _ _ hd))) (by show (ch.take _).length ≤ 1000; rw [List.length_take]; omega) ?_
        have e : decide ((ch.take (32 - d % 2).toNat).length = 32) = decide (d % 2 = 0) := by
          apply decide_eq_decide.mpr
          rw [List.length_take]; omega
        simp only [fC, below_cons', below_nil', f1, e, all_take' _ f3, Bool.and_true, Bool.true_and]
      walk_at "go"
      refine i_kIfEd (fun k2 => ?_) (fun k2 => ?_)
      · walk_at "go"
        refine a_tup (sz (by simp)) fun cp H1 sm1 n1 h1 => ?_
        walk_at "go"
        refine a_slTT 31 (same_tup sm1 hc) rfl fun u H2 sm2 hu => ?_
        have h12 := sm2 _ _ h1
        walk_at "go"
        refine a_tup (sz (by simp)) fun w1 H3 sm3 n3 h3 => ?_
        walk_at "go"
        refine a_catT (same_tup sm3 hu) (SqT.of h3) (by intro e; have := congrArg List.length e; rw [List.length_take, hx, f2] at this; exact absurd this (by decide)) (by simp) (by rw [List.length_take]; simp; omega) fun w2 H4 sm4 n4 h4 => ?_
        walk_at "go"
        refine a_tup (sz (by simp)) fun t H5 sm5 n5 h5 => ?_
        have sm05 := Same.trans (Same.trans sm1 sm2) (Same.trans sm3 (Same.trans sm4 sm5))
        refine q H5 _ (.node lv (ch.take 31 ++ [some (47 + d % 2, 3)])) sm05 (node_c (SqT.of h5) (SqT.of (sm5 _ _ h4)) ?_) ?_ ?_
        · rw [List.map_append, List.map_take]
          exact dpAll_snoc (dpAll_take 31 (dpAll_same sm05 _ _ hd)) (ad_dp (SqT.of (sm5 _ _ (sm4 _ _ (sm3 _ _ h12)))))
        · show (ch.take 31 ++ [_]).length ≤ 1000
          rw [List.length_append, List.length_take]; simp; omega
        · have e : (ch.take 31 ++ [some (47 + d % 2, 3)]).length = 32 := by rw [List.length_append, List.length_take]; simp; omega
          have e2 : (ch.take 31 ++ [some (47 + d % 2, 3)]).all fAd = decide (d % 2 = 0) := by
            rw [List.all_append, all_take' 31 f3]
            simp only [List.all_cons, List.all_nil, fAd, below_cons', below_nil', t48, g2, Bool.and_true, Bool.true_and]
          simp only [fC, below_cons', below_nil', f1, e, e2, decide_true, Bool.and_true, Bool.true_and]
      · walk_at "go"
        refine a_tup (sz (by simp)) fun cp H1 sm1 n1 h1 => ?_
        walk_at "go"
        refine a_slTT 31 (same_tup sm1 hc) rfl fun u H2 sm2 hu => ?_
        have h12 := sm2 _ _ h1
        walk_at "go"
        refine a_tup (sz (by simp)) fun w1 H3 sm3 n3 h3 => ?_
        walk_at "go"
        refine a_catT (same_tup sm3 hu) (SqT.of h3) (by intro e; have := congrArg List.length e; rw [List.length_take, hx, f2] at this; exact absurd this (by decide)) (by simp) (by rw [List.length_take]; simp; omega) fun w2 H4 sm4 n4 h4 => ?_
        walk_at "go"
        refine a_tup (sz (by simp)) fun t H5 sm5 n5 h5 => ?_
        have sm05 := Same.trans (Same.trans sm1 sm2) (Same.trans sm3 (Same.trans sm4 sm5))
        refine q H5 _ (.node lv (ch.take 31 ++ [some (3, 31 + d % 2)])) sm05 (node_c (SqT.of h5) (SqT.of (sm5 _ _ h4)) ?_) ?_ ?_
        · rw [List.map_append, List.map_take]
          exact dpAll_snoc (dpAll_take 31 (dpAll_same sm05 _ _ hd)) (ad_dp (SqT.of (sm5 _ _ (sm4 _ _ (sm3 _ _ h12)))))
        · show (ch.take 31 ++ [_]).length ≤ 1000
          rw [List.length_append, List.length_take]; simp; omega
        · have e : (ch.take 31 ++ [some (3, 31 + d % 2)]).length = 32 := by rw [List.length_append, List.length_take]; simp; omega
          have e2 : (ch.take 31 ++ [some (3, 31 + d % 2)]).all fAd = decide (d % 2 = 0) := by
            rw [List.all_append, all_take' 31 f3]
            simp only [List.all_cons, List.all_nil, fAd, below_cons', below_nil', t31, g1, Bool.and_true, Bool.true_and]
          simp only [fC, below_cons', below_nil', f1, e, e2, decide_true, Bool.and_true, Bool.true_and]
    | item ep ix la key val =>
      obtain ⟨p, u, rfl, hs, hu⟩ := c_item hD
      simp only [fC, below_cons', below_nil', Bool.and_true, Bool.and_eq_true] at hf
      obtain ⟨⟨f1, f2, f3⟩, f4⟩ := hf
      walk_at "go"
      refine i_kIfd (fun k0 => ?_) (fun k0 => ?_)
      · walk_at "go"
        refine a_tup (sz (by simp)) fun t H1 sm1 n1 h1 => ?_
        refine q H1 _ (.item (4294967295 + d % 2) ix la key val) sm1 (item_c (SqT.of h1) (dp_same sm1 _ _ hu)) hz ?_
        simp only [fC, below_cons', below_nil', t32, f2, f3, f4, Bool.and_true]
      walk_at "go"
      refine i_kIfd (fun k1 => ?_) (fun k1 => ?_)
      · walk_at "go"
        refine a_tup (sz (by simp)) fun t H1 sm1 n1 h1 => ?_
        refine q H1 _ (.item ep (4294967295 + d % 2) la key val) sm1 (item_c (SqT.of h1) (dp_same sm1 _ _ hu)) hz ?_
        simp only [fC, below_cons', below_nil', t32, f1, f3, f4, Bool.and_true, Bool.true_and]
      walk_at "go"
      refine i_kIfd (fun k2 => ?_) (fun k2 => ?_)
      · walk_at "go"
        refine a_tup (sz (by simp)) fun t H1 sm1 n1 h1 => ?_
        refine q H1 _ (.item ep ix la (4294967295 + d % 2) val) sm1 (item_c (SqT.of h1) (dp_same sm1 _ _ hu)) hz ?_
        simp only [fC, below_cons', below_nil', t32, f1, f2, f4, Bool.and_true, Bool.true_and]
      walk_at "go"
      refine i_kIfEd (fun k3 => ?_) (fun k3 => ?_)
      · walk_at "go"
        refine a_tup (sz (by simp)) fun w1 H1 sm1 n1 h1 => ?_
        walk_at "go"
        refine a_repT (SqT.of h1) (by omega) (by omega) fun w2 H2 sm2 n2 h2 => ?_
        walk_at "go"
        refine a_tup (sz (by simp)) fun t H3 sm3 n3 h3 => ?_
        refine q H3 _ (.item ep ix la key (some (List.replicate (448 + d % 2).toNat 7))) (Same.trans sm1 (Same.trans sm2 sm3)) (item_c (SqT.of h3) (ti_dp (SqT.of (sm3 _ _ h2)))) ?_ ?_
        · rintro l e
          cases e
          rw [List.length_replicate]; omega
        · have e : decide ((List.replicate (448 + d % 2).toNat (7 : Int)).length ≤ 448) = decide (d % 2 = 0) := by
            apply decide_eq_decide.mpr
            rw [List.length_replicate]; omega
          simp only [fC, below_cons', below_nil', f1, f2, f3, fVal, e, below_rep' 256 7 _ g9, Bool.and_true, Bool.true_and]
      · walk_at "go"
        refine a_tup (sz (by simp)) fun w2 H2 sm2 n2 h2 => ?_
        walk_at "go"
        refine a_tup (sz (by simp)) fun t H3 sm3 n3 h3 => ?_
        refine q H3 _ (.item ep ix la key (some [1, 255 + d % 2])) (Same.trans sm2 sm3) (item_c (SqT.of h3) (ti_dp (SqT.of (sm3 _ _ h2)))) ?_ ?_
        · rintro l e
          cases e
          simp
        · have e : decide (([1, 255 + d % 2] : List Int).length ≤ 448) = true := rfl
          simp only [fC, below_cons', below_nil', f1, f2, f3, fVal, e, g3, t256, Bool.and_true, Bool.true_and]
    | root n ep tr jr pl er bd =>
      obtain ⟨hz1, hz2, hz3, hz4⟩ := hz
      obtain ⟨p, tt, j, u, e, d', rfl, hs, htr, hJ, hP, hE, hB⟩ := c_root hD
      simp only [fC, below_cons', below_append', Bool.and_eq_true, Bool.not_eq_true', Bool.or_eq_false_iff] at hf
      obtain ⟨⟨e1, e2, e3, e4⟩, ⟨b1, b2, b3⟩, b4, b5, b6, b7⟩ := hf
      walk_at "go"
      refine a_listT hs fun P H1 sm1 nP h1 => ?_
      walk_at "go"
      refine i_cut (fun σ' H' => ∃ (xs : List V) (c' : Cont), σ' = [some (.ref p), some (.int d), some (.int (d % 2)), some (.int (4294967295 + d % 2)), some (.int (d / 2 % 10)), none, none, some (.ref P)] ∧ Same H H' ∧ H' P = some (.lst xs) ∧ PartsOf K H' xs c' ∧ szC c' ∧ fC c' = decide (d % 2 = 0)) ?_ ?_
      · walk_at "go"
        refine i_kOr (fun k0 => ?_) (fun k0 => ?_)
        · have k0 := of_decide_eq_true k0
          walk_at "go"
          refine a_setV 1 h1 (by omega) (by simp) fun H3 k3 h3 => ?_
          have sX := same_mut nP sm1 k3
          walk_at "go"
          refine ⟨[.str "root", .int (4294967295 + d % 2), .int ep, tt, .ref j, .ref u, .ref e, .ref d'], (.root (4294967295 + d % 2) ep tr jr pl er bd), rfl, sX, h3, fun H' t sm ht => ?_, ⟨by omega, by omega, by omega, by omega⟩, ?_⟩
          · have sY := Same.trans sX sm
            exact root_c ht (dp_same sY _ _ htr) (same_tup sY hJ) (same_tup sY hP) (same_tup sY hE) (same_tup sY hB)
          · simp only [fC, below_cons', below_append', below_nil', t32, e1, e2, e3, e4, b1, b2, b3, b4, b5, b6, b7, Bool.or_false, Bool.not_false, Bool.true_and, Bool.and_true]
        have k0 := of_decide_eq_false k0
        walk_at "go"
        refine i_kIfd (fun k1 => ?_) (fun k1 => ?_)
        · walk_at "go"
          refine a_setV 2 h1 (by omega) (by simp) fun H3 k3 h3 => ?_
          have sX := same_mut nP sm1 k3
          walk_at "go"
          refine ⟨[.str "root", .int n, .int (4294967295 + d % 2), tt, .ref j, .ref u, .ref e, .ref d'], (.root n (4294967295 + d % 2) tr jr pl er bd), rfl, sX, h3, fun H' t sm ht => ?_, ⟨by omega, by omega, by omega, by omega⟩, ?_⟩
          · have sY := Same.trans sX sm
            exact root_c ht (dp_same sY _ _ htr) (same_tup sY hJ) (same_tup sY hP) (same_tup sY hE) (same_tup sY hB)
          · simp only [fC, below_cons', below_append', below_nil', t32, e1, e2, e3, e4, b1, b2, b3, b4, b5, b6, b7, Bool.or_false, Bool.not_false, Bool.true_and, Bool.and_true]
        walk_at "go"
        refine i_kIfd (fun k2 => ?_) (fun k2 => ?_)
        · walk_at "go"
          refine a_tup (sz (by simp)) fun w1 H2 sm2 n2 h2 => ?_
          have nw := ne_of_none h1 n2
          walk_at "go"
          refine a_setV 3 (sm2 _ _ h1) (by omega) (by simp) fun H3 k3 h3 => ?_
          have hw := k3 _ _ nw.symm h2
          have sX := same_mut nP (Same.trans sm1 sm2) k3
          walk_at "go"
          refine ⟨[.str "root", .int n, .int ep, .ref w1, .ref j, .ref u, .ref e, .ref d'], (.root n ep (some (47 + d % 2, 31)) jr pl er bd), rfl, sX, h3, fun H' t sm ht => ?_, ⟨by omega, by omega, by omega, by omega⟩, ?_⟩
          · have sY := Same.trans sX sm
            exact root_c ht (ad_dp (SqT.of (sm _ _ hw))) (same_tup sY hJ) (same_tup sY hP) (same_tup sY hE) (same_tup sY hB)
          · have ea : fAd (some (47 + d % 2, 31)) = decide (d % 2 = 0) := by simp only [fAd, below_cons', below_nil', t48, g5, Bool.and_true]
            simp only [fC, below_cons', below_append', below_nil', ea, e1, e2, e3, e4, b1, b2, b3, b4, b5, b6, b7, Bool.or_false, Bool.not_false, Bool.true_and, Bool.and_true]
        walk_at "go"
        refine i_kIfd (fun k3 => ?_) (fun k3 => ?_)
        · walk_at "go"
          refine a_tup (sz (by simp)) fun w1 H2 sm2 n2 h2 => ?_
          have nw := ne_of_none h1 n2
          walk_at "go"
          refine a_setV 3 (sm2 _ _ h1) (by omega) (by simp) fun H3 k3 h3 => ?_
          have hw := k3 _ _ nw.symm h2
          have sX := same_mut nP (Same.trans sm1 sm2) k3
          walk_at "go"
          refine ⟨[.str "root", .int n, .int ep, .ref w1, .ref j, .ref u, .ref e, .ref d'], (.root n ep (some (0, 31 + d % 2)) jr pl er bd), rfl, sX, h3, fun H' t sm ht => ?_, ⟨by omega, by omega, by omega, by omega⟩, ?_⟩
          · have sY := Same.trans sX sm
            exact root_c ht (ad_dp (SqT.of (sm _ _ hw))) (same_tup sY hJ) (same_tup sY hP) (same_tup sY hE) (same_tup sY hB)
          · have ea : fAd (some (0, 31 + d % 2)) = decide (d % 2 = 0) := by simp only [fAd, below_cons', below_nil', t31, g4, Bool.and_true, Bool.true_and]
            simp only [fC, below_cons', below_append', below_nil', ea, e1, e2, e3, e4, b1, b2, b3, b4, b5, b6, b7, Bool.or_false, Bool.not_false, Bool.true_and, Bool.and_true]
        walk_at "go"
        refine i_kIfd (fun k4 => ?_) (fun k4 => ?_)
        · walk_at "go"
          refine a_tup (sz (by simp)) fun w1 H2 sm2 n2 h2 => ?_
          have nw := ne_of_none h1 n2
          walk_at "go"
          refine a_setV 4 (sm2 _ _ h1) (by omega) (by simp) fun H3 k3 h3 => ?_
          have hw := k3 _ _ nw.symm h2
          have sX := same_mut nP (Same.trans sm1 sm2) k3
          walk_at "go"
          refine ⟨[.str "root", .int n, .int ep, tt, .ref w1, .ref u, .ref e, .ref d'], (.root n ep tr [47 + d % 2] pl er bd), rfl, sX, h3, fun H' t sm ht => ?_, ⟨by simp, by omega, by omega, by omega⟩, ?_⟩
          · have sY := Same.trans sX sm
            exact root_c ht (dp_same sY _ _ htr) (SqT.of (sm _ _ hw)) (same_tup sY hP) (same_tup sY hE) (same_tup sY hB)
          · have el : decide (48 < ([47 + d % 2] : List Int).length) = false := rfl
            simp only [fC, below_cons', below_append', below_nil', el, t48, e1, e2, e3, e4, b1, b2, b3, b4, b5, b6, b7, Bool.or_false, Bool.not_false, Bool.true_and, Bool.and_true]
        walk_at "go"
        refine i_kIfd (fun k5 => ?_) (fun k5 => ?_)
        · walk_at "go"
          refine a_tup (sz (by simp)) fun w1 H2 sm2 n2 h2 => ?_
          have nw := ne_of_none h1 n2
          walk_at "go"
          refine a_setV 5 (sm2 _ _ h1) (by omega) (by simp) fun H3 k3 h3 => ?_
          have hw := k3 _ _ nw.symm h2
          have sX := same_mut nP (Same.trans sm1 sm2) k3
          walk_at "go"
          refine ⟨[.str "root", .int n, .int ep, tt, .ref j, .ref w1, .ref e, .ref d'], (.root n ep tr jr [none, some (47 + d % 2)] er bd), rfl, sX, h3, fun H' t sm ht => ?_, ⟨by omega, by simp, by omega, by omega⟩, ?_⟩
          · have sY := Same.trans sX sm
            exact root_c ht (dp_same sY _ _ htr) (same_tup sY hJ) (SqT.of (sm _ _ hw)) (same_tup sY hE) (same_tup sY hB)
          · have el : decide (48 < ([none, some (47 + d % 2)] : List (Option Int)).length) = false := rfl
            have en : named [none, some (47 + d % 2)] = [47 + d % 2] := rfl
            simp only [fC, below_cons', below_append', below_nil', el, en, t48, e1, e2, e3, e4, b1, b2, b3, b4, b5, b6, b7, Bool.or_false, Bool.not_false, Bool.true_and, Bool.and_true]
        walk_at "go"
        refine i_kIfd (fun k6 => ?_) (fun k6 => ?_)
        · walk_at "go"
          refine a_tup (sz (by simp)) fun w1 H2 sm2 n2 h2 => ?_
          have nw := ne_of_none h1 n2
          walk_at "go"
          refine a_setV 6 (sm2 _ _ h1) (by omega) (by simp) fun H3 k3 h3 => ?_
          have hw := k3 _ _ nw.symm h2
          have sX := same_mut nP (Same.trans sm1 sm2) k3
          walk_at "go"
          refine ⟨[.str "root", .int n, .int ep, tt, .ref j, .ref u, .ref w1, .ref d'], (.root n ep tr jr pl [0, 4294967295 + d % 2] bd), rfl, sX, h3, fun H' t sm ht => ?_, ⟨by omega, by omega, by simp, by omega⟩, ?_⟩
          · have sY := Same.trans sX sm
            exact root_c ht (dp_same sY _ _ htr) (same_tup sY hJ) (same_tup sY hP) (SqT.of (sm _ _ hw)) (same_tup sY hB)
          · have el : decide (48 < ([0, 4294967295 + d % 2] : List Int).length) = false := rfl
            simp only [fC, below_cons', below_append', below_nil', el, t32, g6, e1, e2, e3, e4, b1, b2, b3, b4, b5, b6, b7, Bool.or_false, Bool.not_false, Bool.true_and, Bool.and_true]
        walk_at "go"
        refine i_kIfd (fun k7 => ?_) (fun k7 => ?_)
        · walk_at "go"
          refine a_tup (sz (by simp)) fun w1 H2 sm2 n2 h2 => ?_
          have nw := ne_of_none h1 n2
          walk_at "go"
          refine a_setV 7 (sm2 _ _ h1) (by omega) (by simp) fun H3 k3 h3 => ?_
          have hw := k3 _ _ nw.symm h2
          have sX := same_mut nP (Same.trans sm1 sm2) k3
          walk_at "go"
          refine ⟨[.str "root", .int n, .int ep, tt, .ref j, .ref u, .ref e, .ref w1], (.root n ep tr jr pl er [47 + d % 2]), rfl, sX, h3, fun H' t sm ht => ?_, ⟨by omega, by omega, by omega, by simp⟩, ?_⟩
          · have sY := Same.trans sX sm
            exact root_c ht (dp_same sY _ _ htr) (same_tup sY hJ) (same_tup sY hP) (same_tup sY hE) (SqT.of (sm _ _ hw))
          · have el : decide (48 < ([47 + d % 2] : List Int).length) = false := rfl
            simp only [fC, below_cons', below_append', below_nil', el, t48, e1, e2, e3, e4, b1, b2, b3, b4, b5, b6, b7, Bool.or_false, Bool.not_false, Bool.true_and, Bool.and_true]
        walk_at "go"
        refine a_tup (sz (by simp)) fun w0 H0 sm0 n0 h0 => ?_
        walk_at "go"
        refine a_repT (SqT.of h0) (by omega) (by omega) fun w1 H2 sm2 n2 h2 => ?_
        have h10 := sm0 _ _ h1
        have nw := ne_of_none h10 n2
        have lr : (List.replicate (48 + d % 2).toNat (5 : Int)).length = (48 + d % 2).toNat := List.length_replicate
        have el : (!decide (48 < (48 + d % 2).toNat)) = decide (d % 2 = 0) := by
          rcases hov with h | h
          · rw [h]; rfl
          · rw [h]; rfl
        walk_at "go"
        rcases (show d / 20 % 4 = 0 ∨ d / 20 % 4 = 1 ∨ d / 20 % 4 = 2 ∨ d / 20 % 4 = 3 by omega) with kk | kk | kk | kk
        · refine a_setV 4 (sm2 _ _ h10) (by omega) (by simp) fun H3 k3 h3 => ?_
          have hw := k3 _ _ nw.symm h2
          have sX := same_mut nP (Same.trans sm1 (Same.trans sm0 sm2)) k3
          walk_at "go"
          refine ⟨[.str "root", .int n, .int ep, tt, .ref w1, .ref u, .ref e, .ref d'], (.root n ep tr (List.replicate (48 + d % 2).toNat 5) pl er bd), rfl, sX, h3, fun H' t sm ht => ?_, ⟨by rw [List.length_replicate]; omega, by omega, by omega, by omega⟩, ?_⟩
          · have sY := Same.trans sX sm
            exact root_c ht (dp_same sY _ _ htr) (SqT.of (sm _ _ hw)) (same_tup sY hP) (same_tup sY hE) (same_tup sY hB)
          · simp only [fC, below_cons', below_append', List.length_replicate, below_rep' 48 5 _ g7, below_rep' 4294967296 5 _ g8, e1, e2, e3, e4, b1, b2, b3, b4, b5, b6, b7, Bool.or_false, Bool.false_or, Bool.true_and, Bool.and_true]
            exact el
        · refine a_setV 5 (sm2 _ _ h10) (by omega) (by simp) fun H3 k3 h3 => ?_
          have hw := k3 _ _ nw.symm h2
          have sX := same_mut nP (Same.trans sm1 (Same.trans sm0 sm2)) k3
          walk_at "go"
          refine ⟨[.str "root", .int n, .int ep, tt, .ref j, .ref w1, .ref e, .ref d'], (.root n ep tr jr (List.replicate (48 + d % 2).toNat (some 5)) er bd), rfl, sX, h3, fun H' t sm ht => ?_, ⟨by omega, by rw [List.length_replicate]; omega, by omega, by omega⟩, ?_⟩
          · have sY := Same.trans sX sm
            exact root_c ht (dp_same sY _ _ htr) (same_tup sY hJ) (by rw [List.map_replicate]; rw [List.map_replicate] at hw; exact SqT.of (sm _ _ hw)) (same_tup sY hE) (same_tup sY hB)
          · have en : named (List.replicate (48 + d % 2).toNat (some 5)) = List.replicate (48 + d % 2).toNat 5 := named_rep _ _
            simp only [fC, below_cons', below_append', List.length_replicate, en, below_rep' 48 5 _ g7, e1, e2, e3, e4, b1, b2, b3, b4, b5, b6, b7, Bool.or_false, Bool.false_or, Bool.true_and, Bool.and_true]
            exact el
        · refine a_setV 6 (sm2 _ _ h10) (by omega) (by simp) fun H3 k3 h3 => ?_
          have hw := k3 _ _ nw.symm h2
          have sX := same_mut nP (Same.trans sm1 (Same.trans sm0 sm2)) k3
          walk_at "go"
          refine ⟨[.str "root", .int n, .int ep, tt, .ref j, .ref u, .ref w1, .ref d'], (.root n ep tr jr pl (List.replicate (48 + d % 2).toNat 5) bd), rfl, sX, h3, fun H' t sm ht => ?_, ⟨by omega, by omega, by rw [List.length_replicate]; omega, by omega⟩, ?_⟩
          · have sY := Same.trans sX sm
            exact root_c ht (dp_same sY _ _ htr) (same_tup sY hJ) (same_tup sY hP) (SqT.of (sm _ _ hw)) (same_tup sY hB)
          · simp only [fC, below_cons', below_append', List.length_replicate, below_rep' 48 5 _ g7, below_rep' 4294967296 5 _ g8, e1, e2, e3, e4, b1, b2, b3, b4, b5, b6, b7, Bool.or_false, Bool.false_or, Bool.true_and, Bool.and_true]
            exact el
        · refine a_setV 7 (sm2 _ _ h10) (by omega) (by simp) fun H3 k3 h3 => ?_
          have hw := k3 _ _ nw.symm h2
          have sX := same_mut nP (Same.trans sm1 (Same.trans sm0 sm2)) k3
          walk_at "go"
          refine ⟨[.str "root", .int n, .int ep, tt, .ref j, .ref u, .ref e, .ref w1], (.root n ep tr jr pl er (List.replicate (48 + d % 2).toNat 5)), rfl, sX, h3, fun H' t sm ht => ?_, ⟨by omega, by omega, by omega, by rw [List.length_replicate]; omega⟩, ?_⟩
          · have sY := Same.trans sX sm
            exact root_c ht (dp_same sY _ _ htr) (same_tup sY hJ) (same_tup sY hP) (same_tup sY hE) (SqT.of (sm _ _ hw))
          · simp only [fC, below_cons', below_append', List.length_replicate, below_rep' 48 5 _ g7, below_rep' 4294967296 5 _ g8, e1, e2, e3, e4, b1, b2, b3, b4, b5, b6, b7, Bool.or_false, Bool.false_or, Bool.true_and, Bool.and_true]
            exact el
      rintro σ' H2 ⟨xs, c', rfl, smM, hPM, hpa, hz', hf'⟩
      walk_at "go"
      refine a_tupL (SqL.of hPM) fun t H3 sm3 n3 h3 => ?_
      exact q H3 _ c' (Same.trans smM sm3) (hpa H3 t sm3 (SqT.of h3)) hz' hf'
def sp__law_has_body (K : PySem.W.Frag) : Sp := fun vs H Q _ => ∃ (v : V) (c : Cont), vs = [v] ∧ Dp K H v (dC c) ∧ szC c ∧ ∀ H', Same H H' → Q (.bl (fC c)) H'
set_option maxHeartbeats 20000000 in
theorem ok__law_has_body (T : Txt w K mg a) : FnOk P w K mg base CX0 6 a.f__law_has_body a.d__law_has_body ["content"] (sp__law_has_body K) := by
  refine T.F__law_has_body.ok sc__law_has_body (fun vs H Q E h => ?_) (fun cdv A outer s H vs Q E hr h => ?_)
  · obtain ⟨v, c, rfl, hD, hz, q⟩ := h
    rfl
  · obtain ⟨v, c, rfl, hD, hz, q⟩ := h
    refine ⟨_, (pss_cons (ps_try_only (tb := fun W => tDrop (tCallS (sp_content_body K a.k_InvalidContent) (WE W) (tCons (tVar 0) tNil))) (ts := fun _ _ _ => tRet (tC (.bl false))) (Wout := fun _ _ _ _ => False) rfl rfl ⟨rfl, by decide, Or.inl T.g_InvalidContent⟩ takes0 (fun W pn xe tk _ => (pss_one (ps_expr (pe_callS (ok_content_body (K := K) T) (hr.mono (by decide)) (by rfl) T.g_content_body T.F_content_body.kp T.b_content_body (fun σ => passAt tk σ) (by exact (pa_cons (pv 0) pa_nil)))))) (fun _ _ _ _ _ _ _ => (pss_one (ps_ret pe_bl))))
        (pss_one (ps_ret pe_bl))), ?_⟩
    refine i_st (σ' := [some (v)]) rfl ?_
    walk_at "go"
    refine ⟨v, c, rfl, hD, hz, fun hf H1 p1 sm1 n1 h1 => ?_, fun hf H1 sm1 => ?_⟩
    · walk_at "go"
      rw [← hf]; exact q H1 sm1
    · refine i_wOnly T.e_InvalidContent fun a0 ha0 => ?_
      walk_at "go"
      rw [← hf]; exact q H1 sm1
def sp_law (K : PySem.W.Frag) : Sp := fun vs H Q _ => ∃ (b : Addr) (ns : List Int), vs = [.ref b] ∧ SqL K H b (ns.map V.int) ∧ ns.length ≤ 63 ∧ ∀ H', Q (.bl true) H'
theorem law_start {K : PySem.W.Frag} {H : Hp} {b : Addr} {ns : List Int} (hl : ns.length ≤ 63) (hO : Only H) (hS : SqL K H b (ns.map V.int)) : sp_law K [.ref b] H (fun v _ => v = .bl true) (fun _ _ _ => False) := ⟨b, ns, rfl, hS, hl, fun _ => rfl⟩
set_option maxHeartbeats 20000000 in
theorem ok_law (T : Txt w K mg a) : FnOk P w K mg base CX0 7 a.f_law a.d_law ["script"] (sp_law K) := by
  refine T.F_law.ok sc_law (fun vs H Q E h => ?_) (fun cdv A outer s H vs Q E hr h => ?_)
  · obtain ⟨b, ns, rfl, hS, hlen, q⟩ := h
    rfl
  · obtain ⟨b, ns, rfl, hS, hlen, q⟩ := h
    refine ⟨_, (pss_cons (ps_set (i := 1) sc_law.nd rfl (.inl rfl) (pe_call (ok__law_draws (K := K) T) (hr.mono (by decide)) (by rfl) T.g__law_draws T.F__law_draws.kp T.b__law_draws .nil pass0 (pa_cons (pv 0) (pa_cons pe_int pa_nil))))
        (pss_cons (ps_set (i := 2) sc_law.nd rfl (.inl rfl) (pe_call (ok__law_content (K := K) T) (hr.mono (by decide)) (by rfl) T.g__law_content T.F__law_content.kp T.b__law_content .nil pass0 (pa_cons (pe_ix (q_ixl (K := K)) (pv 1) pe_int (fun _ _ => rfl)) (pa_cons (pe_ix (q_ixl (K := K)) (pv 1) pe_int (fun _ _ => rfl)) pa_nil))))
        (pss_cons (ps_if (PW.pt (pw_or (pt_cmpR o_isnotB (pe_call (ok_fits_page (K := K) T) (hr.mono (by decide)) (by rfl) T.g_fits_page T.F_fits_page.kp T.b_fits_page .nil pass0 (pa_cons (pv 2) pa_nil)) pe_bl (nomark _)) (pw_or1 (pt_not (pt_val (pe_call (ok__law_has_body (K := K) T) (hr.mono (by decide)) (by rfl) T.g__law_has_body T.F__law_has_body.kp T.b__law_has_body .nil pass0 (pa_cons (pv 2) pa_nil))))))) (pss_one (ps_ret pe_bl)) pss_nil)
        (pss_cons (ps_for PassesOwn.never rfl (q_pil (K := K) (pe_slice (q_sll (K := K)) (pv 1) (po_some pe_int) po_none)) (pg_name (i := 3) sc_law.nd rfl (.inl rfl)) (pss_cons (ps_set (i := 4) sc_law.nd rfl (.inl rfl) (pe_call (ok__law_changed (K := K) T) (hr.mono (by decide)) (by rfl) T.g__law_changed T.F__law_changed.kp T.b__law_changed .nil pass0 (pa_cons (pv 2) (pa_cons (pv 3) pa_nil))))
        (pss_cons (ps_set (i := 5) sc_law.nd rfl (.inl rfl) (pe_cmpR op_eq (pe_op op_mod (pv 3) pe_int) pe_int (nomark _)))
        (pss_one (ps_if (PW.pt (pw_or (pt_cmpR op_ne (pe_call (ok_fits_page (K := K) T) (hr.mono (by decide)) (by rfl) T.g_fits_page T.F_fits_page.kp T.b_fits_page .nil pass0 (pa_cons (pv 4) pa_nil)) (pv 5) (nomark _)) (pw_or1 (pt_cmpR op_ne (pe_call (ok__law_has_body (K := K) T) (hr.mono (by decide)) (by rfl) T.g__law_has_body T.F__law_has_body.kp T.b__law_has_body .nil pass0 (pa_cons (pv 4) pa_nil)) (pv 5) (nomark _))))) (pss_one (ps_ret pe_bl)) pss_nil)))))
        (pss_one (ps_ret pe_bl)))))), ?_⟩
    refine i_st (σ' := [some (.ref b), none, none, none, none, none]) rfl ?_
    walk_at "go"
    refine ⟨b, ns, 8, rfl, hS, by decide, by decide, fun H1 p ds sm np hp hl hd => ?_⟩
    have gd := getD_nn hd
    have hl' : ds.length = 8 := hl
    have hpS : SqL K H1 p (ds.map V.int) := SqL.of hp
    walk_at "go"
    refine ⟨_, _, rfl, gd 0, gd 1, fun v c H2 sm2 hD hf hz => ?_⟩
    walk_at "go"
    refine ⟨_, c, rfl, hD, hz, fun H3 sm3 => ?_⟩
    rw [hf]
    walk_at "go"
    rw [show decide (true = true) = true from rfl]
    rw [Bool.not_true]
    walk_at "go"
    refine ⟨_, c, rfl, dp_same sm3 _ _ hD, hz, fun H4 sm4 => ?_⟩
    rw [hf]
    walk_at "go"
    have sm24 := Same.trans sm3 sm4
    have hp4 := sm24 _ _ (sm2 _ _ hp)
    refine i_slF 2 (SqL.of hp4) fun t ht => ?_
    walk_at "go"
    refine i_forL ((ds.drop 2).map V.int) (fun i σ' H' => Same (upd H4 t (.lst ((ds.drop 2).map V.int))) H' ∧ ∃ y3 y4 y5 : Option V, σ' = [some (.ref b), some (.ref p), some (.ref v), y3, y4, y5]) ⟨Same.refl _, none, none, none, rfl⟩ ?_ ?_ ?_
    · rintro i σ' H' _ ⟨sm', _⟩
      exact SqL.of (sm' _ _ upd_same)
    · rintro i x σ' H' hx ⟨sm', y3, y4, y5, rfl⟩
      obtain ⟨z, hz', rfl⟩ := map_at hx
      have z0 := hd z (List.mem_of_mem_drop (List.mem_of_getElem? hz'))
      have hD' := dp_same (Same.trans sm24 (Same.trans (same_upd ht) sm')) _ _ hD
      walk_at "go"
      refine ⟨_, c, z, rfl, hD', hz, hf, z0, fun H5 v5 c5 sm5 hD5 hz5 hf5 => ?_⟩
      walk_at "go"
      refine ⟨_, c5, rfl, hD5, hz5, fun H6 sm6 => ?_⟩
      rw [hf5]
      walk_at "go"
      rw [decide_eq_true rfl, Bool.not_true]
      walk_at "go"
      refine ⟨_, c5, rfl, dp_same sm6 _ _ hD5, hz5, fun H7 sm7 => ?_⟩
      rw [hf5]
      walk_at "go"
      rw [decide_eq_true rfl]
      walk_at "go"
      exact ⟨Same.trans sm' (Same.trans sm5 (Same.trans sm6 sm7)), _, _, _, rfl⟩
    rintro σ' H' ⟨sm', y3, y4, y5, rfl⟩
    walk_at "go"
    exact q _
end
/-! ### what the top has left -/
theorem all_facts {w : World} {K : PySem.W.Frag} {h : Heap} {mg : Str → Option Value} {fa : Addr} (X : K.In h) (G : h.Ns mainGlobals mg) (hfa : mg "law" = some (.ref fa))
    {od0 an0 : Option Addr} {sl0 : Array (Option Value)} {oc0 kV0 dc0 pm0 cd0 ct0 : Value} {f0 : Addr}
    {od1 an1 : Option Addr} {sl1 : Array (Option Value)} {oc1 kV1 dc1 pm1 cd1 ct1 : Value} {f1 : Addr}
    {od2 an2 : Option Addr} {sl2 : Array (Option Value)} {oc2 kV2 dc2 pm2 cd2 ct2 : Value} {f2 : Addr}
    {od3 an3 : Option Addr} {sl3 : Array (Option Value)} {oc3 kV3 dc3 pm3 cd3 ct3 : Value} {f3 : Addr}
    {od4 an4 : Option Addr} {sl4 : Array (Option Value)} {oc4 kV4 dc4 pm4 cd4 ct4 : Value} {f4 : Addr}
    {od5 an5 : Option Addr} {sl5 : Array (Option Value)} {oc5 kV5 dc5 pm5 cd5 ct5 : Value} {f5 : Addr}
    {od6 an6 : Option Addr} {sl6 : Array (Option Value)} {oc6 kV6 dc6 pm6 cd6 ct6 : Value} {f6 : Addr}
    {od7 an7 : Option Addr} {sl7 : Array (Option Value)} {oc7 kV7 dc7 pm7 cd7 ct7 : Value} {f7 : Addr}
    {od8 an8 : Option Addr} {sl8 : Array (Option Value)} {oc8 kV8 dc8 pm8 cd8 ct8 : Value} {f8 : Addr}
    {od9 an9 : Option Addr} {sl9 : Array (Option Value)} {oc9 kV9 dc9 pm9 cd9 ct9 : Value} {f9 : Addr}
    {od10 an10 : Option Addr} {sl10 : Array (Option Value)} {oc10 kV10 dc10 pm10 cd10 ct10 : Value} {f10 : Addr}
    {od11 an11 : Option Addr} {sl11 : Array (Option Value)} {oc11 kV11 dc11 pm11 cd11 ct11 : Value} {f11 : Addr}
    {od12 an12 : Option Addr} {sl12 : Array (Option Value)} {oc12 kV12 dc12 pm12 cd12 ct12 : Value} {f12 : Addr}
    {od13 an13 : Option Addr} {sl13 : Array (Option Value)} {oc13 kV13 dc13 pm13 cd13 ct13 : Value} {f13 : Addr}
    {od14 an14 : Option Addr} {sl14 : Array (Option Value)} {oc14 kV14 dc14 pm14 cd14 ct14 : Value} {f14 : Addr}
    {od15 an15 : Option Addr} {sl15 : Array (Option Value)} {oc15 kV15 dc15 pm15 cd15 ct15 : Value} {f15 : Addr}
    {od16 an16 : Option Addr} {sl16 : Array (Option Value)} {oc16 kV16 dc16 pm16 cd16 ct16 : Value} {f16 : Addr}
    {od17 an17 : Option Addr} {sl17 : Array (Option Value)} {oc17 kV17 dc17 pm17 cd17 ct17 : Value} {f17 : Addr}
    {od18 an18 : Option Addr} {sl18 : Array (Option Value)} {oc18 kV18 dc18 pm18 cd18 ct18 : Value} {f18 : Addr}
    {od19 an19 : Option Addr} {sl19 : Array (Option Value)} {oc19 kV19 dc19 pm19 cd19 ct19 : Value} {f19 : Addr}
    {od20 an20 : Option Addr} {sl20 : Array (Option Value)} {oc20 kV20 dc20 pm20 cd20 ct20 : Value} {f20 : Addr}
    {od21 an21 : Option Addr} {sl21 : Array (Option Value)} {oc21 kV21 dc21 pm21 cd21 ct21 : Value} {f21 : Addr}
    {od22 an22 : Option Addr} {sl22 : Array (Option Value)} {oc22 kV22 dc22 pm22 cd22 ct22 : Value} {f22 : Addr}
    {C_InvalidContent : Addr}
    (aX_InvalidContent : PySem.W.nsIn K mainGlobals "InvalidContent" = some (some (.ref C_InvalidContent)))
    (xX_InvalidContent : PySem.W.excIn K C_InvalidContent [.type "ValueError", .type "Exception", .type "BaseException", .type "object"] "ValueError.__new__" = true) (kX_InvalidContent : PySem.W.keepIn K (.ref C_InvalidContent) = true) (bX_InvalidContent : PySem.W.subIn K (.ref C_InvalidContent) (.type "BaseException") = some true) (tX_InvalidContent : PySem.W.typeIn K (.ref C_InvalidContent) = some (.type "type")) (iX_InvalidContent : PySem.W.isClsIn K C_InvalidContent = true) (sX_InvalidContent : PySem.W.subIn K (.ref C_InvalidContent) (.ref C_InvalidContent) = some true)
    {u_NUMBER_BOUND : Value}
    {u_BLOCK_BOUND : Value}
    {u_MOST_ENTRIES : Value}
    {u_NODE_CHILDREN : Value}
    {u_LEVEL_BOUND : Value}
    {u_OCTET_BOUND : Value}
    {u_MOST_OCTETS : Value}
    {u_PAGE_BOUND : Value}
    {u_NO_BLOCK : Value}
    {u_NO_ADDRESS : Addr} {oc_NO_ADDRESS : Value} {od_NO_ADDRESS : Option Addr} {ot_NO_ADDRESS : Array Value} {on_NO_ADDRESS : Nat} {os_NO_ADDRESS : Array (Option Value)}
    (a0 : PySem.W.nsIn K mainGlobals "number_row" = some (some (.ref f0)))
    (l0 : K.lookup f0 = some ⟨oc0, od0, .func (PySem.W.fnOf "number_row" "number_row" (defArgs s_number_row) (defBody s_number_row) (defScope s_number_row) .none kV0 dc0 pm0 an0 cd0 ct0), sl0⟩)
    (c0 : PySem.W.codeIn K cd0 "number_row" = true) (k0 : PySem.W.keepIn K (.ref f0) = true)
    (a1 : PySem.W.nsIn K mainGlobals "fits_page" = some (some (.ref f1)))
    (l1 : K.lookup f1 = some ⟨oc1, od1, .func (PySem.W.fnOf "fits_page" "fits_page" (defArgs s_fits_page) (defBody s_fits_page) (defScope s_fits_page) .none kV1 dc1 pm1 an1 cd1 ct1), sl1⟩)
    (c1 : PySem.W.codeIn K cd1 "fits_page" = true) (k1 : PySem.W.keepIn K (.ref f1) = true)
    (a2 : PySem.W.nsIn K mainGlobals "_fits_root" = some (some (.ref f2)))
    (l2 : K.lookup f2 = some ⟨oc2, od2, .func (PySem.W.fnOf "_fits_root" "_fits_root" (defArgs s__fits_root) (defBody s__fits_root) (defScope s__fits_root) .none kV2 dc2 pm2 an2 cd2 ct2), sl2⟩)
    (c2 : PySem.W.codeIn K cd2 "_fits_root" = true) (k2 : PySem.W.keepIn K (.ref f2) = true)
    (a3 : PySem.W.nsIn K mainGlobals "_fits_item" = some (some (.ref f3)))
    (l3 : K.lookup f3 = some ⟨oc3, od3, .func (PySem.W.fnOf "_fits_item" "_fits_item" (defArgs s__fits_item) (defBody s__fits_item) (defScope s__fits_item) .none kV3 dc3 pm3 an3 cd3 ct3), sl3⟩)
    (c3 : PySem.W.codeIn K cd3 "_fits_item" = true) (k3 : PySem.W.keepIn K (.ref f3) = true)
    (a4 : PySem.W.nsIn K mainGlobals "_fits_node" = some (some (.ref f4)))
    (l4 : K.lookup f4 = some ⟨oc4, od4, .func (PySem.W.fnOf "_fits_node" "_fits_node" (defArgs s__fits_node) (defBody s__fits_node) (defScope s__fits_node) .none kV4 dc4 pm4 an4 cd4 ct4), sl4⟩)
    (c4 : PySem.W.codeIn K cd4 "_fits_node" = true) (k4 : PySem.W.keepIn K (.ref f4) = true)
    (a5 : PySem.W.nsIn K mainGlobals "_fits_value" = some (some (.ref f5)))
    (l5 : K.lookup f5 = some ⟨oc5, od5, .func (PySem.W.fnOf "_fits_value" "_fits_value" (defArgs s__fits_value) (defBody s__fits_value) (defScope s__fits_value) .none kV5 dc5 pm5 an5 cd5 ct5), sl5⟩)
    (c5 : PySem.W.codeIn K cd5 "_fits_value" = true) (k5 : PySem.W.keepIn K (.ref f5) = true)
    (a6 : PySem.W.nsIn K mainGlobals "_fits_address" = some (some (.ref f6)))
    (l6 : K.lookup f6 = some ⟨oc6, od6, .func (PySem.W.fnOf "_fits_address" "_fits_address" (defArgs s__fits_address) (defBody s__fits_address) (defScope s__fits_address) .none kV6 dc6 pm6 an6 cd6 ct6), sl6⟩)
    (c6 : PySem.W.codeIn K cd6 "_fits_address" = true) (k6 : PySem.W.keepIn K (.ref f6) = true)
    (a7 : PySem.W.nsIn K mainGlobals "_are_below" = some (some (.ref f7)))
    (l7 : K.lookup f7 = some ⟨oc7, od7, .func (PySem.W.fnOf "_are_below" "_are_below" (defArgs s__are_below) (defBody s__are_below) (defScope s__are_below) .none kV7 dc7 pm7 an7 cd7 ct7), sl7⟩)
    (c7 : PySem.W.codeIn K cd7 "_are_below" = true) (k7 : PySem.W.keepIn K (.ref f7) = true)
    (a8 : PySem.W.nsIn K mainGlobals "content_body" = some (some (.ref f8)))
    (l8 : K.lookup f8 = some ⟨oc8, od8, .func (PySem.W.fnOf "content_body" "content_body" (defArgs s_content_body) (defBody s_content_body) (defScope s_content_body) .none kV8 dc8 pm8 an8 cd8 ct8), sl8⟩)
    (c8 : PySem.W.codeIn K cd8 "content_body" = true) (k8 : PySem.W.keepIn K (.ref f8) = true)
    (a9 : PySem.W.nsIn K mainGlobals "_root_body" = some (some (.ref f9)))
    (l9 : K.lookup f9 = some ⟨oc9, od9, .func (PySem.W.fnOf "_root_body" "_root_body" (defArgs s__root_body) (defBody s__root_body) (defScope s__root_body) .none kV9 dc9 pm9 an9 cd9 ct9), sl9⟩)
    (c9 : PySem.W.codeIn K cd9 "_root_body" = true) (k9 : PySem.W.keepIn K (.ref f9) = true)
    (a10 : PySem.W.nsIn K mainGlobals "_item_body" = some (some (.ref f10)))
    (l10 : K.lookup f10 = some ⟨oc10, od10, .func (PySem.W.fnOf "_item_body" "_item_body" (defArgs s__item_body) (defBody s__item_body) (defScope s__item_body) .none kV10 dc10 pm10 an10 cd10 ct10), sl10⟩)
    (c10 : PySem.W.codeIn K cd10 "_item_body" = true) (k10 : PySem.W.keepIn K (.ref f10) = true)
    (a11 : PySem.W.nsIn K mainGlobals "_node_body" = some (some (.ref f11)))
    (l11 : K.lookup f11 = some ⟨oc11, od11, .func (PySem.W.fnOf "_node_body" "_node_body" (defArgs s__node_body) (defBody s__node_body) (defScope s__node_body) .none kV11 dc11 pm11 an11 cd11 ct11), sl11⟩)
    (c11 : PySem.W.codeIn K cd11 "_node_body" = true) (k11 : PySem.W.keepIn K (.ref f11) = true)
    (a12 : PySem.W.nsIn K mainGlobals "_address_row" = some (some (.ref f12)))
    (l12 : K.lookup f12 = some ⟨oc12, od12, .func (PySem.W.fnOf "_address_row" "_address_row" (defArgs s__address_row) (defBody s__address_row) (defScope s__address_row) .none kV12 dc12 pm12 an12 cd12 ct12), sl12⟩)
    (c12 : PySem.W.codeIn K cd12 "_address_row" = true) (k12 : PySem.W.keepIn K (.ref f12) = true)
    (a13 : PySem.W.nsIn K mainGlobals "_law_draws" = some (some (.ref f13)))
    (l13 : K.lookup f13 = some ⟨oc13, od13, .func (PySem.W.fnOf "_law_draws" "_law_draws" (defArgs s__law_draws) (defBody s__law_draws) (defScope s__law_draws) .none kV13 dc13 pm13 an13 cd13 ct13), sl13⟩)
    (c13 : PySem.W.codeIn K cd13 "_law_draws" = true) (k13 : PySem.W.keepIn K (.ref f13) = true)
    (a14 : PySem.W.nsIn K mainGlobals "_law_number" = some (some (.ref f14)))
    (l14 : K.lookup f14 = some ⟨oc14, od14, .func (PySem.W.fnOf "_law_number" "_law_number" (defArgs s__law_number) (defBody s__law_number) (defScope s__law_number) .none kV14 dc14 pm14 an14 cd14 ct14), sl14⟩)
    (c14 : PySem.W.codeIn K cd14 "_law_number" = true) (k14 : PySem.W.keepIn K (.ref f14) = true)
    (a15 : PySem.W.nsIn K mainGlobals "_law_address" = some (some (.ref f15)))
    (l15 : K.lookup f15 = some ⟨oc15, od15, .func (PySem.W.fnOf "_law_address" "_law_address" (defArgs s__law_address) (defBody s__law_address) (defScope s__law_address) .none kV15 dc15 pm15 an15 cd15 ct15), sl15⟩)
    (c15 : PySem.W.codeIn K cd15 "_law_address" = true) (k15 : PySem.W.keepIn K (.ref f15) = true)
    (a16 : PySem.W.nsIn K mainGlobals "_law_place" = some (some (.ref f16)))
    (l16 : K.lookup f16 = some ⟨oc16, od16, .func (PySem.W.fnOf "_law_place" "_law_place" (defArgs s__law_place) (defBody s__law_place) (defScope s__law_place) .none kV16 dc16 pm16 an16 cd16 ct16), sl16⟩)
    (c16 : PySem.W.codeIn K cd16 "_law_place" = true) (k16 : PySem.W.keepIn K (.ref f16) = true)
    (a17 : PySem.W.nsIn K mainGlobals "_law_count" = some (some (.ref f17)))
    (l17 : K.lookup f17 = some ⟨oc17, od17, .func (PySem.W.fnOf "_law_count" "_law_count" (defArgs s__law_count) (defBody s__law_count) (defScope s__law_count) .none kV17 dc17 pm17 an17 cd17 ct17), sl17⟩)
    (c17 : PySem.W.codeIn K cd17 "_law_count" = true) (k17 : PySem.W.keepIn K (.ref f17) = true)
    (a18 : PySem.W.nsIn K mainGlobals "_law_octets" = some (some (.ref f18)))
    (l18 : K.lookup f18 = some ⟨oc18, od18, .func (PySem.W.fnOf "_law_octets" "_law_octets" (defArgs s__law_octets) (defBody s__law_octets) (defScope s__law_octets) .none kV18 dc18 pm18 an18 cd18 ct18), sl18⟩)
    (c18 : PySem.W.codeIn K cd18 "_law_octets" = true) (k18 : PySem.W.keepIn K (.ref f18) = true)
    (a19 : PySem.W.nsIn K mainGlobals "_law_content" = some (some (.ref f19)))
    (l19 : K.lookup f19 = some ⟨oc19, od19, .func (PySem.W.fnOf "_law_content" "_law_content" (defArgs s__law_content) (defBody s__law_content) (defScope s__law_content) .none kV19 dc19 pm19 an19 cd19 ct19), sl19⟩)
    (c19 : PySem.W.codeIn K cd19 "_law_content" = true) (k19 : PySem.W.keepIn K (.ref f19) = true)
    (a20 : PySem.W.nsIn K mainGlobals "_law_changed" = some (some (.ref f20)))
    (l20 : K.lookup f20 = some ⟨oc20, od20, .func (PySem.W.fnOf "_law_changed" "_law_changed" (defArgs s__law_changed) (defBody s__law_changed) (defScope s__law_changed) .none kV20 dc20 pm20 an20 cd20 ct20), sl20⟩)
    (c20 : PySem.W.codeIn K cd20 "_law_changed" = true) (k20 : PySem.W.keepIn K (.ref f20) = true)
    (a21 : PySem.W.nsIn K mainGlobals "_law_has_body" = some (some (.ref f21)))
    (l21 : K.lookup f21 = some ⟨oc21, od21, .func (PySem.W.fnOf "_law_has_body" "_law_has_body" (defArgs s__law_has_body) (defBody s__law_has_body) (defScope s__law_has_body) .none kV21 dc21 pm21 an21 cd21 ct21), sl21⟩)
    (c21 : PySem.W.codeIn K cd21 "_law_has_body" = true) (k21 : PySem.W.keepIn K (.ref f21) = true)
    (a22 : PySem.W.nsIn K mainGlobals "law" = some (some (.ref f22)))
    (l22 : K.lookup f22 = some ⟨oc22, od22, .func (PySem.W.fnOf "law" "law" (defArgs s_law) (defBody s_law) (defScope s_law) .none kV22 dc22 pm22 an22 cd22 ct22), sl22⟩)
    (c22 : PySem.W.codeIn K cd22 "law" = true) (k22 : PySem.W.keepIn K (.ref f22) = true)
    (z_list : PySem.W.nsIn K mainGlobals "list" = some none)
    (z_reversed : PySem.W.nsIn K mainGlobals "reversed" = some none)
    (z_range : PySem.W.nsIn K mainGlobals "range" = some none)
    (z_any : PySem.W.nsIn K mainGlobals "any" = some none)
    (z_len : PySem.W.nsIn K mainGlobals "len" = some none)
    (z_all : PySem.W.nsIn K mainGlobals "all" = some none)
    (z_int : PySem.W.nsIn K mainGlobals "int" = some none)
    (z_tuple : PySem.W.nsIn K mainGlobals "tuple" = some none)
    (e_NUMBER_BOUND : PySem.W.nsIn K mainGlobals "NUMBER_BOUND" = some (some u_NUMBER_BOUND))
    (e_BLOCK_BOUND : PySem.W.nsIn K mainGlobals "BLOCK_BOUND" = some (some u_BLOCK_BOUND))
    (e_MOST_ENTRIES : PySem.W.nsIn K mainGlobals "MOST_ENTRIES" = some (some u_MOST_ENTRIES))
    (e_NODE_CHILDREN : PySem.W.nsIn K mainGlobals "NODE_CHILDREN" = some (some u_NODE_CHILDREN))
    (e_LEVEL_BOUND : PySem.W.nsIn K mainGlobals "LEVEL_BOUND" = some (some u_LEVEL_BOUND))
    (e_OCTET_BOUND : PySem.W.nsIn K mainGlobals "OCTET_BOUND" = some (some u_OCTET_BOUND))
    (e_MOST_OCTETS : PySem.W.nsIn K mainGlobals "MOST_OCTETS" = some (some u_MOST_OCTETS))
    (e_PAGE_BOUND : PySem.W.nsIn K mainGlobals "PAGE_BOUND" = some (some u_PAGE_BOUND))
    (e_NO_BLOCK : PySem.W.nsIn K mainGlobals "NO_BLOCK" = some (some u_NO_BLOCK))
    (e_NO_ADDRESS : PySem.W.nsIn K mainGlobals "NO_ADDRESS" = some (some (.ref u_NO_ADDRESS))) (o_NO_ADDRESS : K.lookup u_NO_ADDRESS = some ⟨oc_NO_ADDRESS, od_NO_ADDRESS, .seq ot_NO_ADDRESS on_NO_ADDRESS, os_NO_ADDRESS⟩)
    (r_NUMBER_BOUND : RelV (V.int 4294967296) u_NUMBER_BOUND)
    (r_BLOCK_BOUND : RelV (V.int 48) u_BLOCK_BOUND)
    (r_MOST_ENTRIES : RelV (V.int 48) u_MOST_ENTRIES)
    (r_NODE_CHILDREN : RelV (V.int 32) u_NODE_CHILDREN)
    (r_LEVEL_BOUND : RelV (V.int 256) u_LEVEL_BOUND)
    (r_OCTET_BOUND : RelV (V.int 256) u_OCTET_BOUND)
    (r_MOST_OCTETS : RelV (V.int 448) u_MOST_OCTETS)
    (r_PAGE_BOUND : RelV (V.int 32) u_PAGE_BOUND)
    (r_NO_BLOCK : RelV (V.int 255) u_NO_BLOCK)
    (r1_NO_ADDRESS : oc_NO_ADDRESS = .type "tuple") (r2_NO_ADDRESS : ot_NO_ADDRESS.size ≤ sizeLine) (r3_NO_ADDRESS : Vals [V.int 255, V.int 255] ot_NO_ADDRESS.toList) :
    ∃ fd : FuncData, (∀ (s : Shared) (v : Value), BindsTo s fd ⟨[v], []⟩ [("script", v)]) ∧ ∀ {P : Program} (base : Heap), FnOk P w K mg base CX0 7 fa fd ["script"] (sp_law K) := by
  have e := hfa.symm.trans (PySem.W.mg_of X G a22)
  cases e
  have F0 := fun_mk (st := s_number_row) l0 c0 k0
  have B0 := F0.binds (ps := ["number", "width"]) fun _ _ _ _ _ _ us hl => match us, hl with | [_, _], _ => rfl
  have F1 := fun_mk (st := s_fits_page) l1 c1 k1
  have B1 := F1.binds (ps := ["content"]) fun _ _ _ _ _ _ us hl => match us, hl with | [_], _ => rfl
  have F2 := fun_mk (st := s__fits_root) l2 c2 k2
  have B2 := F2.binds (ps := ["content"]) fun _ _ _ _ _ _ us hl => match us, hl with | [_], _ => rfl
  have F3 := fun_mk (st := s__fits_item) l3 c3 k3
  have B3 := F3.binds (ps := ["content"]) fun _ _ _ _ _ _ us hl => match us, hl with | [_], _ => rfl
  have F4 := fun_mk (st := s__fits_node) l4 c4 k4
  have B4 := F4.binds (ps := ["content"]) fun _ _ _ _ _ _ us hl => match us, hl with | [_], _ => rfl
  have F5 := fun_mk (st := s__fits_value) l5 c5 k5
  have B5 := F5.binds (ps := ["value"]) fun _ _ _ _ _ _ us hl => match us, hl with | [_], _ => rfl
  have F6 := fun_mk (st := s__fits_address) l6 c6 k6
  have B6 := F6.binds (ps := ["address"]) fun _ _ _ _ _ _ us hl => match us, hl with | [_], _ => rfl
  have F7 := fun_mk (st := s__are_below) l7 c7 k7
  have B7 := F7.binds (ps := ["numbers", "bound"]) fun _ _ _ _ _ _ us hl => match us, hl with | [_, _], _ => rfl
  have F8 := fun_mk (st := s_content_body) l8 c8 k8
  have B8 := F8.binds (ps := ["content"]) fun _ _ _ _ _ _ us hl => match us, hl with | [_], _ => rfl
  have F9 := fun_mk (st := s__root_body) l9 c9 k9
  have B9 := F9.binds (ps := ["content"]) fun _ _ _ _ _ _ us hl => match us, hl with | [_], _ => rfl
  have F10 := fun_mk (st := s__item_body) l10 c10 k10
  have B10 := F10.binds (ps := ["content"]) fun _ _ _ _ _ _ us hl => match us, hl with | [_], _ => rfl
  have F11 := fun_mk (st := s__node_body) l11 c11 k11
  have B11 := F11.binds (ps := ["content"]) fun _ _ _ _ _ _ us hl => match us, hl with | [_], _ => rfl
  have F12 := fun_mk (st := s__address_row) l12 c12 k12
  have B12 := F12.binds (ps := ["address"]) fun _ _ _ _ _ _ us hl => match us, hl with | [_], _ => rfl
  have F13 := fun_mk (st := s__law_draws) l13 c13 k13
  have B13 := F13.binds (ps := ["script", "count"]) fun _ _ _ _ _ _ us hl => match us, hl with | [_, _], _ => rfl
  have F14 := fun_mk (st := s__law_number) l14 c14 k14
  have B14 := F14.binds (ps := ["draw"]) fun _ _ _ _ _ _ us hl => match us, hl with | [_], _ => rfl
  have F15 := fun_mk (st := s__law_address) l15 c15 k15
  have B15 := F15.binds (ps := ["draw"]) fun _ _ _ _ _ _ us hl => match us, hl with | [_], _ => rfl
  have F16 := fun_mk (st := s__law_place) l16 c16 k16
  have B16 := F16.binds (ps := ["draw"]) fun _ _ _ _ _ _ us hl => match us, hl with | [_], _ => rfl
  have F17 := fun_mk (st := s__law_count) l17 c17 k17
  have B17 := F17.binds (ps := ["draw"]) fun _ _ _ _ _ _ us hl => match us, hl with | [_], _ => rfl
  have F18 := fun_mk (st := s__law_octets) l18 c18 k18
  have B18 := F18.binds (ps := ["draw", "count"]) fun _ _ _ _ _ _ us hl => match us, hl with | [_, _], _ => rfl
  have F19 := fun_mk (st := s__law_content) l19 c19 k19
  have B19 := F19.binds (ps := ["draw", "other"]) fun _ _ _ _ _ _ us hl => match us, hl with | [_, _], _ => rfl
  have F20 := fun_mk (st := s__law_changed) l20 c20 k20
  have B20 := F20.binds (ps := ["content", "draw"]) fun _ _ _ _ _ _ us hl => match us, hl with | [_, _], _ => rfl
  have F21 := fun_mk (st := s__law_has_body) l21 c21 k21
  have B21 := F21.binds (ps := ["content"]) fun _ _ _ _ _ _ us hl => match us, hl with | [_], _ => rfl
  have F22 := fun_mk (st := s_law) l22 c22 k22
  have B22 := F22.binds (ps := ["script"]) fun _ _ _ _ _ _ us hl => match us, hl with | [_], _ => rfl
  have T : Txt w K mg ⟨f0, _, f1, _, f2, _, f3, _, f4, _, f5, _, f6, _, f7, _, f8, _, f9, _, f10, _, f11, _, f12, _, f13, _, f14, _, f15, _, f16, _, f17, _, f18, _, f19, _, f20, _, f21, _, _, _, C_InvalidContent, u_NUMBER_BOUND, u_BLOCK_BOUND, u_MOST_ENTRIES, u_NODE_CHILDREN, u_LEVEL_BOUND, u_OCTET_BOUND, u_MOST_OCTETS, u_PAGE_BOUND, u_NO_BLOCK, .ref u_NO_ADDRESS, u_NO_ADDRESS⟩ := {
    F_number_row := F0
    b_number_row := B0
    g_number_row := PySem.W.mg_of X G a0
    F_fits_page := F1
    b_fits_page := B1
    g_fits_page := PySem.W.mg_of X G a1
    F__fits_root := F2
    b__fits_root := B2
    g__fits_root := PySem.W.mg_of X G a2
    F__fits_item := F3
    b__fits_item := B3
    g__fits_item := PySem.W.mg_of X G a3
    F__fits_node := F4
    b__fits_node := B4
    g__fits_node := PySem.W.mg_of X G a4
    F__fits_value := F5
    b__fits_value := B5
    g__fits_value := PySem.W.mg_of X G a5
    F__fits_address := F6
    b__fits_address := B6
    g__fits_address := PySem.W.mg_of X G a6
    F__are_below := F7
    b__are_below := B7
    g__are_below := PySem.W.mg_of X G a7
    F_content_body := F8
    b_content_body := B8
    g_content_body := PySem.W.mg_of X G a8
    F__root_body := F9
    b__root_body := B9
    g__root_body := PySem.W.mg_of X G a9
    F__item_body := F10
    b__item_body := B10
    g__item_body := PySem.W.mg_of X G a10
    F__node_body := F11
    b__node_body := B11
    g__node_body := PySem.W.mg_of X G a11
    F__address_row := F12
    b__address_row := B12
    g__address_row := PySem.W.mg_of X G a12
    F__law_draws := F13
    b__law_draws := B13
    g__law_draws := PySem.W.mg_of X G a13
    F__law_number := F14
    b__law_number := B14
    g__law_number := PySem.W.mg_of X G a14
    F__law_address := F15
    b__law_address := B15
    g__law_address := PySem.W.mg_of X G a15
    F__law_place := F16
    b__law_place := B16
    g__law_place := PySem.W.mg_of X G a16
    F__law_count := F17
    b__law_count := B17
    g__law_count := PySem.W.mg_of X G a17
    F__law_octets := F18
    b__law_octets := B18
    g__law_octets := PySem.W.mg_of X G a18
    F__law_content := F19
    b__law_content := B19
    g__law_content := PySem.W.mg_of X G a19
    F__law_changed := F20
    b__law_changed := B20
    g__law_changed := PySem.W.mg_of X G a20
    F__law_has_body := F21
    b__law_has_body := B21
    g__law_has_body := PySem.W.mg_of X G a21
    F_law := F22
    b_law := B22
    g_law := PySem.W.mg_of X G a22
    g_InvalidContent := PySem.W.mg_of X G aX_InvalidContent
    x_InvalidContent := xX_InvalidContent
    kp_InvalidContent := kX_InvalidContent
    bs_InvalidContent := bX_InvalidContent
    ty_InvalidContent := tX_InvalidContent
    e_InvalidContent := exm_own bX_InvalidContent iX_InvalidContent tX_InvalidContent sX_InvalidContent
    z_list := PySem.W.mg_none_of X G z_list
    z_reversed := PySem.W.mg_none_of X G z_reversed
    z_range := PySem.W.mg_none_of X G z_range
    z_any := PySem.W.mg_none_of X G z_any
    z_len := PySem.W.mg_none_of X G z_len
    z_all := PySem.W.mg_none_of X G z_all
    z_int := PySem.W.mg_none_of X G z_int
    z_tuple := PySem.W.mg_none_of X G z_tuple
    c_NUMBER_BOUND := ⟨PySem.W.mg_of X G e_NUMBER_BOUND, r_NUMBER_BOUND⟩
    c_BLOCK_BOUND := ⟨PySem.W.mg_of X G e_BLOCK_BOUND, r_BLOCK_BOUND⟩
    c_MOST_ENTRIES := ⟨PySem.W.mg_of X G e_MOST_ENTRIES, r_MOST_ENTRIES⟩
    c_NODE_CHILDREN := ⟨PySem.W.mg_of X G e_NODE_CHILDREN, r_NODE_CHILDREN⟩
    c_LEVEL_BOUND := ⟨PySem.W.mg_of X G e_LEVEL_BOUND, r_LEVEL_BOUND⟩
    c_OCTET_BOUND := ⟨PySem.W.mg_of X G e_OCTET_BOUND, r_OCTET_BOUND⟩
    c_MOST_OCTETS := ⟨PySem.W.mg_of X G e_MOST_OCTETS, r_MOST_OCTETS⟩
    c_PAGE_BOUND := ⟨PySem.W.mg_of X G e_PAGE_BOUND, r_PAGE_BOUND⟩
    c_NO_BLOCK := ⟨PySem.W.mg_of X G e_NO_BLOCK, r_NO_BLOCK⟩
    c_NO_ADDRESS := ⟨PySem.W.mg_of X G e_NO_ADDRESS, rfl⟩
    t_NO_ADDRESS := fun _ => .inr ⟨_, _, _, o_NO_ADDRESS, r1_NO_ADDRESS, rfl, r2_NO_ADDRESS, r3_NO_ADDRESS⟩
  }
  exact ⟨_, fun s v => .of_eq rfl, fun base => ok_law T⟩
end P07
open PySem PySem.W PyProof.Rows
set_option maxHeartbeats 0 in
theorem PySem.Challenge.cw_tidemark_k07_contents_that_fit_holds : PySem.Challenge.rw_tidemark_k07_contents_that_fit.Holds := by
  w_on; o_law; k_head; (case hw => w_witness2)
  k_fill
  refine L2.walk_ofK (l := PySem.Challenge.rw_tidemark_k07_contents_that_fit) (n := 63) (k := 7) (x := "script") (CX := L2.CX0) (sp := P07.sp_law) rfl (by decide) rfl ⟨rfl, by decide, by decide⟩ (fun w h Y => PySem.W.kIn_of Y) ?F (fun K H b ns hl hO hS => P07.law_start hl hO hS) (fun _ _ _ _ z => z)
  case F =>
    intro w mg fa h KX G hmg
    have q := @P07.all_facts
    obtain ⟨fd, h1, h2⟩ : ∃ fd : FuncData, (∀ (s : Shared) (v : Value), BindsTo s fd ⟨[v], []⟩ [("script", v)]) ∧ ∀ {P : Program} (base : Heap), L2.FnOk P w _ mg base L2.CX0 7 fa fd ["script"] (P07.sp_law _) := by
      refine' P07.all_facts (w := w) KX G hmg ?aX_InvalidContent ?xX_InvalidContent ?kX_InvalidContent ?bX_InvalidContent ?tX_InvalidContent ?iX_InvalidContent ?sX_InvalidContent ?a0 ?l0 ?c0 ?k0 ?a1 ?l1 ?c1 ?k1 ?a2 ?l2 ?c2 ?k2 ?a3 ?l3 ?c3 ?k3 ?a4 ?l4 ?c4 ?k4 ?a5 ?l5 ?c5 ?k5 ?a6 ?l6 ?c6 ?k6 ?a7 ?l7 ?c7 ?k7 ?a8 ?l8 ?c8 ?k8 ?a9 ?l9 ?c9 ?k9 ?a10 ?l10 ?c10 ?k10 ?a11 ?l11 ?c11 ?k11 ?a12 ?l12 ?c12 ?k12 ?a13 ?l13 ?c13 ?k13 ?a14 ?l14 ?c14 ?k14 ?a15 ?l15 ?c15 ?k15 ?a16 ?l16 ?c16 ?k16 ?a17 ?l17 ?c17 ?k17 ?a18 ?l18 ?c18 ?k18 ?a19 ?l19 ?c19 ?k19 ?a20 ?l20 ?c20 ?k20 ?a21 ?l21 ?c21 ?k21 ?a22 ?l22 ?c22 ?k22 ?z_list ?z_reversed ?z_range ?z_any ?z_len ?z_all ?z_int ?z_tuple ?e_NUMBER_BOUND ?e_BLOCK_BOUND ?e_MOST_ENTRIES ?e_NODE_CHILDREN ?e_LEVEL_BOUND ?e_OCTET_BOUND ?e_MOST_OCTETS ?e_PAGE_BOUND ?e_NO_BLOCK ?e_NO_ADDRESS ?o_NO_ADDRESS ?r_NUMBER_BOUND ?r_BLOCK_BOUND ?r_MOST_ENTRIES ?r_NODE_CHILDREN ?r_LEVEL_BOUND ?r_OCTET_BOUND ?r_MOST_OCTETS ?r_PAGE_BOUND ?r_NO_BLOCK ?r1_NO_ADDRESS ?r2_NO_ADDRESS ?r3_NO_ADDRESS
      (case aX_InvalidContent => k_is); (case xX_InvalidContent => k_exc); (case kX_InvalidContent => k_is); (case bX_InvalidContent => k_is); (case tX_InvalidContent => k_is); (case iX_InvalidContent => k_is)
      (case sX_InvalidContent => first | rfl | k_is); (case a0 => k_is); (case l0 => k_is); (case c0 => k_is); (case k0 => k_is); (case a1 => k_is)
      (case l1 => k_is); (case c1 => k_is); (case k1 => k_is); (case a2 => k_is); (case l2 => k_is); (case c2 => k_is)
      (case k2 => k_is); (case a3 => k_is); (case l3 => k_is); (case c3 => k_is); (case k3 => k_is); (case a4 => k_is)
      (case l4 => k_is); (case c4 => k_is); (case k4 => k_is); (case a5 => k_is); (case l5 => k_is); (case c5 => k_is)
      (case k5 => k_is); (case a6 => k_is); (case l6 => k_is); (case c6 => k_is); (case k6 => k_is); (case a7 => k_is)
      (case l7 => k_is); (case c7 => k_is); (case k7 => k_is); (case a8 => k_is); (case l8 => k_is); (case c8 => k_is)
      (case k8 => k_is); (case a9 => k_is); (case l9 => k_is); (case c9 => k_is); (case k9 => k_is); (case a10 => k_is)
      (case l10 => k_is); (case c10 => k_is); (case k10 => k_is); (case a11 => k_is); (case l11 => k_is); (case c11 => k_is)
      (case k11 => k_is); (case a12 => k_is); (case l12 => k_is); (case c12 => k_is); (case k12 => k_is); (case a13 => k_is)
      (case l13 => k_is); (case c13 => k_is); (case k13 => k_is); (case a14 => k_is); (case l14 => k_is); (case c14 => k_is)
      (case k14 => k_is); (case a15 => k_is); (case l15 => k_is); (case c15 => k_is); (case k15 => k_is); (case a16 => k_is)
      (case l16 => k_is); (case c16 => k_is); (case k16 => k_is); (case a17 => k_is); (case l17 => k_is); (case c17 => k_is)
      (case k17 => k_is); (case a18 => k_is); (case l18 => k_is); (case c18 => k_is); (case k18 => k_is); (case a19 => k_is)
      (case l19 => k_is); (case c19 => k_is); (case k19 => k_is); (case a20 => k_is); (case l20 => k_is); (case c20 => k_is)
      (case k20 => k_is); (case a21 => k_is); (case l21 => k_is); (case c21 => k_is); (case k21 => k_is); (case a22 => k_is)
      (case l22 => k_is); (case c22 => k_is); (case k22 => k_is); (case z_list => k_is); (case z_reversed => k_is); (case z_range => k_is)
      (case z_any => k_is); (case z_len => k_is); (case z_all => k_is); (case z_int => k_is); (case z_tuple => k_is); (case e_NUMBER_BOUND => k_is)
      (case e_BLOCK_BOUND => k_is); (case e_MOST_ENTRIES => k_is); (case e_NODE_CHILDREN => k_is); (case e_LEVEL_BOUND => k_is); (case e_OCTET_BOUND => k_is); (case e_MOST_OCTETS => k_is)
      (case e_PAGE_BOUND => k_is); (case e_NO_BLOCK => k_is); (case e_NO_ADDRESS => k_is); (case o_NO_ADDRESS => k_is); (case r_NUMBER_BOUND => exact ⟨_, rfl⟩); (case r_BLOCK_BOUND => exact ⟨_, rfl⟩)
      (case r_MOST_ENTRIES => exact ⟨_, rfl⟩); (case r_NODE_CHILDREN => exact ⟨_, rfl⟩); (case r_LEVEL_BOUND => exact ⟨_, rfl⟩); (case r_OCTET_BOUND => exact ⟨_, rfl⟩); (case r_MOST_OCTETS => exact ⟨_, rfl⟩); (case r_PAGE_BOUND => exact ⟨_, rfl⟩)
      (case r_NO_BLOCK => exact ⟨_, rfl⟩); (case r1_NO_ADDRESS => rfl); (case r2_NO_ADDRESS => decide); (case r3_NO_ADDRESS => repeat (first | exact .nil | refine .cons ⟨_, rfl⟩ ?_))
    exact ⟨fd, h1, fun base _ _ => h2 base⟩
