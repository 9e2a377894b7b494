import PyProof.Rows.All
import Wide.All
import OpenK.AllK
import Wide.FinOn
import HandS.ForMost
import HandS.Base
import HandS.Call
import HandS.List
import HandS.Comp
import HandS.Ends
import HandS.Dict
import HandS.Iter
import HandS.Text
import HandS.Words
import HandS.WordsList
import HandS.Codes
import HandS.Rev
import HandS.Conv
import HandS.TupAny
import HandS.SortInts
import HandS.Star
import HandS.TupLe
import HandS.ForExc
import HandS.TupMul
import HandS.FStr
import HandS.Small
import HandS.TryMany
import PySem.Challenge.RW_tidemark_k01_plans_of_chips
set_option Elab.async false
set_option linter.all false
set_option maxRecDepth 100000
/-! Tm: short steps over the readings, one lemma a reading; continuations by name. -/
namespace Tm
open PySem PySem.Spec PyProof.Rows L2
abbrev St := L2.St

/-! ### continuations by name -/
def kAsg (g : TG) (σ : St) (nx : St → Hp → Prop) : VK := fun x H => g x σ H nx
def kDrop (nx : St → Hp → Prop) (σ : St) : VK := fun _ H => nx σ H
def kIf (t u : TS) (D : Ends) (σ : St) : Bool → Hp → Prop := fun b H => if b = true then t D σ H else u D σ H
def kO2 (r : R2) (x : V) (Q : VK) : VK := fun y H => r x y H Q
def kO1 (r : R2) (tb : TE) (σ : St) (Q : VK) : VK := fun x H => tb σ H (kO2 r x Q)
def kU (r : V → Hp → VK → Prop) (Q : VK) : VK := fun x H => r x H Q
def kB (Q : Bool → Hp → Prop) : VK := fun x H => ∃ k, x = .bl k ∧ Q k H
def kAnd (u : TT) (σ : St) (Q : Bool → Hp → Prop) : Bool → Hp → Prop := fun c H => if c = true then u σ H Q else Q false H
def kOr (u : TT) (σ : St) (Q : Bool → Hp → Prop) : Bool → Hp → Prop := fun c H => if c = true then Q true H else u σ H Q
def kNot (Q : Bool → Hp → Prop) : Bool → Hp → Prop := fun c H => Q (!c) H
def kAndV (tb : TE) (σ : St) (Q : VK) : VK := fun x H => ∃ c, x = .bl c ∧ if c = true then tb σ H Q else Q (.bl false) H
def kOrV (tb : TE) (σ : St) (Q : VK) : VK := fun x H => ∃ c, x = .bl c ∧ if c = true then Q (.bl true) H else tb σ H Q
def kNotV (Q : VK) : VK := fun x H => ∃ c, x = .bl c ∧ Q (.bl (!c)) H
def kIfE (ta tb : TE) (σ : St) (Q : VK) : Bool → Hp → Prop := fun c H => if c = true then ta σ H Q else tb σ H Q
def kC3 (r' : R2) (y : V) (Q : VK) : VK := fun z H => r' y z H Q
def kC2' (r' : R2) (tc : TE) (σ : St) (y : V) (Q : VK) : VK := fun z H => ∃ k, z = .bl k ∧ (if k = true then tc σ H (kC3 r' y Q) else Q (.bl false) H)
def kC2 (r r' : R2) (tc : TE) (σ : St) (x : V) (Q : VK) : VK := fun y H => r x y H (kC2' r' tc σ y Q)
def kC1 (r r' : R2) (tb tc : TE) (σ : St) (Q : VK) : VK := fun x H => tb σ H (kC2 r r' tc σ x Q)
def kA2 (x : V) (Q : List V → Hp → Prop) : List V → Hp → Prop := fun xs H => Q (x :: xs) H
def kA1 (tr : TA) (σ : St) (Q : List V → Hp → Prop) : VK := fun x H => tr σ H (kA2 x Q)
def kTup (Q : VK) : List V → Hp → Prop := fun xs H => xs.length ≤ sizeLine ∧ ∀ p, H p = none → Q (.ref p) (upd H p (.tup xs))
def kLst (Q : VK) : List V → Hp → Prop := fun xs H => xs.length ≤ sizeLine ∧ ∀ p, H p = none → Q (.ref p) (upd H p (.lst xs))
def kCall (sp : Sp) (E : XK) (Q : VK) : List V → Hp → Prop := fun vs H => sp vs H Q E
def kM2 (sp : Sp) (x : V) (E : XK) (Q : VK) : List V → Hp → Prop := fun vs H => sp (x :: vs) H Q E
def kM1 (m : Str) (C : Addr) (sp : Sp) (E : XK) (t : TA) (σ : St) (Q : VK) : VK := fun x H => ∃ a dx fs, x = .ref a ∧ H a = some (.ins C dx fs) ∧ fs.lookup m = none ∧ t σ H (kM2 sp x E Q)
def kMk (C : Addr) (sp : Sp) (E : XK) (Q : VK) : List V → Hp → Prop := fun vs H => ∀ x dx, H x = none → H dx = none → dx ≠ x → sp (.ref x :: vs) (upd (upd H dx (.own x)) x (.ins C dx [])) (fun v H2 => v = .non ∧ Q (.ref x) H2) E
def kFld (K : PySem.W.Frag) (f : Str) (Q : VK) : VK := fun x H => ∃ a C dx fs v, x = .ref a ∧ H a = some (.ins C dx fs) ∧ Cls K C ∧ NoAttr K C f ∧ fs.lookup f = some v ∧ Q v H
def kSF2 (K : PySem.W.Frag) (f : Str) (y : V) (σ : St) (nx : St → Hp → Prop) : VK := fun x H => ∃ a C dx fs, x = .ref a ∧ H a = some (.ins C dx fs) ∧ Cls K C ∧ NoAttr K C f ∧ fs.length < 1000 ∧ nx σ (upd H a (.ins C dx (putF f y fs)))
def kSF1 (K : PySem.W.Frag) (ta : TE) (f : Str) (σ : St) (nx : St → Hp → Prop) : VK := fun y H => ta σ H (kSF2 K f y σ nx)
def kCB (r : List V → Hp → VK → Prop) (Q : VK) : List V → Hp → Prop := fun vs H => r vs H Q
def kBM2 (r : V → List V → Hp → VK → Prop) (x : V) (Q : VK) : List V → Hp → Prop := fun xs H => r x xs H Q
def kBM (K : PySem.W.Frag) (T : String) (r : V → List V → Hp → VK → Prop) (t : TA) (σ : St) (Q : VK) : VK := fun x H => tyV K T x H ∧ t σ H (kBM2 r x Q)
def kBM0 (K : PySem.W.Frag) (T : String) (r : V → List V → Hp → VK → Prop) (Q : VK) : VK := fun x H => tyV K T x H ∧ r x [] H Q
def kS3 (r : V → Option Int → Option Int → Hp → VK → Prop) (x : V) (l : Option Int) (Q : VK) : Option Int → Hp → Prop := fun u H => r x l u H Q
def kS2 (r : V → Option Int → Option Int → Hp → VK → Prop) (th : TO) (σ : St) (x : V) (Q : VK) : Option Int → Hp → Prop := fun l H => th σ H (kS3 r x l Q)
def kS1 (r : V → Option Int → Option Int → Hp → VK → Prop) (tl th : TO) (σ : St) (Q : VK) : VK := fun x H => tl σ H (kS2 r th σ x Q)
def kPart (Q : Option Int → Hp → Prop) : VK := fun x H => ∃ i, x = .int i ∧ Q (some i) H
def kAug2 (i : Nat) (σ : St) (nx : St → Hp → Prop) : VK := fun z H => nx (σ.set i (some z)) H
def kAug1 (i : Nat) (ti : TIp) (x : V) (σ : St) (nx : St → Hp → Prop) : VK := fun y H => ti x y H (kAug2 i σ nx)
def kIL (K : PySem.W.Frag) (R : It → Hp → Prop) : VK := fun x H => ∃ a, x = .ref a ∧ (∃ xs, SqL K H a xs) ∧ R (Itl K a) H
def kIT (K : PySem.W.Frag) (R : It → Hp → Prop) : VK := fun x H => ∃ a, x = .ref a ∧ (∃ xs, SqT K H a xs) ∧ R (Itt K a) H
def kIR1 (R : It → Hp → Prop) : List V → Hp → Prop := fun vs H => ∃ j : Int, vs = [.int j] ∧ -(2 ^ 62) ≤ j ∧ j < 2 ^ 62 ∧ R (Itr 0 j.toNat) H
def kIR2 (R : It → Hp → Prop) : List V → Hp → Prop := fun vs H => ∃ i j : Int, vs = [.int i, .int j] ∧ (-(2 ^ 62) ≤ i ∧ i < 2 ^ 62 ∧ -(2 ^ 62) ≤ j ∧ j < 2 ^ 62) ∧ R (Itr i (j - i).toNat) H
/-- what is left of a for: the walked thing is there -/
def kFor (g : TG) (tb : TS) (D : Ends) (σ : St) : It → Hp → Prop := fun J H1 => ∃ W : Nat → Nat → St → Hp → Prop, (∃ m, W 0 m σ H1) ∧ ∀ i m σ H, W i m σ H →
  (J.stop i H ∧ D.nx σ H) ∨ (J.go i H ∧ ∃ N : St → Hp → Prop, (∀ σ' H', N σ' H' → ∃ m', m' < m ∧ W (i + 1) m' σ' H') ∧ ∀ x H', J.yld i H x H' → g x σ H' fun σ2 H2 => tb { D with nx := N, ct := N, bk := D.nx } σ2 H2)
/-- a turn's body, behind its target -/
def kBody (tb : TS) (D : Ends) : St → Hp → Prop := fun σ H => tb D σ H
def kLc3 (D : Addr) (N : Hp → Prop) : VK := fun y H4 => ∃ acc, H4 D = some (.lst acc) ∧ acc.length < sizeLine ∧ N (upd H4 D (.lst (acc ++ [y])))
def kLc2 (te : TE) (σ : St) (D : Addr) (N : Hp → Prop) : Bool → Hp → Prop := fun b H3 => if b = true then te σ H3 (kLc3 D N) else N H3
def kLc1 (tt : TT) (te : TE) (vs : List Nat) (σ : St) (D : Addr) (N : Hp → Prop) : St → Hp → Prop := fun σ2 H2 => wipe σ2 vs = wipe σ vs ∧ tt σ2 H2 (kLc2 te σ2 D N)
def kLc (g : TG) (tt : TT) (te : TE) (vs : List Nat) (σ : St) (Q : VK) : It → Hp → Prop := fun J H1 => ∀ D, H1 D = none → ∃ W : Nat → Nat → Hp → Prop, (∃ m, W 0 m (upd H1 D (.lst []))) ∧ ∀ i m H, W i m H →
  (J.stop i H ∧ Q (.ref D) H) ∨ (J.go i H ∧ ∃ Nx : Hp → Prop, (∀ H', Nx H' → ∃ m', m' < m ∧ W (i + 1) m' H') ∧ ∀ x H', J.yld i H x H' → g x (wipe σ vs) H' (kLc1 tt te vs σ D Nx))

section steps
variable {σ σ' : St} {H : Hp} {Q : VK} {nx bk ct : St → Hp → Prop} {rt : VK} {K : PySem.W.Frag}
/-! ### statements -/
theorem i_st {t : TS} {D : Ends} (e : σ = σ') (h : t D σ' H) : t D σ H := by rw [e]; exact h
theorem i_seq {t u : TS} (h : t ⟨u ⟨nx, rt, bk, ct⟩, rt, bk, ct⟩ σ H) : tSeq t u ⟨nx, rt, bk, ct⟩ σ H := h
theorem i_next (h : nx σ H) : tNext ⟨nx, rt, bk, ct⟩ σ H := h
theorem i_brk (h : bk σ H) : tBreak ⟨nx, rt, bk, ct⟩ σ H := h
theorem i_cnt (h : ct σ H) : tCont ⟨nx, rt, bk, ct⟩ σ H := h
theorem i_drop {te : TE} (h : te σ H (kDrop nx σ)) : tDrop te ⟨nx, rt, bk, ct⟩ σ H := h
theorem i_kDrop {x : V} (h : nx σ H) : kDrop nx σ x H := h
theorem i_ret {te : TE} (h : te σ H rt) : tRet te ⟨nx, rt, bk, ct⟩ σ H := h
theorem i_retN (h : rt .non H) : tRetN ⟨nx, rt, bk, ct⟩ σ H := h
theorem i_ifS {c : TT} {t u : TS} {D : Ends} (h : c σ H (kIf t u D σ)) : tIfS c t u D σ H := h
theorem i_kIfT {t u : TS} {D : Ends} (h : t D σ H) : kIf t u D σ true H := h
theorem i_kIfF {t u : TS} {D : Ends} (h : u D σ H) : kIf t u D σ false H := by show if false = true then _ else _; rw [if_neg Bool.false_ne_true]; exact h
theorem i_kIf {t u : TS} {D : Ends} {b : Bool} (h1 : b = true → t D σ H) (h2 : b = false → u D σ H) : kIf t u D σ b H := by
  cases b with
  | true => exact h1 rfl
  | false => exact i_kIfF (h2 rfl)
theorem i_kIfd {t u : TS} {D : Ends} {p : Prop} [Decidable p] (h1 : p → t D σ H) (h2 : ¬ p → u D σ H) : kIf t u D σ (decide p) H := i_kIf (fun e => h1 (of_decide_eq_true e)) (fun e => h2 (of_decide_eq_false e))
theorem i_kIfn {t u : TS} {D : Ends} {b : Bool} (h : kIf u t D σ b H) : kIf t u D σ (!b) H := by
  cases b with
  | true => exact i_kIfF h
  | false => exact i_kIfT (by exact h)
theorem i_kIfdT {t u : TS} {D : Ends} {p : Prop} [Decidable p] (hp : p) (h : t D σ H) : kIf t u D σ (decide p) H := i_kIfd (fun _ => h) (fun n => absurd hp n)
theorem i_kIfdF {t u : TS} {D : Ends} {p : Prop} [Decidable p] (hp : ¬ p) (h : u D σ H) : kIf t u D σ (decide p) H := i_kIfd (fun n => absurd n hp) (fun _ => h)
theorem i_asg {te : TE} {g : TG} (h : te σ H (kAsg g σ nx)) : tAsg te g ⟨nx, rt, bk, ct⟩ σ H := h
theorem i_kAsg {g : TG} {x : V} (h : g x σ H nx) : kAsg g σ nx x H := h
theorem i_gName {i : Nat} {v : V} (e : σ.set i (some v) = σ') (h : nx σ' H) : gName i v σ H nx := by show nx (σ.set i (some v)) H; rw [e]; exact h
theorem i_gNameW {i j : Nat} {v : V} {σ1 σ2 : St} {vs : List Nat} (hv : vs = [j]) (e1 : σ.set j none = σ1) (e2 : σ1.set i (some v) = σ2) (h : nx σ2 H) : gName i v (wipe σ vs) H nx := by
  subst hv
  show nx ((wipe σ [j]).set i (some v)) H
  have e : wipe σ [j] = σ.set j none := rfl
  rw [e, e1, e2]; exact h
theorem i_gTup {n : Nat} {t : TGs} {a : Addr} {xs : List V} (s : SqT K H a xs) (l : xs.length = n) (h : t xs σ H nx) : gTup K n t (.ref a) σ H nx := ⟨a, xs, rfl, s, l, h⟩
theorem i_gCons {t : TG} {u : TGs} {v : V} {r : List V} (h : t v σ H fun σ' H' => u r σ' H' nx) : gCons t u (v :: r) σ H nx := ⟨v, r, rfl, h⟩
theorem i_gNil (h : nx σ H) : gNil [] σ H nx := ⟨rfl, h⟩
theorem i_aug {i : Nat} {te : TE} {ti : TIp} {x : V} (e : σ[i]? = some (some x)) (h : te σ H (kAug1 i ti x σ nx)) : tAug i te ti ⟨nx, rt, bk, ct⟩ σ H := ⟨x, e, h⟩
theorem i_kAug1 {i : Nat} {ti : TIp} {x y : V} (h : ti x y H (kAug2 i σ nx)) : kAug1 i ti x σ nx y H := h
theorem i_kAug2 {i : Nat} {z : V} (e : σ.set i (some z) = σ') (h : nx σ' H) : kAug2 i σ nx z H := by show nx (σ.set i (some z)) H; rw [e]; exact h
theorem i_ipI {f : Int → Int → Int} {i j : Int} (h : Q (.int (f i j)) H) : ipI f (.int i) (.int j) H Q := ⟨i, j, rfl, rfl, h⟩
theorem i_sFld {ta tv : TE} {f : Str} (h : tv σ H (kSF1 K ta f σ nx)) : sFld K ta tv f ⟨nx, rt, bk, ct⟩ σ H := h
theorem i_kSF1 {ta : TE} {f : Str} {y : V} (h : ta σ H (kSF2 K f y σ nx)) : kSF1 K ta f σ nx y H := h
theorem i_kSF2 {f : Str} {y : V} {a C dx : Addr} {fs : List (Str × V)} (hp : H a = some (.ins C dx fs)) (c : Cls K C) (n : NoAttr K C f) (l : fs.length < 1000) (h : nx σ (upd H a (.ins C dx (putF f y fs)))) : kSF2 K f y σ nx (.ref a) H := ⟨a, C, dx, fs, rfl, hp, c, n, l, h⟩
theorem i_cut {t u : TS} (M : St → Hp → Prop) (h1 : t ⟨M, rt, bk, ct⟩ σ H) (h2 : ∀ σ' H', M σ' H' → u ⟨nx, rt, bk, ct⟩ σ' H') : C8.tCut t u ⟨nx, rt, bk, ct⟩ σ H := ⟨M, h1, h2⟩
/-! ### expressions -/
theorem i_var {i : Nat} {v : V} (e : σ[i]? = some (some v)) (h : Q v H) : tVar i σ H Q := ⟨v, e, h⟩
theorem i_c {v : V} (h : Q v H) : tC v σ H Q := h
theorem i_op {r : R2} {ta tb : TE} (h : ta σ H (kO1 r tb σ Q)) : tOp r ta tb σ H Q := h
theorem i_kO1 {r : R2} {tb : TE} {x : V} (h : tb σ H (kO2 r x Q)) : kO1 r tb σ Q x H := h
theorem i_kO2 {r : R2} {x y : V} (h : r x y H Q) : kO2 r x Q y H := h
theorem i_un {r : V → Hp → VK → Prop} {ta : TE} (h : ta σ H (kU r Q)) : tUn r ta σ H Q := h
theorem i_kU {r : V → Hp → VK → Prop} {x : V} (h : r x H Q) : kU r Q x H := h
theorem i_rI {C : Int → Int → Prop} {g : Int → Int → V} {i j : Int} (c : C i j) (h : Q (g i j) H) : rI C g (.int i) (.int j) H Q := ⟨i, j, rfl, rfl, c, h⟩
theorem i_rI0 {g : Int → Int → V} {i j : Int} (h : Q (g i j) H) : rI0 g (.int i) (.int j) H Q := ⟨i, j, rfl, rfl, h⟩
theorem i_rU {g : Int → V} {i : Int} (h : Q (g i) H) : rU g (.int i) H Q := ⟨i, rfl, h⟩
theorem i_rEqI {i j : Int} (h : Q (.bl (decide (i = j))) H) : rEq (.int i) (.int j) H Q := ⟨rfl, by
  have e : decide (V.int i = V.int j) = decide (i = j) := by by_cases z : i = j <;> simp [z]
  rw [e]; exact h⟩
theorem i_rNeI {i j : Int} (h : Q (.bl (!decide (i = j))) H) : rNe (.int i) (.int j) H Q := ⟨rfl, by
  have e : decide (V.int i = V.int j) = decide (i = j) := by by_cases z : i = j <;> simp [z]
  rw [e]; exact h⟩
theorem i_rEqS {i j : Str} (h : Q (.bl (decide (i = j))) H) : rEq (.str i) (.str j) H Q := ⟨rfl, by
  have e : decide (V.str i = V.str j) = decide (i = j) := by by_cases z : i = j <;> simp [z]
  rw [e]; exact h⟩
theorem i_rNeS {i j : Str} (h : Q (.bl (!decide (i = j))) H) : rNe (.str i) (.str j) H Q := ⟨rfl, by
  have e : decide (V.str i = V.str j) = decide (i = j) := by by_cases z : i = j <;> simp [z]
  rw [e]; exact h⟩
theorem i_rEqB {i j : Bool} (h : Q (.bl (decide (i = j))) H) : rEq (.bl i) (.bl j) H Q := ⟨rfl, by
  have e : decide (V.bl i = V.bl j) = decide (i = j) := by by_cases z : i = j <;> simp [z]
  rw [e]; exact h⟩
theorem i_rNeB {i j : Bool} (h : Q (.bl (!decide (i = j))) H) : rNe (.bl i) (.bl j) H Q := ⟨rfl, by
  have e : decide (V.bl i = V.bl j) = decide (i = j) := by by_cases z : i = j <;> simp [z]
  rw [e]; exact h⟩
theorem i_test {t : TE} {Q : Bool → Hp → Prop} (h : t σ H (kB Q)) : tTest t σ H Q := h
theorem i_tB {t : TE} {Q : Bool → Hp → Prop} (h : t σ H (kB Q)) : tB t σ H Q := h
theorem i_kB {b : Bool} {Q : Bool → Hp → Prop} (h : Q b H) : kB Q (.bl b) H := ⟨b, rfl, h⟩
theorem i_and {t u : TT} {Q : Bool → Hp → Prop} (h : t σ H (kAnd u σ Q)) : tAnd t u σ H Q := h
theorem i_or {t u : TT} {Q : Bool → Hp → Prop} (h : t σ H (kOr u σ Q)) : tOr t u σ H Q := h
theorem i_not {t : TT} {Q : Bool → Hp → Prop} (h : t σ H (kNot Q)) : tNot t σ H Q := h
theorem i_kNot {c : Bool} {Q : Bool → Hp → Prop} (h : Q (!c) H) : kNot Q c H := h
theorem i_kAndT {u : TT} {Q : Bool → Hp → Prop} (h : u σ H Q) : kAnd u σ Q true H := h
theorem i_kAndF {u : TT} {Q : Bool → Hp → Prop} (h : Q false H) : kAnd u σ Q false H := by show if false = true then _ else _; rw [if_neg Bool.false_ne_true]; exact h
theorem i_kOrT {u : TT} {Q : Bool → Hp → Prop} (h : Q true H) : kOr u σ Q true H := h
theorem i_kOrF {u : TT} {Q : Bool → Hp → Prop} (h : u σ H Q) : kOr u σ Q false H := by show if false = true then _ else _; rw [if_neg Bool.false_ne_true]; exact h
theorem i_kAnd {u : TT} {Q : Bool → Hp → Prop} {b : Bool} (h1 : b = true → u σ H Q) (h2 : b = false → Q false H) : kAnd u σ Q b H := by
  cases b with
  | true => exact h1 rfl
  | false => exact i_kAndF (h2 rfl)
theorem i_kOr {u : TT} {Q : Bool → Hp → Prop} {b : Bool} (h1 : b = true → Q true H) (h2 : b = false → u σ H Q) : kOr u σ Q b H := by
  cases b with
  | true => exact h1 rfl
  | false => exact i_kOrF (h2 rfl)
theorem i_andV {ta tb : TE} (h : ta σ H (kAndV tb σ Q)) : tAndV ta tb σ H Q := h
theorem i_orV {ta tb : TE} (h : ta σ H (kOrV tb σ Q)) : tOrV ta tb σ H Q := h
theorem i_notV {ta : TE} (h : ta σ H (kNotV Q)) : tNotV ta σ H Q := h
theorem i_kNotV {c : Bool} (h : Q (.bl (!c)) H) : kNotV Q (.bl c) H := ⟨c, rfl, h⟩
theorem i_kAndV {tb : TE} {b : Bool} (h1 : b = true → tb σ H Q) (h2 : b = false → Q (.bl false) H) : kAndV tb σ Q (.bl b) H := ⟨b, rfl, by
  cases b with
  | true => exact h1 rfl
  | false => rw [if_neg Bool.false_ne_true]; exact h2 rfl⟩
theorem i_kOrV {tb : TE} {b : Bool} (h1 : b = true → Q (.bl true) H) (h2 : b = false → tb σ H Q) : kOrV tb σ Q (.bl b) H := ⟨b, rfl, by
  cases b with
  | true => exact h1 rfl
  | false => rw [if_neg Bool.false_ne_true]; exact h2 rfl⟩
theorem i_ifE {t : TT} {ta tb : TE} (h : t σ H (kIfE ta tb σ Q)) : tIf t ta tb σ H Q := h
theorem i_kIfET {ta tb : TE} (h : ta σ H Q) : kIfE ta tb σ Q true H := h
theorem i_kIfEF {ta tb : TE} (h : tb σ H Q) : kIfE ta tb σ Q false H := by show if false = true then _ else _; rw [if_neg Bool.false_ne_true]; exact h
theorem i_kIfE {ta tb : TE} {b : Bool} (h1 : b = true → ta σ H Q) (h2 : b = false → tb σ H Q) : kIfE ta tb σ Q b H := by
  cases b with
  | true => exact h1 rfl
  | false => exact i_kIfEF (h2 rfl)
theorem i_kIfEd {ta tb : TE} {p : Prop} [Decidable p] (h1 : p → ta σ H Q) (h2 : ¬ p → tb σ H Q) : kIfE ta tb σ Q (decide p) H := i_kIfE (fun e => h1 (of_decide_eq_true e)) (fun e => h2 (of_decide_eq_false e))
theorem i_kIfEdT {ta tb : TE} {p : Prop} [Decidable p] (hp : p) (h : ta σ H Q) : kIfE ta tb σ Q (decide p) H := i_kIfEd (fun _ => h) (fun n => absurd hp n)
theorem i_kIfEdF {ta tb : TE} {p : Prop} [Decidable p] (hp : ¬ p) (h : tb σ H Q) : kIfE ta tb σ Q (decide p) H := i_kIfEd (fun n => absurd n hp) (fun _ => h)
theorem i_chain {r r' : R2} {ta tb tc : TE} (h : ta σ H (kC1 r r' tb tc σ Q)) : tChain r r' ta tb tc σ H Q := h
theorem i_kC1 {r r' : R2} {tb tc : TE} {x : V} (h : tb σ H (kC2 r r' tc σ x Q)) : kC1 r r' tb tc σ Q x H := h
theorem i_kC2 {r r' : R2} {tc : TE} {x y : V} (h : r x y H (kC2' r' tc σ y Q)) : kC2 r r' tc σ x Q y H := h
theorem i_kC2' {r' : R2} {tc : TE} {y : V} {b : Bool} (h1 : b = true → tc σ H (kC3 r' y Q)) (h2 : b = false → Q (.bl false) H) : kC2' r' tc σ y Q (.bl b) H := ⟨b, rfl, by
  cases b with
  | true => exact h1 rfl
  | false => rw [if_neg Bool.false_ne_true]; exact h2 rfl⟩
theorem i_kC3 {r' : R2} {y z : V} (h : r' y z H Q) : kC3 r' y Q z H := h
theorem i_nil {Q : List V → Hp → Prop} (h : Q [] H) : tNil σ H Q := h
theorem i_cons {ta : TE} {tr : TA} {Q : List V → Hp → Prop} (h : ta σ H (kA1 tr σ Q)) : tCons ta tr σ H Q := h
theorem i_kA1 {tr : TA} {Q : List V → Hp → Prop} {x : V} (h : tr σ H (kA2 x Q)) : kA1 tr σ Q x H := h
theorem i_kA2 {Q : List V → Hp → Prop} {x : V} {xs : List V} (h : Q (x :: xs) H) : kA2 x Q xs H := h
theorem i_tup {t : TA} (h : t σ H (kTup Q)) : tTup t σ H Q := h
theorem i_lst {t : TA} (h : t σ H (kLst Q)) : tLst t σ H Q := h
theorem i_kTup {xs : List V} (l : xs.length ≤ sizeLine) (h : ∀ p, H p = none → Q (.ref p) (upd H p (.tup xs))) : kTup Q xs H := ⟨l, h⟩
theorem i_kLst {xs : List V} (l : xs.length ≤ sizeLine) (h : ∀ p, H p = none → Q (.ref p) (upd H p (.lst xs))) : kLst Q xs H := ⟨l, h⟩
theorem i_call {sp : Sp} {E : XK} {t : TA} (h : t σ H (kCall sp E Q)) : tCall sp [] E t σ H Q := by
  show t σ H fun vs H1 => sp (vs ++ []) H1 Q E
  have e : (fun vs H1 => sp (vs ++ []) H1 Q E) = kCall sp E Q := by funext vs H1; rw [List.append_nil]; rfl
  rw [e]; exact h
theorem i_kCall {sp : Sp} {E : XK} {vs : List V} (h : sp vs H Q E) : kCall sp E Q vs H := h
theorem i_meth {C : Addr} {m : Str} {sp : Sp} {E : XK} {ta : TE} {t : TA} (h : ta σ H (kM1 m C sp E t σ Q)) : tMeth C m sp [] E ta t σ H Q := by
  have e : (kM1 m C sp E t σ Q) = (fun x H1 => ∃ a dx fs, x = .ref a ∧ H1 a = some (.ins C dx fs) ∧ fs.lookup m = none ∧ t σ H1 fun vs H2 => sp (x :: (vs ++ [])) H2 Q E) := by
    funext x H1; unfold kM1 kM2; simp only [List.append_nil]
  show ta σ H _
  rw [← e]; exact h
theorem i_kM1 {C : Addr} {m : Str} {sp : Sp} {E : XK} {t : TA} {a dx : Addr} {fs : List (Str × V)} (hp : H a = some (.ins C dx fs)) (l : fs.lookup m = none) (h : t σ H (kM2 sp (.ref a) E Q)) : kM1 m C sp E t σ Q (.ref a) H := ⟨a, dx, fs, rfl, hp, l, h⟩
theorem i_kM2 {sp : Sp} {E : XK} {x : V} {vs : List V} (h : sp (x :: vs) H Q E) : kM2 sp x E Q vs H := h
theorem i_make {C : Addr} {sp : Sp} {E : XK} {t : TA} (h : t σ H (kMk C sp E Q)) : tMake C sp [] E t σ H Q := by
  have e : (kMk C sp E Q) = (fun vs H1 => ∀ x dx, H1 x = none → H1 dx = none → dx ≠ x → sp (.ref x :: (vs ++ [])) (upd (upd H1 dx (.own x)) x (.ins C dx [])) (fun v H2 => v = .non ∧ Q (.ref x) H2) E) := by
    funext vs H1; unfold kMk; simp only [List.append_nil]
  show t σ H _
  rw [← e]; exact h
theorem i_fld {ta : TE} {f : Str} (h : ta σ H (kFld K f Q)) : tFld K ta f σ H Q := h
theorem i_kFld {f : Str} {a C dx : Addr} {fs : List (Str × V)} {v : V} (hp : H a = some (.ins C dx fs)) (c : Cls K C) (n : NoAttr K C f) (l : fs.lookup f = some v) (h : Q v H) : kFld K f Q (.ref a) H := ⟨a, C, dx, fs, v, rfl, hp, c, n, l, h⟩
theorem i_cb {r : List V → Hp → VK → Prop} {t : TA} (h : t σ H (kCB r Q)) : tCB r t σ H Q := h
theorem i_kCB {r : List V → Hp → VK → Prop} {vs : List V} (h : r vs H Q) : kCB r Q vs H := h
theorem i_bm {T : String} {r : V → List V → Hp → VK → Prop} {to : TE} {t : TA} (h : to σ H (kBM K T r t σ Q)) : tBM K T r to t σ H Q := h
theorem i_bm0 {T : String} {r : V → List V → Hp → VK → Prop} {to : TE} (h : to σ H (kBM0 K T r Q)) : tBM0 K T r to σ H Q := h
theorem i_kBMl {r : V → List V → Hp → VK → Prop} {t : TA} {l : Addr} {xs : List V} (s : SqL K H l xs) (h : t σ H (kBM2 r (.ref l) Q)) : kBM K "list" r t σ Q (.ref l) H := ⟨.inl ⟨rfl, _, s⟩, h⟩
theorem i_kBM0l {r : V → List V → Hp → VK → Prop} {l : Addr} {xs : List V} (s : SqL K H l xs) (h : r (.ref l) [] H Q) : kBM0 K "list" r Q (.ref l) H := ⟨.inl ⟨rfl, _, s⟩, h⟩
theorem i_kBM2 {r : V → List V → Hp → VK → Prop} {x : V} {xs : List V} (h : r x xs H Q) : kBM2 r x Q xs H := h
theorem i_append {l : Addr} {xs : List V} {y : V} (hl : H l = some (.lst xs)) (z : xs.length < sizeLine) (h : Q .non (upd H l (.lst (xs ++ [y])))) : rAppend (.ref l) [y] H Q := ⟨l, xs, y, rfl, rfl, hl, z, h⟩
theorem i_extend {l b : Addr} {xs zs : List V} (hl : H l = some (.lst xs)) (hb : H b = some (.lst zs)) (z : xs.length + zs.length ≤ sizeLine) (h : Q .non (upd H l (.lst (xs ++ zs)))) : rExtend (.ref l) [.ref b] H Q := ⟨l, b, xs, zs, rfl, rfl, hl, hb, z, h⟩
theorem i_cat {l b : Addr} {xs zs : List V} (hl : H l = some (.lst xs)) (hb : H b = some (.lst zs)) (z : xs.length + zs.length ≤ sizeLine) (h : ∀ p, H p = none → Q (.ref p) (upd H p (.lst (xs ++ zs)))) : rCat (.ref l) (.ref b) H Q := ⟨l, b, xs, zs, rfl, rfl, hl, hb, z, h⟩
theorem i_rep {l : Addr} {xs : List V} {k : Int} (hl : H l = some (.lst xs)) (k1 : -(2 ^ 63) ≤ k) (k2 : k < 2 ^ 63) (z : xs.length * k.toNat ≤ sizeLine) (h : ∀ p, H p = none → Q (.ref p) (upd H p (.lst (List.replicate k.toNat xs).flatten))) : rRep (.ref l) (.int k) H Q := ⟨l, k, xs, rfl, rfl, hl, k1, k2, z, h⟩
theorem i_ixL {p : Addr} {xs : List V} {i : Int} {v : V} (s : SqL K H p xs) (e : atI xs i = some v) (h : Q v H) : rIxL K (.ref p) (.int i) H Q := ⟨p, xs, i, v, rfl, rfl, s, e, h⟩
theorem i_ixT {p : Addr} {xs : List V} {i : Int} {v : V} (s : SqT K H p xs) (e : atI xs i = some v) (h : Q v H) : rIxT K (.ref p) (.int i) H Q := ⟨p, xs, i, v, rfl, rfl, s, e, h⟩
theorem i_sl {r : V → Option Int → Option Int → Hp → VK → Prop} {te : TE} {tl th : TO} (h : te σ H (kS1 r tl th σ Q)) : tSl r te tl th σ H Q := h
theorem i_kS1 {r : V → Option Int → Option Int → Hp → VK → Prop} {tl th : TO} {x : V} (h : tl σ H (kS2 r th σ x Q)) : kS1 r tl th σ Q x H := h
theorem i_kS2 {r : V → Option Int → Option Int → Hp → VK → Prop} {th : TO} {x : V} {l : Option Int} (h : th σ H (kS3 r x l Q)) : kS2 r th σ x Q l H := h
theorem i_kS3 {r : V → Option Int → Option Int → Hp → VK → Prop} {x : V} {l u : Option Int} (h : r x l u H Q) : kS3 r x l Q u H := h
theorem i_noPart {Q : Option Int → Hp → Prop} (h : Q none H) : tNoPart σ H Q := h
theorem i_part {t : TE} {Q : Option Int → Hp → Prop} (h : t σ H (kPart Q)) : tPart t σ H Q := h
theorem i_kPart {Q : Option Int → Hp → Prop} {i : Int} (h : Q (some i) H) : kPart Q (.int i) H := ⟨i, rfl, h⟩
theorem i_slL {a : Addr} {xs : List V} {lo hi : Option Int} (s : SqL K H a xs) (h : ∀ p, H p = none → Q (.ref p) (upd H p (.lst (cutV xs lo hi)))) : rSlL K (.ref a) lo hi H Q := ⟨a, xs, rfl, s, h⟩
/-! ### what is walked -/
theorem i_for {wi : TI} {g : TG} {tb : TS} {D : Ends} (h : wi σ H (kFor g tb D σ)) : tFor wi g tb D σ H := h
theorem i_lc {wi : TI} {g : TG} {tt : TT} {te : TE} {vs : List Nat} (h : wi σ H (kLc g tt te vs σ Q)) : tLc wi g tt te vs σ H Q := h
theorem i_iList {tl : TE} {R : It → Hp → Prop} (h : tl σ H (kIL K R)) : iList K tl σ H R := h
theorem i_iTup {tl : TE} {R : It → Hp → Prop} (h : tl σ H (kIT K R)) : iTup K tl σ H R := h
theorem i_iRng1 {ta : TA} {R : It → Hp → Prop} (h : ta σ H (kIR1 R)) : iRng1 ta σ H R := h
theorem i_iRng2 {ta : TA} {R : It → Hp → Prop} (h : ta σ H (kIR2 R)) : iRng2 ta σ H R := h
theorem i_kIL {R : It → Hp → Prop} {a : Addr} {xs : List V} (s : SqL K H a xs) (h : R (Itl K a) H) : kIL K R (.ref a) H := ⟨a, rfl, ⟨xs, s⟩, h⟩
theorem i_kIT {R : It → Hp → Prop} {a : Addr} {xs : List V} (s : SqT K H a xs) (h : R (Itt K a) H) : kIT K R (.ref a) H := ⟨a, rfl, ⟨xs, s⟩, h⟩
theorem i_kIR1 {R : It → Hp → Prop} {j : Int} (a : -(2 ^ 62) ≤ j) (b : j < 2 ^ 62) (h : R (Itr 0 j.toNat) H) : kIR1 R [.int j] H := ⟨j, rfl, a, b, h⟩
theorem i_kIR2 {R : It → Hp → Prop} {i j : Int} (a : -(2 ^ 62) ≤ i) (b : i < 2 ^ 62) (c : -(2 ^ 62) ≤ j) (d : j < 2 ^ 62) (h : R (Itr i (j - i).toNat) H) : kIR2 R [.int i, .int j] H := ⟨i, j, rfl, ⟨a, b, c, d⟩, h⟩
/-- for over a list that stands still -/
theorem i_forL {a : Addr} {g : TG} {tb : TS} (xs : List V) (Pv : Nat → St → Hp → Prop) (h0 : Pv 0 σ H) (hl : ∀ i σ H, i ≤ xs.length → Pv i σ H → SqL K H a xs)
    (hs : ∀ i x σ H, xs[i]? = some x → Pv i σ H → g x σ H (kBody tb ⟨Pv (i + 1), rt, nx, Pv (i + 1)⟩)) (hd : ∀ σ H, Pv xs.length σ H → nx σ H) : kFor g tb ⟨nx, rt, bk, ct⟩ σ (Itl K a) H :=
  for_list (D := ⟨nx, rt, bk, ct⟩) Pv h0 hl hs hd
theorem i_forT {a : Addr} {g : TG} {tb : TS} (xs : List V) (Pv : Nat → St → Hp → Prop) (h0 : Pv 0 σ H) (hl : ∀ i σ H, i ≤ xs.length → Pv i σ H → SqT K H a xs)
    (hs : ∀ i x σ H, xs[i]? = some x → Pv i σ H → g x σ H (kBody tb ⟨Pv (i + 1), rt, nx, Pv (i + 1)⟩)) (hd : ∀ σ H, Pv xs.length σ H → nx σ H) : kFor g tb ⟨nx, rt, bk, ct⟩ σ (Itt K a) H :=
  for_tup (D := ⟨nx, rt, bk, ct⟩) Pv h0 hl hs hd
theorem i_forR {lo : Int} {n : Nat} {g : TG} {tb : TS} (Pv : Nat → St → Hp → Prop) (h0 : Pv 0 σ H)
    (hs : ∀ i σ H, i < n → Pv i σ H → g (.int (lo + i)) σ H (kBody tb ⟨Pv (i + 1), rt, nx, Pv (i + 1)⟩)) (hd : ∀ σ H, Pv n σ H → nx σ H) : kFor g tb ⟨nx, rt, bk, ct⟩ σ (Itr lo n) H :=
  for_range (D := ⟨nx, rt, bk, ct⟩) Pv h0 hs hd
theorem i_forR0 {n : Nat} {g : TG} {tb : TS} (Pv : Nat → St → Hp → Prop) (h0 : Pv 0 σ H)
    (hs : ∀ (i : Nat) σ H, i < n → Pv i σ H → g (.int (i : Int)) σ H (kBody tb ⟨Pv (i + 1), rt, nx, Pv (i + 1)⟩)) (hd : ∀ σ H, Pv n σ H → nx σ H) : kFor g tb ⟨nx, rt, bk, ct⟩ σ (Itr 0 n) H :=
  i_forR Pv h0 (fun i σ H hi p => by rw [Int.zero_add]; exact hs i σ H hi p) hd
theorem i_body {tb : TS} {D : Ends} (h : tb D σ H) : kBody tb D σ H := h
theorem i_lcR {lo : Int} {n : Nat} {g : TG} {tt : TT} {te : TE} {vs : List Nat} (Pv : Addr → Nat → Hp → Prop) (h0 : ∀ D, H D = none → Pv D 0 (upd H D (.lst [])))
    (hs : ∀ D i H1, H D = none → i < n → Pv D i H1 → g (.int (lo + i)) (wipe σ vs) H1 (kLc1 tt te vs σ D (Pv D (i + 1)))) (hd : ∀ D H1, H D = none → Pv D n H1 → Q (.ref D) H1) : kLc g tt te vs σ Q (Itr lo n) H :=
  fun D hD => lc_range (Qd := Q (.ref D)) (Pv D) (h0 D hD) (fun i H1 hi p => hs D i H1 hD hi p) (fun H1 p => hd D H1 hD p)
theorem i_lcR0 {n : Nat} {g : TG} {tt : TT} {te : TE} {vs : List Nat} (Pv : Addr → Nat → Hp → Prop) (h0 : ∀ D, H D = none → Pv D 0 (upd H D (.lst [])))
    (hs : ∀ D (i : Nat) H1, H D = none → i < n → Pv D i H1 → g (.int (i : Int)) (wipe σ vs) H1 (kLc1 tt te vs σ D (Pv D (i + 1)))) (hd : ∀ D H1, H D = none → Pv D n H1 → Q (.ref D) H1) : kLc g tt te vs σ Q (Itr 0 n) H :=
  i_lcR Pv h0 (fun D i H1 hD hi p => by rw [Int.zero_add]; exact hs D i H1 hD hi p) hd
theorem i_lcL {a : Addr} {g : TG} {tt : TT} {te : TE} {vs : List Nat} (xs : List V) (Pv : Addr → Nat → Hp → Prop) (h0 : ∀ D, H D = none → Pv D 0 (upd H D (.lst []))) (hl : ∀ D i H1, H D = none → i ≤ xs.length → Pv D i H1 → SqL K H1 a xs)
    (hs : ∀ D i x H1, H D = none → xs[i]? = some x → Pv D i H1 → g x (wipe σ vs) H1 (kLc1 tt te vs σ D (Pv D (i + 1)))) (hd : ∀ D H1, H D = none → Pv D xs.length H1 → Q (.ref D) H1) : kLc g tt te vs σ Q (Itl K a) H :=
  fun D hD => lc_list (Qd := Q (.ref D)) (Pv D) (h0 D hD) (fun i H1 hi p => hl D i H1 hD hi p) (fun i x H1 hi p => hs D i x H1 hD hi p) (fun H1 p => hd D H1 hD p)
theorem i_lcT {a : Addr} {g : TG} {tt : TT} {te : TE} {vs : List Nat} (xs : List V) (Pv : Addr → Nat → Hp → Prop) (h0 : ∀ D, H D = none → Pv D 0 (upd H D (.lst []))) (hl : ∀ D i H1, H D = none → i ≤ xs.length → Pv D i H1 → SqT K H1 a xs)
    (hs : ∀ D i x H1, H D = none → xs[i]? = some x → Pv D i H1 → g x (wipe σ vs) H1 (kLc1 tt te vs σ D (Pv D (i + 1)))) (hd : ∀ D H1, H D = none → Pv D xs.length H1 → Q (.ref D) H1) : kLc g tt te vs σ Q (Itt K a) H :=
  fun D hD => lc_tup (Qd := Q (.ref D)) (Pv D) (h0 D hD) (fun i H1 hi p => hl D i H1 hD hi p) (fun i x H1 hi p => hs D i x H1 hD hi p) (fun H1 p => hd D H1 hD p)
theorem i_kLc1 {tt : TT} {te : TE} {vs : List Nat} {σ2 : St} {D : Addr} {N : Hp → Prop} (e : wipe σ2 vs = wipe σ vs) (h : tt σ2 H (kLc2 te σ2 D N)) : kLc1 tt te vs σ D N σ2 H := ⟨e, h⟩
theorem i_yes {Q : Bool → Hp → Prop} (h : Q true H) : tYes σ H Q := h
theorem i_kLc2T {te : TE} {D : Addr} {N : Hp → Prop} (h : te σ H (kLc3 D N)) : kLc2 te σ D N true H := h
theorem i_kLc2F {te : TE} {D : Addr} {N : Hp → Prop} (h : N H) : kLc2 te σ D N false H := by show if false = true then _ else _; rw [if_neg Bool.false_ne_true]; exact h
theorem i_kLc3 {D : Addr} {N : Hp → Prop} {acc : List V} {y : V} (e : H D = some (.lst acc)) (z : acc.length < sizeLine) (h : N (upd H D (.lst (acc ++ [y])))) : kLc3 D N y H := ⟨acc, e, z, h⟩
end steps

/-! ### readings by name, of rules whose own are raw -/
def rLen (K : PySem.W.Frag) : List V → Hp → VK → Prop := fun xs H Q => ∃ p ys, xs = [.ref p] ∧ (SqL K H p ys ∨ SqT K H p ys) ∧ Q (.int ys.length) H
def rLenS : List V → Hp → VK → Prop := fun xs H Q => ∃ z, xs = [.str z] ∧ z.length ≤ sizeLine ∧ Q (.int z.length) H
def rInt : List V → Hp → VK → Prop := fun xs H Q => (∃ i, xs = [.int i] ∧ Q (.int i) H) ∨ ∃ k, xs = [.bl k] ∧ Q (.int (if k then 1 else 0)) H
def rListOf (K : PySem.W.Frag) : List V → Hp → VK → Prop := fun xs H Q => ∃ p ys, xs = [.ref p] ∧ (SqL K H p ys ∨ SqT K H p ys) ∧ ∀ l, H l = none → Q (.ref l) (upd H l (.lst ys))
def rTupOf (K : PySem.W.Frag) : List V → Hp → VK → Prop := fun xs H Q => ∃ p ys, xs = [.ref p] ∧ ((SqL K H p ys ∧ ∀ l, H l = none → Q (.ref l) (upd H l (.tup ys))) ∨ (SqT K H p ys ∧ Q (.ref p) H))
def rIsN : R2 := fun x y H Q => y = .non ∧ Q (.bl (decide (x = .non))) H
def rNotN : R2 := fun x y H Q => y = .non ∧ Q (.bl (!decide (x = .non))) H
section
variable {X : Cx}
theorem c_len : CallR X (.builtin "len") (rLen X.K) := call_len_seq
theorem c_lenS : CallR X (.builtin "len") rLenS := call_len_str
theorem c_int : CallR X (.type "int") rInt := call_int1
theorem c_list : CallR X (.type "list") (rListOf X.K) := call_list_of
theorem c_tuple : CallR X (.type "tuple") (rTupOf X.K) := call_tuple_of
theorem o_isN : OpR X (compareOp .Is) rIsN := op_isN
theorem o_notN : OpR X (compareOp .IsNot) rNotN := op_notN
end
section
variable {σ : St} {H : Hp} {Q : VK} {K : PySem.W.Frag}
theorem i_lenL {p : Addr} {ys : List V} (s : SqL K H p ys) (h : Q (.int ys.length) H) : rLen K [.ref p] H Q := ⟨p, ys, rfl, .inl s, h⟩
theorem i_lenT {p : Addr} {ys : List V} (s : SqT K H p ys) (h : Q (.int ys.length) H) : rLen K [.ref p] H Q := ⟨p, ys, rfl, .inr s, h⟩
theorem i_lenS {z : Str} (l : z.length ≤ sizeLine) (h : Q (.int z.length) H) : rLenS [.str z] H Q := ⟨z, rfl, l, h⟩
theorem i_int {i : Int} (h : Q (.int i) H) : rInt [.int i] H Q := .inl ⟨i, rfl, h⟩
theorem i_listL {p : Addr} {ys : List V} (s : SqL K H p ys) (h : ∀ l, H l = none → Q (.ref l) (upd H l (.lst ys))) : rListOf K [.ref p] H Q := ⟨p, ys, rfl, .inl s, h⟩
theorem i_listT {p : Addr} {ys : List V} (s : SqT K H p ys) (h : ∀ l, H l = none → Q (.ref l) (upd H l (.lst ys))) : rListOf K [.ref p] H Q := ⟨p, ys, rfl, .inr s, h⟩
theorem i_tupL {p : Addr} {ys : List V} (s : SqL K H p ys) (h : ∀ l, H l = none → Q (.ref l) (upd H l (.tup ys))) : rTupOf K [.ref p] H Q := ⟨p, ys, rfl, .inl ⟨s, h⟩⟩
theorem i_tupT {p : Addr} {ys : List V} (s : SqT K H p ys) (h : Q (.ref p) H) : rTupOf K [.ref p] H Q := ⟨p, ys, rfl, .inr ⟨s, h⟩⟩
theorem i_isN {x : V} (h : Q (.bl (decide (x = .non))) H) : rIsN x .non H Q := ⟨rfl, h⟩
theorem i_notN {x : V} (h : Q (.bl (!decide (x = .non))) H) : rNotN x .non H Q := ⟨rfl, h⟩
theorem i_eqD {x y : V} {d e : PyData} (a : Dp K H x d) (b : Dp K H y e) (sd : SeqAt.shaped d = true) (se : SeqAt.shaped e = true) (h : Q (.bl (PyData.eqv d e)) H) : rEqD K x y H Q := ⟨d, e, a, b, sd, se, h⟩
theorem i_neD {x y : V} {d e : PyData} (a : Dp K H x d) (b : Dp K H y e) (sd : SeqAt.shaped d = true) (se : SeqAt.shaped e = true) (h : Q (.bl (!PyData.eqv d e)) H) : rNeD K x y H Q := ⟨d, e, a, b, sd, se, h⟩
end

/-! ### items of lists -/
theorem sz {n : Nat} (h : n ≤ 1000) : n ≤ sizeLine := Nat.le_of_lt (small1000 h)
theorem atI_map {α : Type} (f : α → V) (xs : List α) (j : Int) (d : α) (h0 : 0 ≤ j) (h1 : j < xs.length) : atI (xs.map f) j = some (f (xs.getD j.toNat d)) := by
  have e : j = ((j.toNat : Nat) : Int) := by omega
  rw [e]
  refine atI_nat ?_
  have hj : j.toNat < xs.length := by omega
  rw [List.getElem?_map, List.getElem?_eq_getElem hj, Int.toNat_natCast, List.getD_eq_getElem?_getD, List.getElem?_eq_getElem hj]
  rfl
theorem map_at {α : Type} {f : α → V} {l : List α} {i : Nat} {x : V} (h : (l.map f)[i]? = some x) : ∃ z, l[i]? = some z ∧ x = f z := by
  rw [List.getElem?_map] at h
  cases e : l[i]? with
  | none => rw [e] at h; cases h
  | some z => rw [e] at h; exact ⟨z, rfl, (Option.some.inj h).symm⟩
theorem getD_mem' {α : Type} (xs : List α) (j : Nat) (d : α) (h : j < xs.length) : xs.getD j d ∈ xs := by
  rw [List.getD_eq_getElem?_getD, List.getElem?_eq_getElem h]
  exact List.getElem_mem h
/-! ### states and heaps -/
theorem set_z {α : Type} {x y : α} {r : List α} : (x :: r).set 0 y = y :: r := rfl
theorem set_s {α : Type} {x y : α} {r r' : List α} {i : Nat} (h : r.set i y = r') : (x :: r).set (i + 1) y = x :: r' := by rw [List.set_cons_succ, h]
theorem get_z {α : Type} {x : α} {r : List α} : (x :: r)[0]? = some x := rfl
theorem get_s {α : Type} {x : α} {r : List α} {i : Nat} {y : α} (h : r[i]? = some y) : (x :: r)[i + 1]? = some y := by rw [List.getElem?_cons_succ]; exact h
theorem upd_get {H : Hp} {a p : Addr} {o u : HO} (n : a ≠ p) (h : H a = some u) : upd H p o a = some u := by rw [upd_ne n]; exact h
theorem upd_free {H : Hp} {a p : Addr} {o : HO} (n : a ≠ p) (h : H a = none) : upd H p o a = none := by rw [upd_ne n]; exact h
theorem free_upd {H : Hp} {a p : Addr} {o : HO} (h : upd H p o a = none) : a ≠ p ∧ H a = none := by
  have n : a ≠ p := fun e => by rw [e, upd_same] at h; cases h
  exact ⟨n, by rw [upd_ne n] at h; exact h⟩
theorem same_upd'  {H : Hp} {p : Addr} {o : HO} (h : H p = none) : Same H (upd H p o) := fun b x e => by rw [upd_ne (ne_of_none e h)]; exact e
theorem same_upd {H : Hp} {p : Addr} {o : HO} (h : H p = none) : Same H (upd H p o) := fun b x e => by rw [upd_ne (ne_of_none e h)]; exact e
theorem same_wr {H H1 : Hp} {x : Addr} {o : HO} (n : H x = none) (s : Same H H1) : Same H (upd H1 x o) := fun b u e => upd_get (ne_of_none e n) (s b u e)
theorem sqL_upd {K : PySem.W.Frag} {H : Hp} {a p : Addr} {o : HO} {xs : List V} (n : a ≠ p) (h : SqL K H a xs) : SqL K (upd H p o) a xs := by
  rcases h with (h | ⟨u, h⟩) | h
  · exact .inl (.inl (upd_get n h))
  · exact .inl (.inr ⟨u, upd_get n h⟩)
  · exact .inr h
theorem sqT_upd {K : PySem.W.Frag} {H : Hp} {a p : Addr} {o : HO} {xs : List V} (n : a ≠ p) (h : SqT K H a xs) : SqT K (upd H p o) a xs := by
  rcases h with (h | ⟨u, h⟩) | h
  · exact .inl (.inl (upd_get n h))
  · exact .inl (.inr ⟨u, upd_get n h⟩)
  · exact .inr h
theorem sqL_new {K : PySem.W.Frag} {H : Hp} {a p : Addr} {o : HO} {xs : List V} (n : H p = none) (h : SqL K H a xs) : SqL K (upd H p o) a xs := (same_upd n).seq h
theorem same_tup {K : PySem.W.Frag} {H H' : Hp} {a : Addr} {xs : List V} (e : Same H H') (h : SqT K H a xs) : SqT K H' a xs := by
  rcases h with (h | ⟨o, h⟩) | h
  · exact .inl (.inl (e _ _ h))
  · exact .inl (.inr ⟨o, e _ _ h⟩)
  · exact .inr h
theorem sqT_new {K : PySem.W.Frag} {H : Hp} {a p : Addr} {o : HO} {xs : List V} (n : H p = none) (h : SqT K H a xs) : SqT K (upd H p o) a xs := same_tup (same_upd n) h

/-! ### list(reversed(x)), x a list -/
def tLstRev (K : PySem.W.Frag) (te : TE) : TE := fun σ H Q => te σ H fun v H1 => ∃ (a : Addr) (xs : List V), v = .ref a ∧ SqL K H1 a xs ∧ ∀ q, H1 q = none → Q (.ref q) (upd H1 q (.lst xs.reverse))
def kLstRev (K : PySem.W.Frag) (Q : VK) : VK := fun v H1 => ∃ (a : Addr) (xs : List V), v = .ref a ∧ SqL K H1 a xs ∧ ∀ q, H1 q = none → Q (.ref q) (upd H1 q (.lst xs.reverse))
theorem i_lstRev {σ : St} {H : Hp} {Q : VK} {K : PySem.W.Frag} {te : TE} (h : te σ H (kLstRev K Q)) : tLstRev K te σ H Q := h
theorem i_kLstRev {H : Hp} {Q : VK} {K : PySem.W.Frag} {a : Addr} {xs : List V} (s : SqL K H a xs) (h : ∀ q, H q = none → Q (.ref q) (upd H q (.lst xs.reverse))) : kLstRev K Q (.ref a) H := ⟨a, xs, rfl, s, h⟩

/-! ### the rules with the written part by name -/
section
variable {X : Cx} {K : PySem.W.Frag} {tg e o a b c : Expr} {te to : TE} {ta : TA} {pos apos cpos p2 p : Pos} {es : List Expr}
theorem q_ixl (z : X.K = K := by rfl) : IxR X (rIxL K) := by subst z; exact ix_list
theorem q_ixt (z : X.K = K := by rfl) : IxR X (rIxT K) := by subst z; exact ix_tup
theorem q_len (z : X.K = K := by rfl) : CallR X (.builtin "len") (rLen K) := by subst z; exact c_len
theorem q_list (z : X.K = K := by rfl) : CallR X (.type "list") (rListOf K) := by subst z; exact c_list
theorem q_tuple (z : X.K = K := by rfl) : CallR X (.type "tuple") (rTupOf K) := by subst z; exact c_tuple
theorem q_eqD (hu : X.A.units + 64 < cLine) (z : X.K = K := by rfl) : OpR X (compareOp .Eq) (rEqD K) := by subst z; exact op_eqD hu
theorem q_neD (hu : X.A.units + 64 < cLine) (z : X.K = K := by rfl) : OpR X (compareOp .NotEq) (rNeD K) := by subst z; exact op_neD hu
theorem q_in (z : X.K = K := by rfl) : OpR X (compareOp .In) (rIn K false) := by subst z; exact op_in_seq
theorem q_notIn (z : X.K = K := by rfl) : OpR X (compareOp .NotIn) (rIn K true) := by subst z; exact op_notIn_seq
theorem q_sll (z : X.K = K := by rfl) : SlR X (rSlL K) := by subst z; exact sl_list
theorem q_all (hc : X.calm = true) (z : X.K = K := by rfl) : CallR X (.builtin "all") (rAll K) := by subst z; exact cr_all hc
theorem q_any (hc : X.calm = true) (z : X.K = K := by rfl) : CallR X (.builtin "any") (rAny K) := by subst z; exact cr_any hc
theorem q_sum (hc : X.calm = true) (z : X.K = K := by rfl) : CallR X (.builtin "sum") (rSum K) := by subst z; exact cr_sum hc
theorem q_sorted (z : X.K = K := by rfl) : CallR X (.builtin "sorted") (rSortedI K) := by subst z; exact cr_sortedI
theorem q_pil (he : PE X e te) (z : X.K = K := by rfl) : PI X tg e (iList K te) := by subst z; exact pi_list he
theorem q_pit (he : PE X e te) (z : X.K = K := by rfl) : PI X tg e (iTup K te) := by subst z; exact pi_tup he
theorem q_fld {f : Str} (he : PE X e te) (hb : attributeBase e f X.env (eval e X.env) = eval e X.env) (z : X.K = K := by rfl) : PE X (.Attribute e f pos) (tFld K te f) := by subst z; exact pe_fld he hb
end
end Tm

/-! Td: data compared at depth -/
namespace Tm
open PySem PySem.Spec PyProof.Rows L2
theorem eqvAll_ints : ∀ ns ms : List Int, PyData.eqvAll (ns.map PyData.int) (ms.map PyData.int) = decide (ns = ms)
  | [], [] => by simp [PyData.eqvAll]
  | [], _ :: _ => by simp [PyData.eqvAll]
  | _ :: _, [] => by simp [PyData.eqvAll]
  | x :: xs, y :: ys => by
    rw [List.map_cons, List.map_cons, PyData.eqvAll, eqvAll_ints xs ys, PyData.eqv]
    by_cases e : x = y <;> by_cases e2 : xs = ys <;> simp [e, e2]
theorem canLay_ints : ∀ ns : List Int, PyData.canLayAll0 (ns.map PyData.int) = true
  | [] => by simp [PyData.canLayAll0]
  | x :: xs => by rw [List.map_cons, PyData.canLayAll0, canLay_ints xs, PyData.canLay0]; rfl
theorem depth_ints : ∀ ns : List Int, PyData.depthAll (ns.map PyData.int) ≤ 1
  | [] => by simp [PyData.depthAll]
  | x :: xs => by
    have := depth_ints xs
    rw [List.map_cons, PyData.depthAll]
    have e : PyData.depth (PyData.int x) ≤ 1 := by simp [PyData.depth]
    omega
theorem dpAll_ints {K : PySem.W.Frag} {H : Hp} : ∀ ns : List Int, DpAll K H (ns.map V.int) (ns.map PyData.int)
  | [] => .nil
  | x :: xs => .cons (.int x) (dpAll_ints xs)
theorem dp_ints {K : PySem.W.Frag} {H : Hp} {p : Addr} {ns : List Int} (h : SqL K H p (ns.map V.int)) : Dp K H (.ref p) (.list (ns.map PyData.int)) := .lst h (dpAll_ints ns)
theorem dp_tints {K : PySem.W.Frag} {H : Hp} {p : Addr} {ns : List Int} (h : SqT K H p (ns.map V.int)) : Dp K H (.ref p) (.tuple (ns.map PyData.int)) := .tup h (dpAll_ints ns)
theorem shaped_of {d : PyData} (a : d.canLay0 = true) (b : d.depth ≤ 64) : SeqAt.shaped d = true := by
  unfold SeqAt.shaped
  rw [a, decide_eq_true b]; rfl
theorem shaped_ints (ns : List Int) : SeqAt.shaped (.list (ns.map PyData.int)) = true := shaped_of (by rw [PyData.canLay0]; exact canLay_ints ns) (by have := depth_ints ns; rw [PyData.depth]; omega)
theorem shaped_tints (ns : List Int) : SeqAt.shaped (.tuple (ns.map PyData.int)) = true := shaped_of (by rw [PyData.canLay0]; exact canLay_ints ns) (by have := depth_ints ns; rw [PyData.depth]; omega)
theorem eqv_ints (ns ms : List Int) : PyData.eqv (.list (ns.map PyData.int)) (.list (ms.map PyData.int)) = decide (ns = ms) := by rw [PyData.eqv]; exact eqvAll_ints ns ms
theorem eqv_tints (ns ms : List Int) : PyData.eqv (.tuple (ns.map PyData.int)) (.tuple (ms.map PyData.int)) = decide (ns = ms) := by rw [PyData.eqv]; exact eqvAll_ints ns ms
section
variable {H : Hp} {Q : VK} {K : PySem.W.Frag}
theorem i_eqLL {p q : Addr} {ns ms : List Int} (a : SqL K H p (ns.map V.int)) (b : SqL K H q (ms.map V.int)) (h : Q (.bl (decide (ns = ms))) H) : rEqD K (.ref p) (.ref q) H Q :=
  i_eqD (dp_ints a) (dp_ints b) (shaped_ints ns) (shaped_ints ms) (by rw [eqv_ints]; exact h)
theorem i_neLL {p q : Addr} {ns ms : List Int} (a : SqL K H p (ns.map V.int)) (b : SqL K H q (ms.map V.int)) (h : Q (.bl (!decide (ns = ms))) H) : rNeD K (.ref p) (.ref q) H Q :=
  i_neD (dp_ints a) (dp_ints b) (shaped_ints ns) (shaped_ints ms) (by rw [eqv_ints]; exact h)
theorem i_eqTT {p q : Addr} {ns ms : List Int} (a : SqT K H p (ns.map V.int)) (b : SqT K H q (ms.map V.int)) (h : Q (.bl (decide (ns = ms))) H) : rEqD K (.ref p) (.ref q) H Q :=
  i_eqD (dp_tints a) (dp_tints b) (shaped_tints ns) (shaped_tints ms) (by rw [eqv_tints]; exact h)
theorem i_eqT2 {p q : Addr} {a b c d : Int} (h1 : SqT K H p [.int a, .int b]) (h2 : SqT K H q [.int c, .int d]) (h : Q (.bl (decide (a = c ∧ b = d))) H) : rEqD K (.ref p) (.ref q) H Q := by
  refine i_eqTT (ns := [a, b]) (ms := [c, d]) h1 h2 ?_
  have e : decide ([a, b] = [c, d]) = decide (a = c ∧ b = d) := by by_cases x : a = c <;> by_cases y : b = d <;> simp [x, y]
  rw [e]; exact h
end
end Tm

/-! Tl: lists cut, written, repeated -/
namespace Tm
open PySem PySem.Spec PyProof.Rows L2
theorem sIx_n (n d k : Nat) : HT.sIx n d (some (k : Int)) = min k n := HT.sIx_nat n d k
theorem cut_from (xs : List V) (k : Nat) : cutV xs (some (k : Int)) none = xs.drop k := by
  show (xs.drop (HT.sIx xs.length 0 (some (k : Int)))).take (xs.length - HT.sIx xs.length 0 (some (k : Int))) = _
  rw [sIx_n]
  apply List.ext_getElem?
  intro i
  rw [List.getElem?_take, List.getElem?_drop, List.getElem?_drop]
  by_cases h : k ≤ xs.length
  · rw [Nat.min_eq_left h]
    by_cases h2 : i < xs.length - k
    · rw [if_pos h2]
    · rw [if_neg h2, List.getElem?_eq_none (by omega)]
  · rw [Nat.min_eq_right (by omega), if_neg (by omega), List.getElem?_eq_none (by omega)]
theorem cut_to (xs : List V) (k : Nat) : cutV xs none (some (k : Int)) = xs.take k := by
  show (xs.drop 0).take (HT.sIx xs.length xs.length (some (k : Int)) - 0) = _
  rw [sIx_n, List.drop_zero, Nat.sub_zero]
  apply List.ext_getElem?
  intro i
  rw [List.getElem?_take, List.getElem?_take]
  by_cases h : i < k
  · by_cases h2 : i < xs.length
    · rw [if_pos (by omega), if_pos h]
    · rw [if_neg (by omega), if_pos h, List.getElem?_eq_none (by omega)]
  · rw [if_neg (by omega), if_neg h]
theorem cut_both (xs : List V) (a b : Nat) : cutV xs (some (a : Int)) (some (b : Int)) = (xs.drop a).take (b - a) := by
  show (xs.drop (HT.sIx xs.length 0 (some (a : Int)))).take (HT.sIx xs.length xs.length (some (b : Int)) - HT.sIx xs.length 0 (some (a : Int))) = _
  rw [sIx_n, sIx_n]
  apply List.ext_getElem?
  intro i
  rw [List.getElem?_take, List.getElem?_take, List.getElem?_drop, List.getElem?_drop]
  by_cases h3 : a + i < xs.length
  · have e1 : min a xs.length = a := Nat.min_eq_left (by omega)
    rw [e1]
    by_cases h2 : i < b - a
    · rw [if_pos (by omega), if_pos h2]
    · rw [if_neg (by omega), if_neg h2]
  · have e2 : xs[a + i]? = none := List.getElem?_eq_none (by omega)
    rw [e2, if_neg (by omega)]
    split <;> rfl
theorem cut_all (xs : List V) : cutV xs none none = xs := by
  show (xs.drop 0).take (xs.length - 0) = _
  rw [List.drop_zero, Nat.sub_zero, List.take_length]
theorem flat_rep {α : Type} (x : α) (n : Nat) : (List.replicate n [x]).flatten = List.replicate n x := by
  induction n with
  | zero => rfl
  | succ n ih => rw [List.replicate_succ, List.flatten_cons, ih, List.replicate_succ]; rfl
theorem rep_map {α : Type} (f : α → V) (x : α) (n : Nat) : (List.replicate n [f x]).flatten = (List.replicate n x).map f := by rw [flat_rep, List.map_replicate]
theorem ixN_nat {n : Nat} {k : Int} {j : Nat} (e : k = (j : Int)) (h : j < n) : ixN n k = some j := by
  subst e
  unfold ixN
  rw [if_pos (by omega), if_pos (by omega), Int.toNat_natCast]
def kG2 (t : TSet) (o : V) (v : V) (σ : St) (nx : St → Hp → Prop) : VK := fun i H => t o i v H fun H3 => nx σ H3
def kG1 (ti : TE) (t : TSet) (v : V) (σ : St) (nx : St → Hp → Prop) : VK := fun o H => ti σ H (kG2 t o v σ nx)
section
variable {σ σ' : St} {H : Hp} {Q : VK} {nx : St → Hp → Prop} {K : PySem.W.Frag}
theorem i_gSub {to ti : TE} {t : TSet} {v : V} (h : to σ H (kG1 ti t v σ nx)) : gSub to ti t v σ H nx := h
theorem i_kG1 {ti : TE} {t : TSet} {v o : V} (h : ti σ H (kG2 t o v σ nx)) : kG1 ti t v σ nx o H := h
/-- xs[k] = v, the place told -/
theorem i_kG2 {p : Addr} {xs : List V} {k : Int} {v : V} (j : Nat) (hp : H p = some (.lst xs)) (e : k = (j : Int)) (l : j < xs.length) (h : nx σ (upd H p (.lst (xs.set j v)))) : kG2 rSetL (.ref p) v σ nx (.int k) H :=
  ⟨p, xs, k, j, rfl, rfl, hp, ixN_nat e l, h⟩
/-- an item of a list of ints, the place told -/
theorem i_ixI {p : Addr} {ds : List Int} {i : Int} {j : Nat} (s : SqL K H p (ds.map V.int)) (e : i.toNat = j) (h0 : 0 ≤ i) (l : i < ds.length) (h : Q (.int (ds.getD j 0)) H) : rIxL K (.ref p) (.int i) H Q := by
  refine i_ixL s (v := .int (ds.getD j 0)) ?_ h
  rw [atI_map V.int ds i 0 h0 l, e]
theorem i_slF {α : Type} {f : α → V} {b : Addr} {l : List α} {k : Int} (j : Nat) (s : SqL K H b (l.map f)) (h : ∀ p, H p = none → Q (.ref p) (upd H p (.lst ((l.drop j).map f)))) (e : k = (j : Int) := by first | rfl | omega) : rSlL K (.ref b) (some k) none H Q := by
  subst e; refine i_slL s fun p hp => ?_
  rw [cut_from, ← List.map_drop]; exact h p hp
theorem i_slT {α : Type} {f : α → V} {b : Addr} {l : List α} {k : Int} (j : Nat) (s : SqL K H b (l.map f)) (h : ∀ p, H p = none → Q (.ref p) (upd H p (.lst ((l.take j).map f)))) (e : k = (j : Int) := by first | rfl | omega) : rSlL K (.ref b) none (some k) H Q := by
  subst e; refine i_slL s fun p hp => ?_
  rw [cut_to, ← List.map_take]; exact h p hp
theorem i_slB {α : Type} {f : α → V} {b : Addr} {l : List α} {k k' : Int} (j j' : Nat) (s : SqL K H b (l.map f)) (h : ∀ p, H p = none → Q (.ref p) (upd H p (.lst (((l.drop j).take (j' - j)).map f)))) (e : k = (j : Int) := by first | rfl | omega) (e' : k' = (j' : Int) := by first | rfl | omega) : rSlL K (.ref b) (some k) (some k') H Q := by
  subst e; subst e'; refine i_slL s fun p hp => ?_
  rw [cut_both, ← List.map_drop, ← List.map_take]; exact h p hp
theorem getD_nn {ds : List Int} (h : ∀ d ∈ ds, 0 ≤ d) (k : Nat) : 0 ≤ ds.getD k 0 := by
  by_cases l : k < ds.length
  · exact h _ (getD_mem' ds k 0 l)
  · rw [List.getD_eq_getElem?_getD, List.getElem?_eq_none (by omega)]; exact Int.le_refl _
end
end Tm

/-! Tn: the octets of a number -/
namespace Tm
open PySem PySem.Spec PyProof.Rows L2
/-! the mathematics: the octets of a number -/
def lit (n : Nat) (r : Int) : List Int := (List.range n).map fun j => r / 256 ^ j % 256
def rowOf (n : Nat) (r : Int) : List Int := (lit n r).reverse
def numOf (l : List Int) : Int := l.foldl (fun n o => n * 256 + o) 0
theorem lit_succ (n : Nat) (r : Int) : lit (n + 1) r = lit n r ++ [r / 256 ^ n % 256] := by
  unfold lit; rw [List.range_succ, List.map_append]; rfl
theorem lit_len (n : Nat) (r : Int) : (lit n r).length = n := by unfold lit; rw [List.length_map, List.length_range]
theorem rowOf_succ (n : Nat) (r : Int) : rowOf (n + 1) r = (r / 256 ^ n % 256) :: rowOf n r := by
  unfold rowOf; rw [lit_succ, List.reverse_append]; rfl
theorem rowOf_len (n : Nat) (r : Int) : (rowOf n r).length = n := by unfold rowOf; rw [List.length_reverse, lit_len]
theorem foldl_from (l : List Int) : ∀ z : Int, l.foldl (fun n o => n * 256 + o) z = z * 256 ^ l.length + numOf l := by
  induction l with
  | nil => intro z; simp [numOf]
  | cons x xs ih =>
    intro z
    show xs.foldl _ (z * 256 + x) = _
    have e : numOf (x :: xs) = xs.foldl (fun n o => n * 256 + o) (0 * 256 + x) := rfl
    rw [ih, e, ih, List.length_cons, Int.pow_succ]
    grind
theorem numOf_cons (x : Int) (l : List Int) : numOf (x :: l) = x * 256 ^ l.length + numOf l := by
  show l.foldl _ (0 * 256 + x) = _
  rw [foldl_from]; grind
theorem pow_div_up (r : Int) (n : Nat) : r / 256 ^ (n + 1) = r / 256 ^ n / 256 := by
  rw [Int.pow_succ, Int.ediv_ediv_of_nonneg (Int.le_of_lt (Int.pow_pos (by decide)))]
theorem numOf_rowOf (r : Int) : ∀ n : Nat, numOf (rowOf n r) = r - 256 ^ n * (r / 256 ^ n)
  | 0 => by show (0 : Int) = r - 1 * (r / 1); rw [Int.ediv_one]; omega
  | n + 1 => by
    rw [rowOf_succ, numOf_cons, rowOf_len, numOf_rowOf r n, pow_div_up, Int.pow_succ]
    have e : r / 256 ^ n % 256 = r / 256 ^ n - 256 * (r / 256 ^ n / 256) := by omega
    rw [e]
    grind
theorem numOf_row (r : Int) (n : Nat) (h0 : 0 ≤ r) (h1 : r < 256 ^ n) : numOf (rowOf n r) = r := by
  rw [numOf_rowOf, Int.ediv_eq_zero_of_lt h0 h1]; omega
theorem numOf_take {l : List Int} {i : Nat} {z : Int} (h : l[i]? = some z) : numOf (l.take (i + 1)) = numOf (l.take i) * 256 + z := by
  unfold numOf
  rw [List.take_add_one, h, List.foldl_append]; rfl
end Tm

/-! Tc: contents of pages as data -/
namespace Tm
open PySem PySem.Spec PyProof.Rows L2
inductive Cont where
  | mark (n : Int)
  | node (lv : Int) (ch : List (Option (Int × Int)))
  | item (ep ix : Int) (la : Bool) (key : Int) (val : Option (List Int))
  | root (n ep : Int) (tr : Option (Int × Int)) (jr : List Int) (pl : List (Option Int)) (er bd : List Int)
def dAd : Option (Int × Int) → PyData
  | none => .none
  | some q => .tuple [.int q.1, .int q.2]
def dPl : Option Int → PyData
  | none => .none
  | some b => .int b
def dTi (l : List Int) : PyData := .tuple (l.map .int)
def dVal : Option (List Int) → PyData
  | none => .none
  | some l => dTi l
def dC : Cont → PyData
  | .mark n => .tuple [.str "mark", .int n]
  | .node lv ch => .tuple [.str "node", .int lv, .tuple (ch.map dAd)]
  | .item ep ix la key val => .tuple [.str "item", .int ep, .int ix, .bool la, .int key, dVal val]
  | .root n ep tr jr pl er bd => .tuple [.str "root", .int n, .int ep, dAd tr, dTi jr, .tuple (pl.map dPl), dTi er, dTi bd]
/-! what fits -/
def cLo (m n : Int) : Bool := decide (0 ≤ n ∧ n < m)
def below (m : Int) (l : List Int) : Bool := l.all (cLo m)
def fAd : Option (Int × Int) → Bool
  | none => true
  | some q => below 48 [q.1] && below 32 [q.2]
def fVal : Option (List Int) → Bool
  | none => true
  | some l => decide (l.length ≤ 448) && below 256 l
def named (pl : List (Option Int)) : List Int := pl.filterMap id
def fC : Cont → Bool
  | .mark n => below 4294967296 [n]
  | .node lv ch => below 256 [lv] && (decide (ch.length = 32) && ch.all fAd)
  | .item ep ix _ key val => below 4294967296 [ep, ix, key] && fVal val
  | .root n ep tr jr pl er bd => !(decide (48 < jr.length) || (decide (48 < pl.length) || (decide (48 < er.length) || decide (48 < bd.length)))) && (below 4294967296 (n :: ep :: er) && (fAd tr && below 48 (jr ++ (named pl ++ bd))))
/-! the bodies -/
def bAd : Option (Int × Int) → List Int
  | none => [255, 255]
  | some q => [q.1, q.2]
def bPl (p : Option Int) : Int := p.getD 255
def bVal : Option (List Int) → List Int
  | none => [0]
  | some l => [1] ++ rowOf 2 l.length ++ l
def bit (b : Bool) : Int := if b then 1 else 0
def body : Cont → List Int
  | .mark n => rowOf 4 n
  | .node lv ch => lv :: ch.flatMap bAd
  | .item ep ix la key val => rowOf 4 ep ++ rowOf 4 ix ++ [bit la] ++ rowOf 4 key ++ bVal val
  | .root n ep tr jr pl er bd => rowOf 4 n ++ rowOf 4 ep ++ bAd tr ++ ([(jr.length : Int)] ++ jr ++ [(pl.length : Int)] ++ pl.map bPl ++ [(er.length : Int)]) ++ er.flatMap (rowOf 4) ++ ([(bd.length : Int)] ++ bd)
/-! ### data in heaps -/
section
variable {K : PySem.W.Frag} {H H' : Hp}
mutual
theorem dp_same (e : Same H H') : ∀ (d : PyData) (v : V), Dp K H v d → Dp K H' v d
  | .none, _, h => by cases h; exact .non
  | .bool b, _, h => by cases h; exact .bl b
  | .int i, _, h => by cases h; exact .int i
  | .str x, _, h => by cases h; exact .str x
  | .list ds, _, h => by
    cases h with
    | lst hs ha => exact .lst (e.seq hs) (dpAll_same e ds _ ha)
  | .tuple ds, _, h => by
    cases h with
    | tup hs ha => exact .tup (same_tup e hs) (dpAll_same e ds _ ha)
  | .dict _, _, h => by cases h
theorem dpAll_same (e : Same H H') : ∀ (ds : List PyData) (vs : List V), DpAll K H vs ds → DpAll K H' vs ds
  | [], _, h => by cases h; exact .nil
  | d :: ds, _, h => by
    cases h with
    | cons h1 h2 => exact .cons (dp_same e d _ h1) (dpAll_same e ds _ h2)
end
theorem dp_int {v : V} {i : Int} (h : Dp K H v (.int i)) : v = .int i := by cases h; rfl
theorem dp_bool {v : V} {b : Bool} (h : Dp K H v (.bool b)) : v = .bl b := by cases h; rfl
theorem dp_str {v : V} {x : Str} (h : Dp K H v (.str x)) : v = .str x := by cases h; rfl
theorem dp_none {v : V} (h : Dp K H v .none) : v = .non := by cases h; rfl
theorem dp_tup {v : V} {ds : List PyData} (h : Dp K H v (.tuple ds)) : ∃ a xs, v = .ref a ∧ SqT K H a xs ∧ DpAll K H xs ds := by
  cases h with
  | tup hs ha => exact ⟨_, _, rfl, hs, ha⟩
theorem dpAll_ints' : ∀ {l : List Int} {vs : List V}, DpAll K H vs (l.map PyData.int) → vs = l.map V.int
  | [], _, h => by cases h; rfl
  | x :: r, _, h => by
    cases h with
    | cons h1 h2 => rw [dp_int h1, dpAll_ints' h2]; rfl
theorem dp_ti {v : V} {l : List Int} (h : Dp K H v (dTi l)) : ∃ a, v = .ref a ∧ SqT K H a (l.map V.int) := by
  obtain ⟨a, xs, rfl, hs, ha⟩ := dp_tup h
  rw [dpAll_ints' ha] at hs
  exact ⟨a, rfl, hs⟩
theorem ti_dp {a : Addr} {l : List Int} (h : SqT K H a (l.map V.int)) : Dp K H (.ref a) (dTi l) := dp_tints h
theorem dp_ad_some {v : V} {q : Int × Int} (h : Dp K H v (dAd (some q))) : ∃ a, v = .ref a ∧ SqT K H a [.int q.1, .int q.2] := dp_ti (l := [q.1, q.2]) h
theorem ad_dp {a : Addr} {b g : Int} (h : SqT K H a [.int b, .int g]) : Dp K H (.ref a) (dAd (some (b, g))) := dp_tints (ns := [b, g]) h
theorem ad_non {v : V} {q : Option (Int × Int)} (h : Dp K H v (dAd q)) : decide (v = .non) = q.isNone := by
  cases q with
  | none => rw [dp_none h]; rfl
  | some q =>
    obtain ⟨a, rfl, _⟩ := dp_ad_some h
    simp
theorem pl_dp : ∀ {p : Option Int} {v : V}, Dp K H v (dPl p) → v = (match p with | none => .non | some b => .int b)
  | none, _, h => dp_none h
  | some b, _, h => dp_int h
def vPl : Option Int → V
  | none => .non
  | some b => .int b
theorem dpAll_pl : ∀ {l : List (Option Int)} {vs : List V}, DpAll K H vs (l.map dPl) → vs = l.map vPl
  | [], _, h => by cases h; rfl
  | x :: r, _, h => by
    cases h with
    | cons h1 h2 =>
      rw [dpAll_pl h2]
      cases x with
      | none => rw [dp_none h1]; rfl
      | some b => rw [dp_int h1]; rfl
theorem pl_dpAll : ∀ (l : List (Option Int)), DpAll K H (l.map vPl) (l.map dPl)
  | [] => .nil
  | none :: r => .cons .non (pl_dpAll r)
  | some b :: r => .cons (.int b) (pl_dpAll r)
theorem dpAll_get : ∀ {ds : List PyData} {vs : List V} {i : Nat} {v : V}, DpAll K H vs ds → vs[i]? = some v → ∃ d, ds[i]? = some d ∧ Dp K H v d
  | [], _, i, v, h, e => by cases h; simp at e
  | d :: ds, _, 0, v, h, e => by
    cases h with
    | cons h1 h2 => obtain rfl := Option.some.inj e; exact ⟨d, rfl, h1⟩
  | d :: ds, _, i + 1, v, h, e => by
    cases h with
    | cons h1 h2 =>
      obtain ⟨d', h', q⟩ := dpAll_get (i := i) h2 (by simpa using e)
      exact ⟨d', by simpa using h', q⟩
theorem dpAll_len : ∀ {ds : List PyData} {vs : List V}, DpAll K H vs ds → vs.length = ds.length
  | [], _, h => by cases h; rfl
  | d :: ds, _, h => by
    cases h with
    | cons h1 h2 => rw [List.length_cons, List.length_cons, dpAll_len h2]
/-- a list that is no part of the data may change: data made of tuples alone -/
theorem dpAd_upd {D : Addr} {o : HO} {xs : List V} (hk : H D = some (.lst xs)) : ∀ {c : Option (Int × Int)} {v : V}, Dp K H v (dAd c) → Dp K (upd H D o) v (dAd c)
  | none, _, h => by rw [dp_none h]; exact .non
  | some q, _, h => by
    obtain ⟨a, rfl, hT⟩ := dp_ad_some h
    refine ad_dp ?_
    rcases hT with (z | ⟨u, z⟩) | z
    · exact .inl (.inl (upd_get (ne_of z hk (by intro e; cases e)) z))
    · exact .inl (.inr ⟨u, upd_get (ne_of z hk (by intro e; cases e)) z⟩)
    · exact .inr z
theorem dpAll_upd {D : Addr} {o : HO} {xs : List V} (hk : H D = some (.lst xs)) : ∀ {ch : List (Option (Int × Int))} {vs : List V}, DpAll K H vs (ch.map dAd) → DpAll K (upd H D o) vs (ch.map dAd)
  | [], _, h => by cases h; exact .nil
  | c :: ch, _, h => by
    cases h with
    | cons h1 h2 => exact .cons (dpAd_upd hk h1) (dpAll_upd hk h2)
theorem dpAll_snoc : ∀ {ds : List PyData} {vs : List V} {d : PyData} {v : V}, DpAll K H vs ds → Dp K H v d → DpAll K H (vs ++ [v]) (ds ++ [d])
  | [], _, d, v, h, q => by cases h; exact .cons q .nil
  | _ :: _, _, d, v, h, q => by
    cases h with
    | cons h1 h2 => exact .cons h1 (dpAll_snoc h2 q)
/-- a content's tuple, part by part -/
theorem c_mark {v : V} {n : Int} (h : Dp K H v (dC (.mark n))) : ∃ p, v = .ref p ∧ SqT K H p [.str "mark", .int n] := by
  obtain ⟨p, xs, rfl, hs, ha⟩ := dp_tup h
  cases ha with | cons a1 ha => cases ha with | cons a2 ha => cases ha; cases a1; cases a2; exact ⟨p, rfl, hs⟩
theorem c_node {v : V} {lv : Int} {ch : List (Option (Int × Int))} (h : Dp K H v (dC (.node lv ch))) : ∃ p c xs, v = .ref p ∧ SqT K H p [.str "node", .int lv, .ref c] ∧ SqT K H c xs ∧ DpAll K H xs (ch.map dAd) := by
  obtain ⟨p, xs, rfl, hs, ha⟩ := dp_tup h
  cases ha with | cons a1 ha => cases ha with | cons a2 ha => cases ha with | cons a3 ha =>
    cases ha; cases a1; cases a2
    obtain ⟨c, ys, rfl, hc, hd⟩ := dp_tup a3
    exact ⟨p, c, ys, rfl, hs, hc, hd⟩
theorem c_item {v : V} {ep ix key : Int} {la : Bool} {val : Option (List Int)} (h : Dp K H v (dC (.item ep ix la key val))) : ∃ p u, v = .ref p ∧ SqT K H p [.str "item", .int ep, .int ix, .bl la, .int key, u] ∧ Dp K H u (dVal val) := by
  obtain ⟨p, xs, rfl, hs, ha⟩ := dp_tup h
  cases ha with | cons a1 ha => cases ha with | cons a2 ha => cases ha with | cons a3 ha => cases ha with | cons a4 ha => cases ha with | cons a5 ha => cases ha with | cons a6 ha =>
    cases ha; cases a1; cases a2; cases a3; cases a4; cases a5
    exact ⟨p, _, rfl, hs, a6⟩
theorem c_root {v : V} {n ep : Int} {tr : Option (Int × Int)} {jr : List Int} {pl : List (Option Int)} {er bd : List Int} (h : Dp K H v (dC (.root n ep tr jr pl er bd))) :
    ∃ p t j q e d, v = .ref p ∧ SqT K H p [.str "root", .int n, .int ep, t, .ref j, .ref q, .ref e, .ref d] ∧ Dp K H t (dAd tr) ∧ SqT K H j (jr.map V.int) ∧ SqT K H q (pl.map vPl) ∧ SqT K H e (er.map V.int) ∧ SqT K H d (bd.map V.int) := by
  obtain ⟨p, xs, rfl, hs, ha⟩ := dp_tup h
  cases ha with | cons a1 ha => cases ha with | cons a2 ha => cases ha with | cons a3 ha => cases ha with | cons a4 ha => cases ha with | cons a5 ha => cases ha with | cons a6 ha => cases ha with | cons a7 ha => cases ha with | cons a8 ha =>
    cases ha; cases a1; cases a2; cases a3
    obtain ⟨j, rfl, hj⟩ := dp_ti a5
    obtain ⟨e, rfl, he⟩ := dp_ti a7
    obtain ⟨d, rfl, hd⟩ := dp_ti a8
    obtain ⟨q, ys, rfl, hq, hqa⟩ := dp_tup a6
    rw [dpAll_pl hqa] at hq
    exact ⟨p, _, j, q, e, d, rfl, hs, a4, hj, hq, he, hd⟩
theorem mark_c {p : Addr} {n : Int} (h : SqT K H p [.str "mark", .int n]) : Dp K H (.ref p) (dC (.mark n)) := .tup h (.cons (.str _) (.cons (.int _) .nil))
theorem node_c {p c : Addr} {lv : Int} {xs : List V} {ch : List (Option (Int × Int))} (h : SqT K H p [.str "node", .int lv, .ref c]) (hc : SqT K H c xs) (hd : DpAll K H xs (ch.map dAd)) : Dp K H (.ref p) (dC (.node lv ch)) :=
  .tup h (.cons (.str _) (.cons (.int _) (.cons (.tup hc hd) .nil)))
theorem item_c {p : Addr} {ep ix key : Int} {la : Bool} {u : V} {val : Option (List Int)} (h : SqT K H p [.str "item", .int ep, .int ix, .bl la, .int key, u]) (hu : Dp K H u (dVal val)) : Dp K H (.ref p) (dC (.item ep ix la key val)) :=
  .tup h (.cons (.str _) (.cons (.int _) (.cons (.int _) (.cons (.bl _) (.cons (.int _) (.cons hu .nil))))))
theorem root_c {p j q e d : Addr} {t : V} {n ep : Int} {tr : Option (Int × Int)} {jr : List Int} {pl : List (Option Int)} {er bd : List Int} (h : SqT K H p [.str "root", .int n, .int ep, t, .ref j, .ref q, .ref e, .ref d])
    (ht : Dp K H t (dAd tr)) (hj : SqT K H j (jr.map V.int)) (hq : SqT K H q (pl.map vPl)) (he : SqT K H e (er.map V.int)) (hd : SqT K H d (bd.map V.int)) : Dp K H (.ref p) (dC (.root n ep tr jr pl er bd)) :=
  .tup h (.cons (.str _) (.cons (.int _) (.cons (.int _) (.cons ht (.cons (ti_dp hj) (.cons (.tup hq (pl_dpAll pl)) (.cons (ti_dp he) (.cons (ti_dp hd) .nil))))))))
end
/-! ### further rules -/
section
variable {X : Cx} {K : PySem.W.Frag} {tg e : Expr} {te : TE} {t : TA} {p : Pos} {es : List Expr}
/-- what is walked is a list or a tuple -/
def iLT (K : PySem.W.Frag) (te : TE) : TI := fun σ H R => iList K te σ H R ∨ iTup K te σ H R
theorem q_pilt (he : PE X e te) (z : X.K = K := by rfl) : PI X tg e (iLT K te) :=
  ⟨fun pins s σ H R I h => h.elim (fun h => (q_pil (tg := tg) he z).run pins s σ H R I h) (fun h => (q_pit (tg := tg) he z).run pins s σ H R I h)⟩
def rdStar (K : PySem.W.Frag) (te : TE) (t : TA) : TA := fun σ H Q => te σ H fun x H1 => ∃ p xs, x = V.ref p ∧ (SqT K H1 p xs ∨ SqL K H1 p xs) ∧ t σ H1 fun ys H2 => Q (xs ++ ys) H2
theorem q_star (he : PE X e te) (hr : PA X es t) (hs : starEach (.Starred e p :: es) X.env = (true, eval e X.env) :: starEach es X.env := by rfl) (z : X.K = K := by rfl) : PA X (.Starred e p :: es) (rdStar K te t) := by
  subst z; exact StX.pa_star he hr hs
def kSt2 (xs : List V) (Q : List V → Hp → Prop) : List V → Hp → Prop := fun ys H2 => Q (xs ++ ys) H2
def kSt1 (K : PySem.W.Frag) (t : TA) (σ : St) (Q : List V → Hp → Prop) : VK := fun x H1 => ∃ p xs, x = V.ref p ∧ (SqT K H1 p xs ∨ SqL K H1 p xs) ∧ t σ H1 (kSt2 xs Q)
end
section
variable {σ : St} {H : Hp} {Q : VK} {K : PySem.W.Frag}
theorem i_star {te : TE} {t : TA} {Q : List V → Hp → Prop} (h : te σ H (kSt1 K t σ Q)) : rdStar K te t σ H Q := h
theorem i_kSt1L {t : TA} {Q : List V → Hp → Prop} {p : Addr} {xs : List V} (s : SqL K H p xs) (h : t σ H (kSt2 xs Q)) : kSt1 K t σ Q (.ref p) H := ⟨p, xs, rfl, .inr s, h⟩
theorem i_kSt1T {t : TA} {Q : List V → Hp → Prop} {p : Addr} {xs : List V} (s : SqT K H p xs) (h : t σ H (kSt2 xs Q)) : kSt1 K t σ Q (.ref p) H := ⟨p, xs, rfl, .inl s, h⟩
theorem i_kSt2 {xs ys : List V} {Q : List V → Hp → Prop} (h : Q (xs ++ ys) H) : kSt2 xs Q ys H := h
theorem i_all {a : Addr} {bs : List Bool} (s : SqL K H a (bs.map V.bl)) (h : Q (.bl (bs.all id)) H) : rAll K [.ref a] H Q := ⟨a, bs, rfl, s, h⟩
theorem i_any {a : Addr} {bs : List Bool} (s : SqL K H a (bs.map V.bl)) (h : Q (.bl (bs.any id)) H) : rAny K [.ref a] H Q := ⟨a, bs, rfl, s, h⟩
end
/-! ### both kinds walked by a comprehension; slices of tuples -/
section
variable {σ : St} {H : Hp} {Q : VK} {K : PySem.W.Frag} {X : Cx}
theorem i_lcLT {i : Nat} {a : Addr} {g : TG} {tt : TT} {te : TE} {vs : List Nat} (e : σ[i]? = some (some (.ref a))) (xs : List V) (Pv : Addr → Nat → Hp → Prop) (s : SqL K H a xs ∨ SqT K H a xs)
    (hsame : ∀ D i H1, Pv D i H1 → Same H H1) (h0 : ∀ D, H D = none → Pv D 0 (upd H D (.lst [])))
    (hs : ∀ D i x H1, H D = none → xs[i]? = some x → Pv D i H1 → g x (wipe σ vs) H1 (kLc1 tt te vs σ D (Pv D (i + 1)))) (hd : ∀ D H1, H D = none → Pv D xs.length H1 → Q (.ref D) H1) :
    iLT K (tVar i) σ H (kLc g tt te vs σ Q) := by
  rcases s with s | s
  · exact .inl (i_iList (i_var e (i_kIL s (i_lcL xs Pv h0 (fun D i H1 _ _ p => (hsame D i H1 p).seq s) hs hd))))
  · exact .inr (i_iTup (i_var e (i_kIT s (i_lcT xs Pv h0 (fun D i H1 _ _ p => same_tup (hsame D i H1 p) s) hs hd))))
theorem i_kLc2t {te : TE} {D : Addr} {N : Hp → Prop} {b : Bool} (e : b = true) (h : te σ H (kLc3 D N)) : kLc2 te σ D N b H := by subst e; exact i_kLc2T h
theorem i_kLc2f {te : TE} {D : Addr} {N : Hp → Prop} {b : Bool} (e : b = false) (h : N H) : kLc2 te σ D N b H := by subst e; exact i_kLc2F h
theorem get_map {α β : Type} {f : α → β} {l : List α} {i : Nat} {y : β} (h : (l.map f)[i]? = some y) : ∃ z, l[i]? = some z ∧ y = f z := by
  rw [List.getElem?_map] at h
  cases e : l[i]? with
  | none => rw [e] at h; cases h
  | some z => rw [e] at h; exact ⟨z, rfl, (Option.some.inj h).symm⟩
theorem tk_bind {α β : Type} {f : α → List β} {l : List α} {i : Nat} {z : α} (h : l[i]? = some z) : (l.take (i + 1)).flatMap f = (l.take i).flatMap f ++ f z := by
  rw [List.take_add_one, h, List.flatMap_append]; simp
theorem lt_of_get {α : Type} {l : List α} {i : Nat} {z : α} (h : l[i]? = some z) : i < l.length := (List.getElem?_eq_some_iff.mp h).1
theorem big {n : Nat} (h : n ≤ 100000) : n ≤ sizeLine := Nat.le_trans h (by decide)
theorem bigl {n : Nat} (h : n ≤ 100000) : n < sizeLine := Nat.lt_of_le_of_lt h (by decide)
theorem tk_map {α β : Type} {f : α → β} {l : List α} {i : Nat} {z : α} (h : l[i]? = some z) : (l.take (i + 1)).map f = (l.take i).map f ++ [f z] := by
  rw [List.take_add_one, h, List.map_append]; rfl
theorem q_slt (z : X.K = K := by rfl) : SlR X (rSlA K) := by subst z; exact sl_tupA
/-- t[k:], k within it -/
theorem i_slTF {b : Addr} {xs : List V} {k : Int} (j : Nat) (s : SqT K H b xs) (hj : 0 < j) (hl : j ≤ xs.length) (h : ∀ p, H p = none → Q (.ref p) (upd H p (.tup (xs.drop j)))) (e : k = (j : Int) := by first | rfl | omega) : rSlA K (.ref b) (some k) none H Q := by
  subst e
  refine ⟨b, xs, rfl, s, fun hw => ?_, fun _ p hp => ?_⟩
  · have := hw.1
    rw [sIx_n] at this
    omega
  · rw [cut_from]; exact h p hp
end
/-! ### steps that name the heap behind -/
section
variable {H H0 : Hp} {Q : VK} {K : PySem.W.Frag}
theorem same_mut {H' : Hp} {l : Addr} (n : H0 l = none) (s : Same H0 H) (k : ∀ b o, b ≠ l → H b = some o → H' b = some o) : Same H0 H' := fun b o e => k b o (ne_of_none e n) (s b o e)
theorem a_lst {xs : List V} (l : xs.length ≤ sizeLine) (h : ∀ p H', Same H H' → H p = none → H' p = some (.lst xs) → Q (.ref p) H') : kLst Q xs H := i_kLst l fun p hp => h p _ (same_upd hp) hp upd_same
theorem a_lstI {l : List Int} {xs : List V} (e : xs = l.map V.int) (z : l.length ≤ 100000) (h : ∀ p H', Same H H' → H p = none → H' p = some (.lst (l.map V.int)) → Q (.ref p) H') : kLst Q xs H := by
  subst e; exact a_lst (big (by rw [List.length_map]; exact z)) h
theorem a_tup {xs : List V} (l : xs.length ≤ sizeLine) (h : ∀ p H', Same H H' → H p = none → H' p = some (.tup xs) → Q (.ref p) H') : kTup Q xs H := i_kTup l fun p hp => h p _ (same_upd hp) hp upd_same
theorem a_cat {a b : Addr} {xs zs : List Int} (ha : H a = some (.lst (xs.map V.int))) (hb : H b = some (.lst (zs.map V.int))) (z : xs.length + zs.length ≤ 100000) (h : ∀ p H', Same H H' → H p = none → H' p = some (.lst ((xs ++ zs).map V.int)) → Q (.ref p) H') : rCat (.ref a) (.ref b) H Q :=
  i_cat ha hb (big (by rw [List.length_map, List.length_map]; exact z)) fun p hp => h p _ (same_upd hp) hp (by rw [upd_same, List.map_append])
theorem a_append {a : Addr} {xs : List Int} {y : Int} (ha : H a = some (.lst (xs.map V.int))) (z : xs.length < 100000) (h : ∀ H', (∀ b o, b ≠ a → H b = some o → H' b = some o) → H' a = some (.lst ((xs ++ [y]).map V.int)) → Q .non H') : rAppend (.ref a) [.int y] H Q :=
  i_append ha (bigl (by rw [List.length_map]; omega)) (h _ (fun b o n e => upd_get n e) (by rw [upd_same, List.map_append]; rfl))
theorem a_extend {a b : Addr} {xs zs : List Int} (ha : H a = some (.lst (xs.map V.int))) (hb : H b = some (.lst (zs.map V.int))) (z : xs.length + zs.length ≤ 100000) (h : ∀ H', (∀ b o, b ≠ a → H b = some o → H' b = some o) → H' a = some (.lst ((xs ++ zs).map V.int)) → Q .non H') : rExtend (.ref a) [.ref b] H Q :=
  i_extend ha hb (big (by rw [List.length_map, List.length_map]; exact z)) (h _ (fun b o n e => upd_get n e) (by rw [upd_same, List.map_append]))
theorem a_listT {p : Addr} {ys : List V} (s : SqT K H p ys) (h : ∀ l H', Same H H' → H l = none → H' l = some (.lst ys) → Q (.ref l) H') : rListOf K [.ref p] H Q := i_listT s fun l hl => h l _ (same_upd hl) hl upd_same
theorem a_listL {p : Addr} {ys : List V} (s : SqL K H p ys) (h : ∀ l H', Same H H' → H l = none → H' l = some (.lst ys) → Q (.ref l) H') : rListOf K [.ref p] H Q := i_listL s fun l hl => h l _ (same_upd hl) hl upd_same
theorem a_tupL {p : Addr} {ys : List V} (s : SqL K H p ys) (h : ∀ l H', Same H H' → H l = none → H' l = some (.tup ys) → Q (.ref l) H') : rTupOf K [.ref p] H Q := i_tupL s fun l hl => h l _ (same_upd hl) hl upd_same
theorem a_rep {a : Addr} {x : Int} {k : Int} (ha : H a = some (.lst [.int x])) (k0 : 0 ≤ k) (k1 : k ≤ 100000) (h : ∀ p H', Same H H' → H p = none → H' p = some (.lst ((List.replicate k.toNat x).map V.int)) → Q (.ref p) H') : rRep (.ref a) (.int k) H Q :=
  i_rep ha (by omega) (by omega) (big (by simp; omega)) fun p hp => h p _ (same_upd hp) hp (by rw [upd_same, rep_map V.int])
end
end Tm

/-! Te: what raises; tuples cut, joined, repeated -/
namespace Tm
open PySem PySem.Spec PyProof.Rows L2
/-- an exception of the class is the handler's -/
theorem exm_own {K : PySem.W.Frag} {C : Addr} (b : PySem.W.subIn K (.ref C) (.type "BaseException") = some true) (i : PySem.W.isClsIn K C = true) (t : PySem.W.typeIn K (.ref C) = some (.type "type")) (s : PySem.W.subIn K (.ref C) (.ref C) = some true) :
    PySem.W.exmOne K (.ref C) (.ref C) = some true := by
  have i' : (PySem.W.clsIn K C).isSome = true := i
  unfold PySem.W.exmOne PySem.W.kitCls
  simp [b, i', t, s]
def kCallS (sp : Sp) (E : XK) (Q : VK) : List V → Hp → Prop := fun vs H => sp vs H Q E
def rIsNotB : R2 := fun x y H Q => ∃ a b, x = .bl a ∧ y = .bl b ∧ Q (.bl (!decide (a = b))) H
theorem o_isnotB {X : Cx} : OpR X (compareOp .IsNot) rIsNotB := op_isnot_bl
section
variable {σ : St} {H : Hp} {Q : VK} {K : PySem.W.Frag} {X : Cx}
theorem i_callS {sp : Sp} {E : St → XK} {t : TA} (h : t σ H (kCall sp (E σ) Q)) : tCallS sp E t σ H Q := h
theorem i_isnotB {a b : Bool} (h : Q (.bl (!decide (a = b))) H) : rIsNotB (.bl a) (.bl b) H Q := ⟨a, b, rfl, rfl, h⟩
/-- an exception of the class c comes to the handler of c -/
theorem i_wOnly {C : Addr} {ts : Addr → Value → Option Addr → TS} {Wout : WX} {D : Ends} {d : Option Addr} (e : PySem.W.exmOne K (.ref C) (.ref C) = some true) (h : ∀ a, H a = none → ts a (.ref C) d D σ H) : wOnly K (.ref C) ts Wout D (.ref C) d σ H :=
  ⟨true, e, fun _ => h, fun q => Bool.noConfusion q⟩
theorem q_repT (z : X.K = K := by rfl) : OpR X (binaryOp .Mult) (rRepT K) := by subst z; exact op_repT
theorem q_catT (z : X.K = K := by rfl) : OpR X (binaryOp .Add) (rCatA K) := by subst z; exact op_catA
theorem a_repT {l : Addr} {x k : Int} (hT : SqT K H l [.int x]) (k0 : 2 ≤ k) (k1 : k ≤ 1000) (h : ∀ p H', Same H H' → H p = none → H' p = some (.tup ((List.replicate k.toNat x).map V.int)) → Q (.ref p) H') : rRepT K (.ref l) (.int k) H Q :=
  ⟨l, k, _, rfl, rfl, hT, by simp, k0, k1, by simp, fun p hp => h p _ (same_upd hp) hp (by rw [upd_same, rep_map V.int])⟩
theorem a_catT {l b : Addr} {xs ys : List V} (hx : SqT K H l xs) (hy : SqT K H b ys) (nx : xs ≠ []) (ny : ys ≠ []) (z : xs.length + ys.length ≤ 1000) (h : ∀ p H', Same H H' → H p = none → H' p = some (.tup (xs ++ ys)) → Q (.ref p) H') : rCatA K (.ref l) (.ref b) H Q :=
  ⟨l, b, xs, ys, rfl, rfl, hx, hy, sz z, fun e => absurd e nx, fun _ e => absurd e ny, fun _ _ p hp => h p _ (same_upd hp) hp upd_same⟩
/-- t[:k] -/
theorem a_slTT {b : Addr} {xs : List V} {k : Int} (j : Nat) (s : SqT K H b xs) (e : k = (j : Int)) (h : ∀ p H', Same H H' → SqT K H' p (xs.take j) → Q (.ref p) H') : rSlA K (.ref b) none (some k) H Q := by
  subst e
  refine ⟨b, xs, rfl, s, fun hw => ?_, fun _ p hp => ?_⟩
  · have w2 := hw.2
    rw [sIx_n] at w2
    refine h b H (Same.refl H) ?_
    rw [List.take_of_length_le (by omega)]; exact s
  · refine h p _ (same_upd hp) (SqT.of ?_)
    rw [upd_same, cut_to]
/-- an item of a list of anything is written -/
theorem a_setV {nx : St → Hp → Prop} {p : Addr} {l : List V} {k : Int} {v : V} (j : Nat) (hp : H p = some (.lst l)) (e : k = (j : Int)) (lt : j < l.length)
    (h : ∀ H', (∀ b o, b ≠ p → H b = some o → H' b = some o) → H' p = some (.lst (l.set j v)) → nx σ H') : kG2 rSetL (.ref p) v σ nx (.int k) H :=
  i_kG2 j hp e lt (h _ (fun b o n q => upd_get n q) upd_same)
end
end Tm

set_option maxHeartbeats 1000000
/-! Tk: dicts of the written part, read and walked; a part of a list written -/
namespace Tm
open PySem PySem.Spec PyProof.Rows L2
/-- what a written dict holds, pair by pair -/
structure KTab (K : PySem.W.Frag) (w : World) (d : Addr) (ps : List (Str × V)) : Prop where
  ex : ∃ (es : Array DictEntry) (n : Nat), K.lookup d = some ⟨.type "dict", none, .dict es n, #[]⟩ ∧ PySem.W.KeysLit w.params es.toList ∧
    Paired (fun (p : Str × V) (e : DictEntry) => (∃ t, e.key = .str p.1 t) ∧ RelV p.2 e.val) ps es.toList
  nd : (ps.map (·.1)).Nodup
  low : (d == sysModules) = false
  get : ∀ p ∈ ps, ∃ u, PySem.W.nsIn K d p.1 = some (some u) ∧ RelV p.2 u
theorem KTab.at_ {K : PySem.W.Frag} {w : World} {d : Addr} {ps : List (Str × V)} (T : KTab K w d ps) {x : Str} {v : V} (h : (x, v) ∈ ps) : KDct K w d x v := by
  obtain ⟨es, n, l, k, _⟩ := T.ex
  obtain ⟨u, e, r⟩ := T.get _ h
  exact ⟨es, n, u, l, k, e, r⟩
def pairsOf (ps : List (Str × V)) : List (Key × V) := ps.map fun p => (Sum.inr p.1, p.2)
theorem tab_vals {P : Program} {w : World} : ∀ {ps : List (Str × V)} {l : List DictEntry}, PySem.W.KeysLit w.params l → Paired (fun (p : Str × V) (e : DictEntry) => (∃ t, e.key = .str p.1 t) ∧ RelV p.2 e.val) ps l →
    ∃ vs : List (Key × Value), KV (pairsOf ps) vs ∧ Pairs (mixKind P w) l vs ∧ vs.map (·.1) = ps.map (fun p => Sum.inr p.1) ∧ ∀ e ∈ l, ∃ k, (mixKind P w).is k e.key = true ∧ e.hash = (mixKind P w).hash k
  | _, _, _, .nil => ⟨[], .nil, .nil, rfl, fun _ h => by cases h⟩
  | p :: ps, e :: l, hk, .cons h t => by
    obtain ⟨⟨tk, e1⟩, r⟩ := h
    obtain ⟨⟨x, t0, e2, e3⟩, hk2⟩ := hk
    obtain ⟨vs, a, b, c, dd⟩ := tab_vals hk2 t
    have ex : x = p.1 := by rw [e1] at e2; injection e2 with z _; exact z.symm
    refine ⟨(Sum.inr p.1, e.val) :: vs, .cons ⟨rfl, r⟩ a, .cons ?_ rfl b, by rw [List.map_cons, List.map_cons, c], fun q hq => ?_⟩
    · rw [e1]; exact keyIs_str p.1 tk
    · rcases List.mem_cons.mp hq with rfl | hq
      · exact ⟨Sum.inr p.1, by rw [e1]; exact keyIs_str p.1 tk, by rw [e3, ex]; rfl⟩
      · exact dd q hq
theorem KTab.dictAt {K : PySem.W.Frag} {P : Program} {w : World} {d : Addr} {ps : List (Str × V)} (T : KTab K w d ps) {h : Heap} (X : K.In h) :
    ∃ (es : Array DictEntry) (ep : Nat) (vs : List (Key × Value)), h.get? d = some ⟨.type "dict", none, .dict es ep, #[]⟩ ∧ KV (pairsOf ps) vs ∧ h.DictAt (mixKind P w) d vs ep := by
  obtain ⟨es, n, l, k, pr⟩ := T.ex
  obtain ⟨vs, a, b, c, dd⟩ := tab_vals (P := P) k pr
  refine ⟨es, n, vs, X d _ l, a, _, es, X d _ l, ⟨rfl, rfl, rfl⟩, rfl, fun e he => dd e (Array.mem_toList_iff.mpr he), b, ?_⟩
  rw [c]
  have nd := T.nd
  generalize ps = qs at nd
  induction qs with
  | nil => exact List.nodup_nil
  | cons q qs ih =>
    rw [List.map_cons, List.nodup_cons] at nd ⊢
    refine ⟨fun hm => nd.1 ?_, ih nd.2⟩
    obtain ⟨y, hy, ey⟩ := List.mem_map.mp hm
    exact List.mem_map.mpr ⟨y, hy, Sum.inr.inj ey⟩
/-- the walk: at turn i a new pair (key, value) -/
def ItK (ps : List (Str × V)) : It := ⟨fun i _ => i < ps.length, fun i H x H' => ∃ t k v, ps[i]? = some (k, v) ∧ x = .ref t ∧ H t = none ∧ H' = upd H t (.tup [.str k, v]), fun i _ => ps.length ≤ i⟩
section
variable {P : Program} {w : World} {K : PySem.W.Frag} {d : Addr} {ps : List (Str × V)}
theorem turn_tab {elts : List Expr} {kk : Nat} {tpos : Pos} (T : KTab K w d ps) (it : Addr) (ep0 : Nat) (hep : ∀ h es ep, K.In h → h.get? d = some ⟨.type "dict", none, .dict es ep, #[]⟩ → ep = ep0) :
    Turn P w K (.Tuple elts kk tpos) (ItK ps) [it] it (fun i h => ∃ x y, IsItemIter h it d i ps.length ep0 x y) where
  mem := List.mem_singleton.mpr rfl
  obj := by
    rintro i h ⟨x, y, st⟩ b hb
    obtain rfl := List.mem_singleton.mp hb
    exact ⟨_, st, fun v z => nomatch z⟩
  keep := by
    rintro i h h' ⟨x, y, st⟩ k
    exact ⟨x, y, k it (List.mem_singleton.mpr rfl) _ st⟩
  item := by
    intro X e1 e2 e3 hc i pins s σ H E I hf st hg
    subst e1 e2 e3
    have hi : i < ps.length := hg
    obtain ⟨es, ep, vs, hgd, kv, hm⟩ := T.dictAt (P := X.prog) I.kIn
    obtain rfl := hep _ _ _ I.kIn hgd
    have hkv : (pairsOf ps)[i]? = some (Sum.inr ps[i].1, ps[i].2) := by unfold pairsOf; rw [List.getElem?_map, List.getElem?_eq_getElem hi]; rfl
    obtain ⟨u, hu, ru⟩ := kv_get kv hkv
    have hl : ps.length = vs.length := by have := Paired.length kv; unfold pairsOf at this; rw [List.length_map] at this; exact this
    obtain ⟨x, y, he⟩ := st
    rw [hl] at he
    have hlt : it < s.heap.objs.size := Heap.lt_size he
    refine wpAny_pyNext_items_item he hm hu fun key g hkey go gT gz gk => ?_
    refine ⟨_, rfl, wpAny_letOwnedTupleGo_items (s := { s with heap := g }) go fun g2 he' sb => ?_⟩
    have hT2 : g2.get? s.heap.objs.size = some { cls := .type "tuple", data := .seq #[key, u] } := (sb.2 _ (Nat.ne_of_gt hlt)).trans gT
    have rk : RelV (.str ps[i].1) key := relV_key (k := Sum.inr ps[i].1) hkey
    have fresh : ObjOk X.prog X.w (upd H s.heap.objs.size (.tup [.str ps[i].1, ps[i].2])) g2 s.heap.objs.size (.tup [.str ps[i].1, ps[i].2]) := by
      refine ⟨sz (by simp), [key, u], .cons rk (.cons ru .nil), ⟨_, hT2, rfl, _, rfl⟩⟩
    have J := I.turnedNew (h' := g2) (t' := s.toks) (ch := [it]) (fun b ob hb e => (sb.2 b (fun z => hb (List.mem_singleton.mpr z))).trans (gk b ob (fun z => hb (List.mem_singleton.mpr z)) e)) hf (Nat.le_refl _) fresh
    refine ⟨.ref s.heap.objs.size, _, J, rfl, ⟨_, ps[i].1, ps[i].2, List.getElem?_eq_getElem hi, rfl, I.hok.fresh (Nat.le_refl _), rfl⟩, ⟨key, u, by rw [hl]; exact he'⟩, fun b hb => ?_⟩
    obtain rfl := List.mem_singleton.mp hb
    exact upd_free (Nat.ne_of_lt hlt) (hf b hb).1
  done := by
    intro X e1 e2 e3 hc i pins s σ H E I hf st hg
    subst e1 e2 e3
    have hi : ps.length ≤ i := hg
    obtain ⟨f0, f1, f2, f3, f4, f5⟩ := hf it (List.mem_singleton.mpr rfl)
    obtain ⟨es, ep, vs, hgd, kv, hm⟩ := T.dictAt (P := X.prog) I.kIn
    obtain rfl := hep _ _ _ I.kIn hgd
    have hl : ps.length = vs.length := by have := Paired.length kv; unfold pairsOf at this; rw [List.length_map] at this; exact this
    obtain ⟨x, y, he⟩ := st
    rw [hl] at he
    exact wpAny_pyNext_items_end (I.ok.hd hc) he hm (List.getElem?_eq_none (by omega)) fun g eb => ⟨rfl, I.turned (t' := s.toks) (fun b ob hb e => eb b ob hb e) f0 f1 f3 f4 f5⟩
  self := by
    rintro A i s Q E ⟨x, y, st⟩ h
    exact PySem.W.kcp_self st h
end
def iTab (ps : List (Str × V)) (d : Addr) (te : TE) : TI := fun σ H R => te σ H fun x H1 => x = .ref d ∧ R (ItK ps) H1
section
variable {X : Cx} {e : Expr} {te : TE} {d : Addr} {ps : List (Str × V)} {apos cpos : Pos}
theorem pi_tab {elts : List Expr} {kk : Nat} {tpos : Pos} (T : KTab X.K X.w d ps) (he : PE X e te) (hb : attributeBase e "items" X.env (eval e X.env) = eval e X.env := by rfl) (hline : (apos.endLine == cpos.line) = true := by rfl) :
    PI X (.Tuple elts kk tpos) (.Call (.Attribute e "items" apos) [] [] cpos) (iTab ps d te) := by
  refine ⟨fun pins s σ H R I h => ?_⟩
  refine wpAny_Call_method (T := "dict") (id := "dict.items") hb rfl hline F.plainAttrs_dict F.slot_dict_items F.type_dict_items ?_
  refine thn (he.run pins s σ H _ I h) fun u s1 hh => ?_
  obtain ⟨x, H1, I1, rx, ex, q⟩ := hh
  subst ex
  obtain rfl : u = Value.ref d := rx
  obtain ⟨es, ep, vs, hgd, kv, hm⟩ := T.dictAt (P := X.prog) I1.kIn
  have hep : ∀ g es' ep', X.K.In g → g.get? d = some ⟨.type "dict", none, .dict es' ep', #[]⟩ → ep' = ep := by
    intro g es' ep' kg eg
    obtain ⟨es0, n0, l0, _, _⟩ := T.ex
    have z1 := (kg d _ l0).symm.trans eg
    have z2 := (I1.kIn d _ l0).symm.trans hgd
    cases z1; cases z2; rfl
  have hl : ps.length = vs.length := by have := Paired.length kv; unfold pairsOf at this; rw [List.length_map] at this; exact this
  refine ⟨hm.dictOf.typeIs, hm.dictOf.mapOf.noDict, ?_⟩
  have I2 : Inv X pins σ H1 { s1 with heap := s1.heap.push { cls := .type "dict_items", data := .fields #[.ref d] } } := I1.kept (t' := s1.toks) fun b ob z => Heap.get?_push_of_some _ z
  have walk : wpAny (model X.prog X.w) X.A (pyIter (.ref s1.heap.objs.size)) (PIE X pins σ (.Tuple elts kk tpos) R) X.xe { s1 with heap := s1.heap.push { cls := .type "dict_items", data := .fields #[.ref d] } } := by
    refine wpAny_pyIter_items (d := d) (knd := mixKind X.prog X.w) ⟨_, Heap.get?_push_size _ rfl, rfl, rfl⟩ (hm.push _) ?_
    refine pi_one (tk := s1.toks) I2 _ (turn_tab T _ ep hep) ⟨.none, .none, ?_⟩ q
    rw [hl]
    exact Heap.get?_push_size _ rfl
  show wpAny _ _ (callWith cpos (.builtin "dict.items") [.ref d] [] []) _ X.xe s1
  refine method_meetsIn F.slot_dict_items F.entry_dict_items rfl ?_
  exact PySem.evalArgs_none ⟨rfl, hm.dictOf.typeIs, F.args_dict_items_1 _, _, meets_dict_items (mixKind X.prog X.w) d T.low, ⟨vs, hm.dictOf⟩, walk⟩
/-! ### o[lo:hi] = a list -/
def kSl3 (v x : V) (a : V) (σ : St) (nx : St → Hp → Prop) : VK := fun c H3 => ∃ l b xs ys i j, x = .ref l ∧ v = .ref b ∧ a = .int i ∧ c = .int j ∧ H3 l = some (.lst xs) ∧ H3 b = some (.lst ys) ∧ l ≠ b ∧ 0 ≤ i ∧ i ≤ j ∧ j ≤ xs.length ∧ xs.length + ys.length ≤ sizeLine ∧ nx σ (upd H3 l (.lst (xs.take i.toNat ++ ys ++ xs.drop j.toNat)))
def kSl2 (th : TE) (v x : V) (σ : St) (nx : St → Hp → Prop) : VK := fun a H2 => th σ H2 (kSl3 v x a σ nx)
def kSl1 (tl th : TE) (v : V) (σ : St) (nx : St → Hp → Prop) : VK := fun x H1 => tl σ H1 (kSl2 th v x σ nx)
def gSlc (to tl th : TE) : TG := fun v σ H nx => to σ H (kSl1 tl th v σ nx)
theorem pg_slc {o lo hi : Expr} {to tl th : TE} {pos p2 : Pos} (ho : PE X o to) (hl : PE X lo tl) (hu : PE X hi th)
    (ha : ∀ v, assign (.Subscript o (.Slice (some lo) (some hi) none p2) pos) X.env v = (holding [v] (eval o X.env) >>= fun ov => holding [v, ov] (eval (.Slice (some lo) (some hi) none p2) X.env) >>= fun iv => standAt pos >>= fun _ => holding [v, ov, iv] (setItem ov iv v) >>= fun _ => release [iv, v, ov] []) := by intro _; rfl) :
    PG X (.Subscript o (.Slice (some lo) (some hi) none p2) pos) (gSlc to tl th) := by
  refine ⟨fun pins s σ H v u Q I r h => ?_⟩
  rw [ha]
  refine wpAny_bind (wpAny_holding ?_)
  refine thn (ho.run pins s σ H _ I h) fun ov s1 hh => ?_
  obtain ⟨x, H1, I1, r1, q1⟩ := hh
  refine wpAny_bind (wpAny_holding ?_)
  refine wpAny_Slice ?_
  refine thn (hl.run pins s1 σ H1 _ I1 q1) fun vl s2 hh2 => ?_
  obtain ⟨a, H2, I2, r2, q2⟩ := hh2
  refine thn (hu.run pins s2 σ H2 _ I2 q2) fun vu s3 hh3 => ?_
  obtain ⟨c, H3, I3, r3, q3⟩ := hh3
  rw [evalPart_none]
  refine wpAny_pure ?_
  have I4 : Inv X pins σ H3 { s3 with heap := s3.heap.push { cls := .type "slice", data := .fields #[vl, vu, .none] } } := I3.kept (t' := s3.toks) fun b ob z => Heap.get?_push_of_some _ z
  obtain ⟨l, b, xs, ys, i, j, rfl, rfl, rfl, rfl, hL, hB, ne, i0, ij, jl, hz, q⟩ := q3
  obtain rfl : ov = Value.ref l := r1
  obtain rfl : u = Value.ref b := r
  refine wpAny_bind (wpAny_standAt (wpAny_bind (wpAny_holding ?_)))
  refine set_slice I4 hL hB ne (Heap.IsSliceOf.new ..) r2 r3 i0 ij jl hz fun s5 I5 => ?_
  exact wpAny_release ⟨σ, _, I5, q⟩
end
section
variable {σ : St} {H : Hp} {Q : VK} {K : PySem.W.Frag} {nx bk ct : St → Hp → Prop} {rt : VK}
theorem i_gSlc {to tl th : TE} {v : V} (h : to σ H (kSl1 tl th v σ nx)) : gSlc to tl th v σ H nx := h
theorem i_kSl1 {tl th : TE} {v x : V} (h : tl σ H (kSl2 th v x σ nx)) : kSl1 tl th v σ nx x H := h
theorem i_kSl2 {th : TE} {v x a : V} (h : th σ H (kSl3 v x a σ nx)) : kSl2 th v x σ nx a H := h
theorem a_slc {l b : Addr} {xs ys : List Int} {i j : Int} (hL : H l = some (.lst (xs.map V.int))) (hB : H b = some (.lst (ys.map V.int))) (ne : l ≠ b) (i0 : 0 ≤ i) (ij : i ≤ j) (jl : j ≤ xs.length) (z : xs.length + ys.length ≤ 100000)
    (h : ∀ H', (∀ b o, b ≠ l → H b = some o → H' b = some o) → H' l = some (.lst ((xs.take i.toNat ++ ys ++ xs.drop j.toNat).map V.int)) → nx σ H') : kSl3 (.ref b) (.ref l) (.int i) σ nx (.int j) H :=
  ⟨l, b, _, _, i, j, rfl, rfl, rfl, rfl, hL, hB, ne, i0, ij, by rw [List.length_map]; exact jl, big (by rw [List.length_map, List.length_map]; exact z), h _ (fun b o n e => upd_get n e) (by rw [upd_same, List.map_append, List.map_append, List.map_take, List.map_drop])⟩
def kTab (ps : List (Str × V)) (d : Addr) (R : It → Hp → Prop) : VK := fun x H1 => x = .ref d ∧ R (ItK ps) H1
theorem i_iTab {ps : List (Str × V)} {d : Addr} {te : TE} {R : It → Hp → Prop} (h : te σ H (kTab ps d R)) : iTab ps d te σ H R := h
theorem i_kTab {ps : List (Str × V)} {d : Addr} {R : It → Hp → Prop} (h : R (ItK ps) H) : kTab ps d R (.ref d) H := ⟨rfl, h⟩
theorem i_forK {ps : List (Str × V)} {g : TG} {tb : TS} (Pv : Nat → St → Hp → Prop) (h0 : Pv 0 σ H)
    (hs : ∀ i k v t σ H, ps[i]? = some (k, v) → Pv i σ H → H t = none → g (.ref t) σ (upd H t (.tup [.str k, v])) (kBody tb ⟨Pv (i + 1), rt, nx, Pv (i + 1)⟩)) (hd : ∀ σ H, Pv ps.length σ H → nx σ H) : kFor g tb ⟨nx, rt, bk, ct⟩ σ (ItK ps) H := by
  refine ⟨fun i m σ H => m = ps.length - i ∧ i ≤ ps.length ∧ Pv i σ H, ⟨ps.length, rfl, Nat.zero_le _, h0⟩, ?_⟩
  rintro i m σ H ⟨rfl, hi, p⟩
  by_cases hlt : i < ps.length
  · refine .inr ⟨hlt, Pv (i + 1), fun σ' H' p' => ⟨ps.length - (i + 1), by omega, rfl, hlt, p'⟩, ?_⟩
    rintro x H' ⟨t, k, v, e, rfl, nt, rfl⟩
    exact hs i k v t σ H e p nt
  · obtain rfl : i = ps.length := by omega
    exact .inl ⟨Nat.le_refl _, hd σ H p⟩
def rKD (K : PySem.W.Frag) (w : World) : R2 := rIxD K w
theorem q_kd {X : Cx} {w : World} (z : X.K = K := by rfl) (zw : X.w = w := by rfl) : IxR X (rKD K w) := by subst z; subst zw; exact ix_kdict
theorem i_kd {w : World} {p : Addr} {x : Str} {v : V} (D : KDct K w p x v) (h : Q v H) : rKD K w (.ref p) (.str x) H Q := ⟨p, x, v, rfl, rfl, D, h⟩
end
end Tm

/-! Tp: pages, written and read -/
namespace Tm
open PySem PySem.Spec PyProof.Rows L2
/-! the two sums -/
def wsum (m : Int) : List Int → Int
  | [] => 0
  | x :: r => x * m + wsum (m - 1) r
theorem wsum_up (l : List Int) : ∀ m : Int, wsum (m + 1) l = wsum m l + l.sum := by
  induction l with
  | nil => intro m; rfl
  | cons x r ih =>
    intro m
    have e : m + 1 - 1 = (m - 1) + 1 := by omega
    rw [wsum, e, ih (m - 1), wsum, List.sum_cons, Int.mul_add]
    omega
theorem wsum_snoc (l : List Int) (z : Int) : ∀ m : Int, wsum m (l ++ [z]) = wsum m l + z * (m - l.length) := by
  induction l with
  | nil => intro m; simp [wsum]
  | cons x r ih =>
    intro m
    rw [List.cons_append, wsum, ih, wsum, List.length_cons]
    have e : m - 1 - (r.length : Int) = m - ((r.length + 1 : Nat) : Int) := by omega
    rw [e]; omega
theorem take_succ_get {l : List Int} {i : Nat} {z : Int} (h : l[i]? = some z) : l.take (i + 1) = l.take i ++ [z] := by rw [List.take_add_one, h]; rfl
theorem sum_step {l : List Int} {i : Nat} {z : Int} (h : l[i]? = some z) : (l.take (i + 1)).sum = (l.take i).sum + z := by rw [take_succ_get h, List.sum_append]; simp
theorem sec_step {l : List Int} {i : Nat} {z : Int} (hi : i < l.length) (h : l[i]? = some z) : wsum ((i + 1 : Nat) : Int) (l.take (i + 1)) = wsum (i : Int) (l.take i) + ((l.take i).sum + z) := by
  have e : (((i + 1 : Nat) : Int)) = (i : Int) + 1 := by omega
  rw [take_succ_get h, wsum_snoc, e, wsum_up, List.length_take, Nat.min_eq_left (by omega)]
  have e2 : ((i : Int) + 1 - (i : Int)) = 1 := by omega
  rw [e2, Int.mul_one]; omega
def osOf (pg : List Int) : List Int := pg.getD 0 0 :: pg.drop 5
theorem osOf_len {pg : List Int} (h : pg.length = 512) : (osOf pg).length = 508 := by unfold osOf; rw [List.length_cons, List.length_drop, h]
def sum1 (pg : List Int) : Int := (osOf pg).sum % 65521
def sum2 (pg : List Int) : Int := wsum 508 (osOf pg) % 65521
/-! a page written -/
def ckind : Cont → Int
  | .root .. => 1
  | .item .. => 2
  | .node .. => 3
  | .mark _ => 4
def nmOf : Cont → Str
  | .root .. => "root"
  | .item .. => "item"
  | .node .. => "node"
  | .mark _ => "mark"
def padOf (c : Cont) : List Int := ([ckind c, 0, 0, 0, 0] ++ body c) ++ List.replicate (512 - (5 + (body c).length)) 0
def sumsRow (pg : List Int) : List Int := rowOf 2 (sum1 pg) ++ rowOf 2 (sum2 pg)
def fixP (pg : List Int) : List Int := pg.take 1 ++ sumsRow pg ++ pg.drop 5
def pageOf (c : Cont) : List Int := fixP (padOf c)
theorem sumsRow_len (pg : List Int) : (sumsRow pg).length = 4 := by unfold sumsRow; rw [List.length_append, rowOf_len, rowOf_len]
theorem c_nm {K : PySem.W.Frag} {H : Hp} {v : V} {c : Cont} (h : Dp K H v (dC c)) : ∃ p xs, v = .ref p ∧ SqT K H p (.str (nmOf c) :: xs) := by
  cases c with
  | mark n => obtain ⟨p, rfl, hs⟩ := c_mark h; exact ⟨p, _, rfl, hs⟩
  | node lv ch => obtain ⟨p, c, xs, rfl, hs, _⟩ := c_node h; exact ⟨p, _, rfl, hs⟩
  | item ep ix la key val => obtain ⟨p, u, rfl, hs, _⟩ := c_item h; exact ⟨p, _, rfl, hs⟩
  | root n ep tr jr pl er bd => obtain ⟨p, t, j, q, e, d, rfl, hs, _⟩ := c_root h; exact ⟨p, _, rfl, hs⟩
theorem bAd_len' (q : Option (Int × Int)) : (bAd q).length = 2 := by cases q <;> rfl
theorem flat_len' {α : Type} (f : α → List Int) (k : Nat) (h : ∀ x, (f x).length = k) : ∀ l : List α, (l.flatMap f).length = l.length * k
  | [] => by simp
  | x :: r => by rw [List.flatMap_cons, List.length_append, h, flat_len' f k h r, List.length_cons, Nat.succ_mul]; omega
/-- a content that fits leaves room -/
theorem body_len {c : Cont} (h : fC c = true) : (body c).length ≤ 507 := by
  cases c with
  | mark n => simp [body, rowOf_len]
  | node lv ch =>
    simp only [fC, Bool.and_eq_true, decide_eq_true_eq] at h
    simp only [body, List.length_cons, flat_len' bAd 2 bAd_len', h.2.1]
    omega
  | item ep ix la key val =>
    simp only [fC, Bool.and_eq_true] at h
    cases val with
    | none => simp [body, bVal, rowOf_len]
    | some l =>
      simp only [fVal, Bool.and_eq_true, decide_eq_true_eq] at h
      simp only [body, bVal, List.length_append, List.length_cons, List.length_nil, rowOf_len]
      omega
  | root n ep tr jr pl er bd =>
    simp only [fC, Bool.and_eq_true, Bool.not_eq_true', Bool.or_eq_false_iff, decide_eq_false_iff_not] at h
    obtain ⟨⟨a1, a2, a3, a4⟩, _⟩ := h
    simp only [body, List.length_append, List.length_cons, List.length_nil, rowOf_len, bAd_len', List.length_map, flat_len' (rowOf 4) 4 (rowOf_len 4)]
    omega
theorem padOf_len {c : Cont} (h : fC c = true) : (padOf c).length = 512 := by
  have := body_len h
  unfold padOf
  simp only [List.length_append, List.length_cons, List.length_nil, List.length_replicate]
  omega
theorem fixP_len {pg : List Int} (h : pg.length = 512) : (fixP pg).length = 512 := by
  unfold fixP
  rw [List.length_append, List.length_append, sumsRow_len, List.length_take, List.length_drop, h]
  omega
theorem pageOf_len {c : Cont} (h : fC c = true) : (pageOf c).length = 512 := fixP_len (padOf_len h)
/-! a body read -/
def tRow (o : List Int) (p n : Nat) : List Int := (o.drop p).take n
def tNum (o : List Int) (p n : Nat) : Int := numOf (tRow o p n)
def tNums (o : List Int) (p w : Nat) : List Int := (List.range (tNum o p 1).toNat).map fun i => tNum o (p + 1 + i * w) w
def eNums (o : List Int) (p w : Nat) : Nat := p + 1 + (tNum o p 1).toNat * w
def tAdr (o : List Int) (p : Nat) : Option (Int × Int) := if tNum o p 1 = 255 ∧ tNum o (p + 1) 1 = 255 then none else some (tNum o p 1, tNum o (p + 1) 1)
def tVal (o : List Int) (p : Nat) : Option (List Int) := if tNum o p 1 = 0 then none else some (tRow o (p + 3) (tNum o (p + 1) 2).toNat)
def unPl (z : Int) : Option Int := if z = 255 then none else some z
def rdRoot (o : List Int) : Cont :=
  .root (tNum o 0 4) (tNum o 4 4) (tAdr o 8) (tNums o 10 1) ((tNums o (eNums o 10 1) 1).map unPl) (tNums o (eNums o (eNums o 10 1) 1) 4) (tNums o (eNums o (eNums o (eNums o 10 1) 1) 4) 1)
def rdItem (o : List Int) : Cont := .item (tNum o 0 4) (tNum o 4 4) (decide (tNum o 8 1 = 1)) (tNum o 9 4) (tVal o 13)
def rdNode (o : List Int) : Cont := .node (tNum o 0 1) ((List.range 32).map fun i => tAdr o (1 + i * 2))
def rdMark (o : List Int) : Cont := .mark (tNum o 0 4)
/-- what the kind's word says -/
def rdC (k : Str) (o : List Int) : Cont := if k = "root" then rdRoot o else if k = "item" then rdItem o else if k = "node" then rdNode o else rdMark o
def toldC (pg : List Int) : Option Cont :=
  if pg.getD 0 0 = 1 then some (rdRoot (pg.drop 5)) else if pg.getD 0 0 = 2 then some (rdItem (pg.drop 5)) else if pg.getD 0 0 = 3 then some (rdNode (pg.drop 5)) else if pg.getD 0 0 = 4 then some (rdMark (pg.drop 5)) else none
def isRight (pg : List Int) (c : Cont) : Bool := fC c && decide (pageOf c = pg)
def readD (pg : List Int) : PyData :=
  if pg = List.replicate 512 255 then .tuple [.str "blank"] else
    match toldC pg with
    | none => .tuple [.str "damaged"]
    | some c => if isRight pg c then .tuple [.str "right", dC c] else .tuple [.str "damaged"]
/-! octets -/
def Oct (l : List Int) : Prop := ∀ z ∈ l, 0 ≤ z ∧ z < 256
theorem oct_row {o : List Int} (h : Oct o) (p n : Nat) : Oct (tRow o p n) := fun z hz => h z (List.mem_of_mem_drop (List.mem_of_mem_take hz))
theorem tRow_len (o : List Int) (p n : Nat) : (tRow o p n).length ≤ n ∧ (tRow o p n).length ≤ o.length := by unfold tRow; rw [List.length_take, List.length_drop]; omega
theorem numOf_bd : ∀ {l : List Int}, Oct l → 0 ≤ numOf l ∧ numOf l < 256 ^ l.length
  | [], _ => by simp [numOf]
  | x :: r, h => by
    have hx := h x List.mem_cons_self
    have hr := numOf_bd (l := r) fun z hz => h z (List.mem_cons_of_mem _ hz)
    rw [numOf_cons, List.length_cons, Int.pow_succ]
    have hp : (0 : Int) < 256 ^ r.length := Int.pow_pos (by decide)
    have h1 : 0 ≤ x * 256 ^ r.length := Int.mul_nonneg hx.1 (Int.le_of_lt hp)
    have h2 : x * 256 ^ r.length ≤ 255 * 256 ^ r.length := Int.mul_le_mul_of_nonneg_right (by omega) (Int.le_of_lt hp)
    omega
theorem tNum_bd {o : List Int} (h : Oct o) (p n : Nat) : 0 ≤ tNum o p n ∧ tNum o p n < 256 ^ n := by
  have b := numOf_bd (oct_row h p n)
  have l := (tRow_len o p n).1
  refine ⟨b.1, Int.lt_of_lt_of_le b.2 ?_⟩
  have e : (256 : Int) ^ n = 256 ^ (tRow o p n).length * 256 ^ (n - (tRow o p n).length) := by rw [← Int.pow_add]; congr 1; omega
  rw [e]
  have h1 : (0 : Int) < 256 ^ (tRow o p n).length := Int.pow_pos (by decide)
  have h2 : (0 : Int) < 256 ^ (n - (tRow o p n).length) := Int.pow_pos (by decide)
  have h3 := Int.mul_le_mul_of_nonneg_left (show (1 : Int) ≤ 256 ^ (n - (tRow o p n).length) by omega) (Int.le_of_lt h1)
  omega
theorem tNum1 {o : List Int} (h : Oct o) (p : Nat) : 0 ≤ tNum o p 1 ∧ tNum o p 1 < 256 := tNum_bd h p 1
theorem tNum2 {o : List Int} (h : Oct o) (p : Nat) : 0 ≤ tNum o p 2 ∧ tNum o p 2 < 65536 := tNum_bd h p 2
/-! fields -/
theorem pf1 {p l : V} : putF "_position" p [(("_octets" : Str), l)] = ([("_octets", l), ("_position", p)] : List (Str × V)) := by
  have e : ¬ (("_octets" : Str) = "_position") := by decide +kernel
  show (if ("_octets" : Str) = "_position" then _ else (("_octets" : Str), l) :: [(("_position" : Str), p)]) = ([("_octets", l), ("_position", p)] : List (Str × V))
  rw [if_neg e]
theorem pf2 {p q l : V} : putF "_position" q ([("_octets", l), ("_position", p)] : List (Str × V)) = ([("_octets", l), ("_position", q)] : List (Str × V)) := by
  have e : ¬ (("_octets" : Str) = "_position") := by decide +kernel
  show (if ("_octets" : Str) = "_position" then _ else (("_octets" : Str), l) :: (if ("_position" : Str) = "_position" then [(("_position" : Str), q)] else _)) = ([("_octets", l), ("_position", q)] : List (Str × V))
  rw [if_neg e, if_pos rfl]
theorem lf1 {p l : V} : List.lookup ("_octets" : Str) [(("_octets" : Str), l), (("_position" : Str), p)] = some l := by simp [List.lookup]
theorem lf2 {p l : V} : List.lookup ("_position" : Str) [(("_octets" : Str), l), (("_position" : Str), p)] = some p := by
  have e : (("_position" : Str) == "_octets") = false := by decide +kernel
  simp [List.lookup, e]
theorem lf_none {p l : V} {m : Str} (h1 : (m == ("_octets" : Str)) = false) (h2 : (m == ("_position" : Str)) = false) : List.lookup m [(("_octets" : Str), l), (("_position" : Str), p)] = none := by simp [List.lookup, h1, h2]
/-- a reader at r, of the octets o, at the place p -/
structure RdAt (C : Addr) (H : Hp) (r l : Addr) (o : List Int) (p : Nat) : Prop where
  ex : ∃ dx, H r = some (.ins C dx [("_octets", .ref l), ("_position", .int p)]) ∧ H l = some (.lst (o.map V.int))
def Keep (r : Addr) (H H' : Hp) : Prop := ∀ b u, b ≠ r → H b = some u → H' b = some u
theorem Keep.refl (r : Addr) (H : Hp) : Keep r H H := fun _ _ _ h => h
theorem Keep.trans {r : Addr} {H H1 H2 : Hp} (a : Keep r H H1) (b : Keep r H1 H2) : Keep r H H2 := fun c u n h => b c u n (a c u n h)
theorem Keep.of {r : Addr} {H H' : Hp} (s : Same H H') : Keep r H H' := fun b u _ h => s b u h
theorem keep_same {r : Addr} {H0 H H' : Hp} (n : H0 r = none) (s : Same H0 H) (k : Keep r H H') : Same H0 H' := fun b u h => k b u (ne_of_none h n) (s b u h)
theorem keep_free {r p : Addr} {H H' : Hp} (k : Keep r H H') (ne : p ≠ r) (h : H' p = none) : H p = none := by
  cases e : H p with
  | none => rfl
  | some u => rw [k p u ne e] at h; cases h
theorem rdAt_same {C : Addr} {H H' : Hp} {r l : Addr} {o : List Int} {p : Nat} (s : Same H H') (h : RdAt C H r l o p) : RdAt C H' r l o p := by
  obtain ⟨dx, h1, h2⟩ := h.ex
  exact ⟨dx, s _ _ h1, s _ _ h2⟩
theorem rdAt_ne {C : Addr} {H : Hp} {r l q : Addr} {o : List Int} {p : Nat} (h : RdAt C H r l o p) (n : H q = none) : q ≠ r := by
  obtain ⟨dx, h1, h2⟩ := h.ex
  exact (ne_of_none h1 n).symm
theorem rdAt_nl {C : Addr} {H : Hp} {r l q : Addr} {o : List Int} {p : Nat} (h : RdAt C H r l o p) (n : H q = none) : l ≠ q := by
  obtain ⟨dx, h1, h2⟩ := h.ex
  exact ne_of_none h2 n
/-! data and readers -/
section
variable {K : PySem.W.Frag} {H H' : Hp} {r C dx : Addr} {fs : List (Str × V)}
theorem sqT_keep (k : Keep r H H') (hr : H r = some (.ins C dx fs)) {a : Addr} {xs : List V} (h : SqT K H a xs) : SqT K H' a xs := by
  rcases h with (h | ⟨u, h⟩) | h
  · exact .inl (.inl (k a _ (ne_of h hr (by intro e; cases e)) h))
  · exact .inl (.inr ⟨u, k a _ (ne_of h hr (by intro e; cases e)) h⟩)
  · exact .inr h
theorem sqL_keep (k : Keep r H H') (hr : H r = some (.ins C dx fs)) {a : Addr} {xs : List V} (h : SqL K H a xs) : SqL K H' a xs := by
  rcases h with (h | ⟨u, h⟩) | h
  · exact .inl (.inl (k a _ (ne_of h hr (by intro e; cases e)) h))
  · exact .inl (.inr ⟨u, k a _ (ne_of h hr (by intro e; cases e)) h⟩)
  · exact .inr h
mutual
theorem dp_keep (k : Keep r H H') (hr : H r = some (.ins C dx fs)) : ∀ (d : PyData) (v : V), Dp K H v d → Dp K H' v d
  | .none, _, h => by cases h; exact .non
  | .bool b, _, h => by cases h; exact .bl b
  | .int i, _, h => by cases h; exact .int i
  | .str x, _, h => by cases h; exact .str x
  | .list ds, _, h => by
    cases h with
    | lst hs ha => exact .lst (sqL_keep k hr hs) (dpAll_keep k hr ds _ ha)
  | .tuple ds, _, h => by
    cases h with
    | tup hs ha => exact .tup (sqT_keep k hr hs) (dpAll_keep k hr ds _ ha)
  | .dict _, _, h => by cases h
theorem dpAll_keep (k : Keep r H H') (hr : H r = some (.ins C dx fs)) : ∀ (ds : List PyData) (vs : List V), DpAll K H vs ds → DpAll K H' vs ds
  | [], _, h => by cases h; exact .nil
  | d :: ds, _, h => by
    cases h with
    | cons h1 h2 => exact .cons (dp_keep k hr d _ h1) (dpAll_keep k hr ds _ h2)
end
end
theorem unPl_v (z : Int) : (if z = 255 then V.non else V.int z) = vPl (unPl z) := by
  unfold unPl
  by_cases h : z = 255
  · rw [if_pos h, if_pos h]; rfl
  · rw [if_neg h, if_neg h]; rfl
theorem tNums_len {o : List Int} (h : Oct o) (p w : Nat) : (tNums o p w).length ≤ 255 := by
  have := tNum1 h p
  unfold tNums
  rw [List.length_map, List.length_range]
  omega
theorem oct_drop {pg : List Int} (h : Oct pg) (k : Nat) : Oct (pg.drop k) := fun z hz => h z (List.mem_of_mem_drop hz)
end Tm

/-! Tf: fields by their names; texts put together; a class whose making may raise -/
namespace Tm
open PySem PySem.Spec PyProof.Rows L2
theorem putF_new {f : Str} {v : V} : ∀ (fs : List (Str × V)) (ks : List Str), fs.map (·.1) = ks → ks.contains f = false → putF f v fs = fs ++ [(f, v)]
  | [], _, _, _ => rfl
  | (g, x) :: r, ks, hk, hn => by
    subst hk
    rw [List.map_cons, List.contains_cons, Bool.or_eq_false_iff] at hn
    have ne : ¬ g = f := fun e => by
      have := hn.1
      rw [e] at this
      simp at this
    show (if g = f then _ else (g, x) :: putF f v r) = _
    rw [if_neg ne, putF_new r _ rfl hn.2]; rfl
theorem lookup_at {f : Str} {v : V} : ∀ (fs : List (Str × V)) (ks : List Str) (i : Nat), fs.map (·.1) = ks → (ks.take i).contains f = false → fs[i]? = some (f, v) → List.lookup f fs = some v
  | [], _, i, _, _, h => by simp at h
  | (g, x) :: r, ks, 0, _, _, h => by
    cases Option.some.inj h
    simp [List.lookup]
  | (g, x) :: r, ks, i + 1, hk, hn, h => by
    subst hk
    rw [List.map_cons, List.take_succ_cons, List.contains_cons, Bool.or_eq_false_iff] at hn
    have e : (f == g) = false := hn.1
    rw [List.lookup_cons, e]
    exact lookup_at r _ i rfl hn.2 (by simpa using h)
theorem lookup_no {f : Str} : ∀ (fs : List (Str × V)) (ks : List Str), fs.map (·.1) = ks → ks.contains f = false → List.lookup f fs = none
  | [], _, _, _ => rfl
  | (g, x) :: r, ks, hk, hn => by
    subst hk
    rw [List.map_cons, List.contains_cons, Bool.or_eq_false_iff] at hn
    rw [List.lookup_cons, hn.1]
    exact lookup_no r _ rfl hn.2
/-! a class whose making may raise -/
def tMakeS (C : Addr) (sp : Sp) (E : St → XK) (t : TA) : TE := fun σ H Q => t σ H fun vs H1 => ∀ x dx, H1 x = none → H1 dx = none → dx ≠ x →
  sp (.ref x :: vs) (upd (upd H1 dx (.own x)) x (.ins C dx [])) (fun v H2 => v = .non ∧ Q (.ref x) H2) (E σ)
section
variable {X : Cx} {CX : CXT} {k : Nat} {f C : Addr} {fd : FuncData} {ps : List Str} {sp : Sp} {E : St → XK} {x : Str} {p pos : Pos} {e : Expr} {es : List Expr} {t : TA}
theorem made_runs {pins : List (Addr × Obj)} {σ : St} {H : Hp} {s : Shared} {Q : VK} {us : List Value} {vs : List V} (M : Mk X.K C f) (F : FnOk X.prog X.w X.K X.mg X.base CX k f fd ps sp) (hr : Room (k + 1) X.A) (hb : Binds X.K fd ps [])
    (hx : PassesAt CX X σ (E σ)) (I : Inv X pins σ H s) (r : Vals vs us)
    (h : ∀ x dx, H x = none → H dx = none → dx ≠ x → sp (.ref x :: vs) (upd (upd H dx (.own x)) x (.ins C dx [])) (fun v H2 => v = .non ∧ Q (.ref x) H2) (E σ)) :
    wpAny (model X.prog X.w) X.A (call (.ref C) us) (EP X pins σ Q) X.xe s := by
  have room := I.hok
  have I2 := Inv.made (C := C) I
  have go := h _ _ (room.fresh (Nat.le_succ _)) (room.fresh (Nat.le_refl _)) (Nat.ne_of_lt (Nat.lt_succ_self _))
  have vals : Vals (V.ref (s.heap.objs.size + 1) :: vs) (Value.ref (s.heap.objs.size + 1) :: us) := .cons rfl r
  have len := vals.length
  rw [F.len _ _ _ _ go] at len
  have bnd := hb _ (Value.ref (s.heap.objs.size + 1) :: us) I2.kIn (by rw [List.append_nil]; exact len.symm)
  rw [List.append_nil] at bnd
  refine wpAny_call (make_map I.kIn M.makes M.init (beq_iff_eq.mp M.fn) (codeAny_mono (F.run _ _ _ _ _ _ _ _ _ (hr.make C us []) (I2.env0.make C us []) bnd vals go) fun res s' out => ?_))
  cases res with
  | error u => exact hx pins _ _ u s' I2 out
  | ok fl =>
    cases fl with
    | ret u =>
      obtain ⟨v, H', I3, rv, ev, q3⟩ := I2.after out
      cases ev
      exact ⟨rv, ⟨V.ref (s.heap.objs.size + 1), H', I3, rfl, q3⟩⟩
    | next => cases out
    | brk => cases out
    | cont => cases out
theorem pe_makeS (M : Mk X.K C f) (F : FnOk X.prog X.w X.K X.mg X.base CX k f fd ps sp) (hr : Room (k + 1) X.A) (hg : Gl X x) (hm : X.mg x = some (.ref C)) (hb : Binds X.K fd ps []) (hx : ∀ σ, PassesAt CX X σ (E σ)) (ha : PA X (e :: es) t)
    (hdb : (x == ("__debug__" : Str)) = false := by decide) (he : starEach (e :: es) X.env = (false, eval e X.env) :: starEach es X.env := by rfl) (hpl : (backTo pos (starEach es X.env)).any (·.1) = false := by rfl) :
    PE X (.Call (.Name x p) (e :: es) [] pos) (tMakeS C sp E t) :=
  ⟨fun pins s σ H Q I h => wpAny_Call_Name_kw (ld_glob I hg hm (PySem.W.callWith_K (h₀ := X.base) I.ok.mod.kin M.kp (thn (ha.run pos pins s σ H _ I h) fun us s1 ⟨vs, H1, I1, r, q⟩ => ⟨I1.kIn, made_runs M F hr hb (hx σ) I1 r q⟩) he hpl) hdb)⟩
end
def kMkS (C : Addr) (sp : Sp) (E : XK) (Q : VK) : List V → Hp → Prop := fun vs H1 => ∀ x dx, H1 x = none → H1 dx = none → dx ≠ x →
  sp (.ref x :: vs) (upd (upd H1 dx (.own x)) x (.ins C dx [])) (fun v H2 => v = .non ∧ Q (.ref x) H2) E
section
variable {σ : St} {H : Hp} {Q : VK} {K : PySem.W.Frag}
theorem i_makeS {C : Addr} {sp : Sp} {E : St → XK} {t : TA} (h : t σ H (kMkS C sp (E σ) Q)) : tMakeS C sp E t σ H Q := h
/-! texts put together -/
theorem i_jsS {s acc : Str} {ts : List TE} {Q : Str → Hp → Prop} (z : (acc ++ s).length ≤ sizeLine) (h : tJs ts (acc ++ s) σ H Q) : tJs (tC (.str s) :: ts) acc σ H Q := ⟨s, rfl, z, h⟩
theorem i_jsI {i : Nat} {n : Int} {acc : Str} {ts : List TE} {Q : Str → Hp → Prop} (e : σ[i]? = some (some (.int n))) (l : n.natAbs.log2 < 1920) (z : (acc ++ (toString n : Str)).length ≤ sizeLine) (h : tJs ts (acc ++ (toString n : Str)) σ H Q) : tJs (tFmt (tVar i) :: ts) acc σ H Q :=
  ⟨_, e, .inr ⟨n, rfl, l, _, rfl, z, h⟩⟩
theorem i_jsN {acc : Str} {Q : Str → Hp → Prop} (h : Q acc H) : tJs [] acc σ H Q := h
theorem str_small : ∀ n : Fin 64, (toString ((n.val : Nat) : Int) : Str).length ≤ 20 := by decide +kernel
theorem str_sm {n : Int} (h0 : 0 ≤ n) (h1 : n < 64) : (toString n : Str).length ≤ 20 := by
  obtain ⟨k, rfl⟩ : ∃ k : Nat, n = (k : Int) := ⟨n.toNat, by omega⟩
  exact str_small ⟨k, by omega⟩
end
section
variable {σ : St} {H : Hp} {Q : VK} {K : PySem.W.Frag} {nx : St → Hp → Prop}
theorem a_kSF2 {f : Str} {y : V} {a C dx : Addr} {fs : List (Str × V)} (hp : H a = some (.ins C dx fs)) (c : Cls K C) (n : NoAttr K C f) (l : fs.length < 1000) (h : ∀ H', Keep a H H' → H' a = some (.ins C dx (putF f y fs)) → nx σ H') : kSF2 K f y σ nx (.ref a) H :=
  i_kSF2 hp c n l (h _ (fun b u nb e => upd_get nb e) upd_same)
end
section
variable {H : Hp} {Q : VK} {K : PySem.W.Frag}
theorem i_neTT {p q : Addr} {ns ms : List Int} (a : SqT K H p (ns.map V.int)) (b : SqT K H q (ms.map V.int)) (h : Q (.bl (!decide (ns = ms))) H) : rNeD K (.ref p) (.ref q) H Q :=
  i_neD (dp_tints a) (dp_tints b) (shaped_tints ns) (shaped_tints ms) (by rw [eqv_tints]; exact h)
theorem shaped_wd (x : Str) (h : PyData.strOk x = true) : SeqAt.shaped (.tuple [.str x]) = true := shaped_of (by simp [PyData.canLay0, PyData.canLayAll0, h]) (by simp [PyData.depth, PyData.depthAll])
/-- the same word on both sides of != -/
theorem i_neWd {p q : Addr} {x : Str} (h0 : PyData.strOk x = true) (a : SqT K H p [.str x]) (b : SqT K H q [.str x]) (h : Q (.bl false) H) : rNeD K (.ref p) (.ref q) H Q :=
  i_neD (.tup a (.cons (.str _) .nil)) (.tup b (.cons (.str _) .nil)) (shaped_wd x h0) (shaped_wd x h0) (by rw [show PyData.eqv (.tuple [.str x]) (.tuple [.str x]) = true by simp [PyData.eqv, PyData.eqvAll]]; exact h)
end
end Tm

/-! Tg: membership in a written dict; a method that may raise; lists of texts and of truth values compared; fields replaced -/
namespace Tm
open PySem PySem.Spec PyProof.Rows L2
/-! x in D, x not in D, D written out -/
def rTabIn (d : Addr) (ps : List (Str × V)) (neg : Bool) : R2 := fun x y H Q => ∃ z, x = .str z ∧ y = .ref d ∧ Q (.bl (neg ^^ (ps.map (·.1)).contains z)) H
theorem val_pairs (z : Str) : ∀ ps : List (Str × V), (valV (pairsOf ps) (Sum.inr z)).isSome = (ps.map (·.1)).contains z
  | [] => rfl
  | p :: r => by
    have e : pairsOf (p :: r) = (Sum.inr p.1, p.2) :: pairsOf r := rfl
    rw [e, List.map_cons, List.contains_cons]
    by_cases h : p.1 = z
    · rw [valV_pos (by simp [h])]
      simp [h]
    · rw [valV_neg (by simp [h]), val_pairs z r]
      have h' : (z == p.1) = false := by simpa using fun e => h e.symm
      rw [h', Bool.false_or]
section
variable {X : Cx} {d : Addr} {ps : List (Str × V)}
theorem op_inTab (T : KTab X.K X.w d ps) : OpR X (compareOp .In) (rTabIn d ps false) := by
  intro pins s σ H x y v u Q I rx ry h
  obtain ⟨z, rfl, rfl, q⟩ := h
  obtain rfl : u = Value.ref d := ry
  obtain ⟨es, ep, vs, _, kv, hm⟩ := T.dictAt (P := X.prog) I.kIn
  refine wpAny_in_of (kV_is (k := Sum.inr z) rx) T.low hm.dictOf.mapOf ?_
  rw [← (KV.val kv (Sum.inr z)).isSome_eq, val_pairs]
  rw [Bool.false_xor] at q
  exact ⟨.bl _, H, I.tok _, rfl, q⟩
theorem op_notInTab (T : KTab X.K X.w d ps) : OpR X (compareOp .NotIn) (rTabIn d ps true) := by
  intro pins s σ H x y v u Q I rx ry h
  obtain ⟨z, rfl, rfl, q⟩ := h
  obtain rfl : u = Value.ref d := ry
  obtain ⟨es, ep, vs, _, kv, hm⟩ := T.dictAt (P := X.prog) I.kIn
  refine wpAny_notIn_of (kV_is (k := Sum.inr z) rx) T.low hm.dictOf.mapOf ?_
  rw [← (KV.val kv (Sum.inr z)).isSome_eq, val_pairs]
  rw [Bool.true_xor] at q
  exact ⟨.bl _, H, I.tok _, rfl, q⟩
end
section
variable {H : Hp} {Q : VK} {d : Addr} {ps : List (Str × V)} {neg : Bool}
theorem i_tabIn {z : Str} (h : Q (.bl (neg ^^ (ps.map (·.1)).contains z)) H) : rTabIn d ps neg (.str z) (.ref d) H Q := ⟨z, rfl, rfl, h⟩
end
/-! a method that may raise -/
def kM2E (sp : Sp) (x : V) (E : XK) (Q : VK) : List V → Hp → Prop := fun vs H2 => sp (x :: vs) H2 Q E
def kM1E (m : Str) (C : Addr) (sp : Sp) (E : XK) (t : TA) (σ : St) (Q : VK) : VK := fun x H1 => ∃ a dx fs, x = .ref a ∧ H1 a = some (.ins C dx fs) ∧ fs.lookup m = none ∧ t σ H1 (kM2E sp x E Q)
def tMethE (C : Addr) (m : Str) (sp : Sp) (E : St → XK) (ta : TE) (t : TA) : TE := fun σ H Q => ta σ H (kM1E m C sp (E σ) t σ Q)
section
variable {X : Cx} {CX : CXT} {k : Nat} {f C : Addr} {fd : FuncData} {ps : List Str} {sp : Sp} {E : St → XK} {m : Str} {apos pos : Pos} {e o : Expr} {es : List Expr} {ta : TE} {t : TA}
theorem pe_methE {pl : Sem Bool} (ho : PE X o ta) (c : Cls X.K C) (hm : Meth X.K C m f) (F : FnOk X.prog X.w X.K X.mg X.base CX k f fd ps sp) (hr : Room k X.A) (hb : Binds X.K fd ps []) (hx : ∀ σ, PassesAt CX X σ (E σ)) (ha : PA X (e :: es) t)
    (hst : starEach (e :: es) X.env = (false, eval e X.env) :: starEach es X.env := by rfl) (hpl : (backTo pos (starEach es X.env)).any (·.1) = false := by rfl)
    (ht : eval (.Call (.Attribute o m apos) (e :: es) [] pos) X.env = (do
      let ov ← eval o X.env
      standAt apos.atName
      let (f, first) ← holding [ov] (getMethod ov m pl)
      callWith pos f first (backTo pos (starEach (e :: es) X.env)) (backToKw pos (keywordEach [] X.env))) := by rfl) :
    PE X (.Call (.Attribute o m apos) (e :: es) [] pos) (tMethE C m sp E ta t) := by
  constructor
  intro pins s σ H Q I h
  apply PySem.W.methodCall_KW (pl := pl) _ ht
  refine thn (ho.run pins s σ H _ I h) fun u s1 hh => ?_
  obtain ⟨x, H1, I1, rx, a, dx, fs, ex, ea, l, q⟩ := hh
  subst ex
  obtain rfl : u = Value.ref a := rx
  refine getmeth_ok I1 ea c hm l (PySem.W.callWith_K (first := [.ref a]) (h₀ := X.base) I.ok.mod.kin hm.kp (thn (ha.run pos pins s1 σ H1 _ I1 q) fun us s2 hh2 => ?_) hst hpl)
  obtain ⟨vs, H2, I2, r, q2⟩ := hh2
  exact ⟨I2.kIn, run_fnS (us := .ref a :: us) (vs := .ref a :: vs) F hr hb (hx σ) I2 (.cons rfl r) q2⟩
end
section
variable {σ : St} {H : Hp} {Q : VK}
theorem i_methE {C : Addr} {m : Str} {sp : Sp} {E : St → XK} {ta : TE} {t : TA} (h : ta σ H (kM1E m C sp (E σ) t σ Q)) : tMethE C m sp E ta t σ H Q := h
theorem i_kM1E {C : Addr} {m : Str} {sp : Sp} {E : XK} {t : TA} {a dx : Addr} {fs : List (Str × V)} (hp : H a = some (.ins C dx fs)) (l : fs.lookup m = none) (h : t σ H (kM2E sp (.ref a) E Q)) : kM1E m C sp E t σ Q (.ref a) H := ⟨a, dx, fs, rfl, hp, l, h⟩
theorem i_kM2E {sp : Sp} {E : XK} {x : V} {vs : List V} (h : sp (x :: vs) H Q E) : kM2E sp x E Q vs H := h
end
/-! a field replaced -/
theorem putF_at {f : Str} {v x : V} : ∀ (fs : List (Str × V)) (ks : List Str) (i : Nat), fs.map (·.1) = ks → (ks.take i).contains f = false → fs[i]? = some (f, x) → putF f v fs = fs.set i (f, v)
  | [], _, i, _, _, h => by simp at h
  | (g, y) :: r, ks, 0, _, _, h => by
    cases Option.some.inj h
    show (if f = f then _ else _) = _
    rw [if_pos rfl]; rfl
  | (g, y) :: r, ks, i + 1, hk, hn, h => by
    subst hk
    rw [List.map_cons, List.take_succ_cons, List.contains_cons, Bool.or_eq_false_iff] at hn
    have ne : ¬ g = f := fun e => by
      have := hn.1
      rw [e] at this
      simp at this
    show (if g = f then _ else (g, y) :: putF f v r) = _
    rw [if_neg ne, putF_at r _ i rfl hn.2 (by simpa using h)]; rfl
/-! lists of texts, of truth values -/
theorem dpAll_map {K : PySem.W.Frag} {H : Hp} {α : Type} {f : α → V} {g : α → PyData} (h : ∀ x, Dp K H (f x) (g x)) : ∀ l : List α, DpAll K H (l.map f) (l.map g)
  | [] => .nil
  | x :: r => .cons (h x) (dpAll_map h r)
theorem dp_strs {K : PySem.W.Frag} {H : Hp} {p : Addr} {l : List Str} (h : SqL K H p (l.map V.str)) : Dp K H (.ref p) (.list (l.map PyData.str)) := .lst h (dpAll_map (fun x => .str x) l)
theorem dp_bools {K : PySem.W.Frag} {H : Hp} {p : Addr} {l : List Bool} (h : SqL K H p (l.map V.bl)) : Dp K H (.ref p) (.list (l.map PyData.bool)) := .lst h (dpAll_map (fun x => .bl x) l)
theorem eqvAll_map {α : Type} [DecidableEq α] {g : α → PyData} (h : ∀ x y, PyData.eqv (g x) (g y) = decide (x = y)) : ∀ l r : List α, PyData.eqvAll (l.map g) (r.map g) = decide (l = r)
  | [], [] => by simp [PyData.eqvAll]
  | [], _ :: _ => by simp [PyData.eqvAll]
  | _ :: _, [] => by simp [PyData.eqvAll]
  | x :: l, y :: r => by
    rw [List.map_cons, List.map_cons, PyData.eqvAll, eqvAll_map h l r, h]
    by_cases e : x = y <;> by_cases e2 : l = r <;> simp [e, e2]
theorem eqv_plan (a c : List Str) (b d : List Bool) : PyData.eqv (.tuple [.list (a.map .str), .list (b.map .bool)]) (.tuple [.list (c.map .str), .list (d.map .bool)]) = decide (a = c ∧ b = d) := by
  rw [PyData.eqv, PyData.eqvAll, PyData.eqvAll, PyData.eqvAll, PyData.eqv, PyData.eqv, eqvAll_map (fun x y => by rw [PyData.eqv, Bool.eq_iff_iff]; simp), eqvAll_map (fun x y => by rw [PyData.eqv, Bool.eq_iff_iff]; simp)]
  by_cases e : a = c <;> by_cases e2 : b = d <;> simp [e, e2]
theorem lay_strs : ∀ l : List Str, (∀ x ∈ l, PyData.strOk x = true) → PyData.canLayAll0 (l.map .str) = true
  | [], _ => by simp [PyData.canLayAll0]
  | x :: r, h => by
    rw [List.map_cons, PyData.canLayAll0, lay_strs r fun y hy => h y (List.mem_cons_of_mem _ hy)]
    simp [PyData.canLay0, h x List.mem_cons_self]
theorem lay_bools : ∀ l : List Bool, PyData.canLayAll0 (l.map .bool) = true
  | [] => by simp [PyData.canLayAll0]
  | x :: r => by
    rw [List.map_cons, PyData.canLayAll0, lay_bools r]
    simp [PyData.canLay0]
theorem dep_leaf {α : Type} {g : α → PyData} (h : ∀ x, (g x).depth = 0) : ∀ l : List α, PyData.depthAll (l.map g) = 0
  | [] => by simp [PyData.depthAll]
  | x :: r => by rw [List.map_cons, PyData.depthAll, dep_leaf h r, h]; rfl
theorem shaped_plan {a : List Str} {b : List Bool} (h : ∀ x ∈ a, PyData.strOk x = true) : SeqAt.shaped (.tuple [.list (a.map .str), .list (b.map .bool)]) = true := by
  have e1 := dep_leaf (g := PyData.str) (fun x => by simp [PyData.depth]) a
  have e2 := dep_leaf (g := PyData.bool) (fun x => by simp [PyData.depth]) b
  refine shaped_of ?_ ?_
  · simp [PyData.canLay0, PyData.canLayAll0, lay_strs a h, lay_bools b]
  · simp [PyData.depth, PyData.depthAll, e1, e2]
/-- an exception of another class is not the handler's -/
theorem exm_not {K : PySem.W.Frag} {C D : Addr} (b : PySem.W.subIn K (.ref D) (.type "BaseException") = some true) (i : PySem.W.isClsIn K D = true) (t : PySem.W.typeIn K (.ref D) = some (.type "type")) (s : PySem.W.subIn K (.ref C) (.ref D) = some false) :
    PySem.W.exmOne K (.ref C) (.ref D) = some false := by
  have i' : (PySem.W.clsIn K D).isSome = true := i
  unfold PySem.W.exmOne PySem.W.kitCls
  simp [b, i', t, s]
section
variable {σ : St} {H : Hp} {K : PySem.W.Frag} {ts : Addr → Value → Option Addr → TS} {Wout : WX} {D : Ends} {d : Option Addr} {C C' : Addr} {r : List (Value × (Addr → Value → Option Addr → TS))}
theorem i_wMany1 (e : PySem.W.exmOne K (.ref C) (.ref C) = some true) (h : ∀ a, H a = none → ts a (.ref C) d D σ H) : wMany K Wout D ((.ref C, ts) :: r) (.ref C) d σ H := ⟨true, e, fun _ => h, fun q => Bool.noConfusion q⟩
theorem i_wMany2 (e : PySem.W.exmOne K (.ref C) (.ref C') = some false) (h : wMany K Wout D r (.ref C) d σ H) : wMany K Wout D ((.ref C', ts) :: r) (.ref C) d σ H := ⟨false, e, fun q => Bool.noConfusion q, fun _ => h⟩
end
section
variable {H : Hp} {Q : VK}
theorem a_repB {a : Addr} {b : Bool} {k : Int} (ha : H a = some (.lst [.bl b])) (k0 : 0 ≤ k) (k1 : k ≤ 100000) (h : ∀ p H', Same H H' → H p = none → H' p = some (.lst ((List.replicate k.toNat b).map V.bl)) → Q (.ref p) H') : rRep (.ref a) (.int k) H Q :=
  i_rep ha (by omega) (by omega) (big (by simp; omega)) fun p hp => h p _ (same_upd hp) hp (by rw [upd_same, rep_map V.bl])
theorem a_appV {a : Addr} {xs : List V} {y : V} (ha : H a = some (.lst xs)) (z : xs.length < 100000) (h : ∀ H', (∀ b o, b ≠ a → H b = some o → H' b = some o) → Q .non H') : rAppend (.ref a) [y] H Q :=
  i_append ha (bigl (Nat.le_of_lt z)) (h _ (fun b o n e => upd_get n e))
end
end Tm

/-! the steps as one word -/
local macro_rules | `(tactic| walk_at "set") => `(tactic| ((repeat (with_reducible apply Tm.set_s)); exact Tm.set_z))
local macro_rules | `(tactic| walk_at "sc") => `(tactic| first | omega | (with_reducible assumption) | (dsimp only; first | omega | (with_reducible assumption)) | exact ⟨by omega, by omega⟩ | exact Or.inl ⟨by omega, by omega⟩ | exact Or.inr ⟨by omega, by omega⟩)
local macro_rules | `(tactic| walk_at "ne") => `(tactic| first | assumption | (apply Ne.symm; assumption) | (refine' L2.ne_of_none ?h ?n; (case n => assumption); (case h => walk_at "hp")) | (apply Ne.symm; refine' L2.ne_of_none ?h ?n; (case n => assumption); (case h => walk_at "hp")))
local macro_rules | `(tactic| walk_at "hp") => `(tactic| first | assumption | with_reducible exact L2.upd_same | ((with_reducible refine' Tm.upd_get ?n ?h); (case n => walk_at "ne"); (case h => walk_at "hp")) | (refine' (show L2.Same _ _ by assumption) _ _ ?h; (case h => walk_at "hp")))
local macro_rules | `(tactic| walk_at "sq") => `(tactic| first | assumption | ((with_reducible refine' L2.SqL.of ?h); (case h => walk_at "hp")) | ((with_reducible refine' L2.SqT.of ?h); (case h => walk_at "hp")) | ((with_reducible refine' Tm.sqL_new ?n ?h); (case n => assumption); (case h => walk_at "sq")) | ((with_reducible refine' Tm.sqT_new ?n ?h); (case n => assumption); (case h => walk_at "sq")) | ((with_reducible refine' Tm.sqL_upd ?n ?h); (case n => walk_at "ne"); (case h => walk_at "sq")) | ((with_reducible refine' Tm.sqT_upd ?n ?h); (case n => walk_at "ne"); (case h => walk_at "sq")) | (refine' L2.Same.seq (by assumption) ?h; (case h => walk_at "sq")) | (refine' Tm.same_tup (by assumption) ?h; (case h => walk_at "sq")))
local macro_rules | `(tactic| walk_at "s") => `(tactic| first
  | with_reducible refine' Tm.i_seq ?_
  | ((with_reducible refine' Tm.i_var ?k ?_); (case k => exact rfl))
  | with_reducible refine' Tm.i_c ?_
  | with_reducible refine' Tm.i_op ?_
  | with_reducible refine' Tm.i_kO1 ?_
  | with_reducible refine' Tm.i_kO2 ?_
  | with_reducible refine' Tm.i_asg ?_
  | with_reducible refine' Tm.i_kAsg ?_
  | ((with_reducible refine' Tm.i_gName ?k ?_); (case k => walk_at "set"))
  | with_reducible refine' Tm.i_rI0 ?_
  | ((with_reducible refine' Tm.i_rI ?k ?_); (case k => walk_at "sc"))
  | with_reducible refine' Tm.i_rU ?_
  | with_reducible refine' Tm.i_rEqI ?_
  | with_reducible refine' Tm.i_rNeI ?_
  | with_reducible refine' Tm.i_rEqS ?_
  | with_reducible refine' Tm.i_rNeS ?_
  | with_reducible refine' Tm.i_rEqB ?_
  | with_reducible refine' Tm.i_rNeB ?_
  | with_reducible refine' Tm.i_test ?_
  | with_reducible refine' Tm.i_tB ?_
  | with_reducible refine' Tm.i_kB ?_
  | with_reducible refine' Tm.i_ifS ?_
  | with_reducible refine' Tm.i_kIfT ?_
  | with_reducible refine' Tm.i_kIfF ?_
  | with_reducible refine' Tm.i_kIfn ?_
  | with_reducible refine' Tm.i_and ?_
  | with_reducible refine' Tm.i_or ?_
  | with_reducible refine' Tm.i_not ?_
  | with_reducible refine' Tm.i_kNot ?_
  | with_reducible refine' Tm.i_kAndT ?_
  | with_reducible refine' Tm.i_kAndF ?_
  | with_reducible refine' Tm.i_kOrT ?_
  | with_reducible refine' Tm.i_kOrF ?_
  | with_reducible refine' Tm.i_andV ?_
  | with_reducible refine' Tm.i_orV ?_
  | with_reducible refine' Tm.i_notV ?_
  | with_reducible refine' Tm.i_kNotV ?_
  | with_reducible refine' Tm.i_ifE ?_
  | with_reducible refine' Tm.i_kIfET ?_
  | with_reducible refine' Tm.i_kIfEF ?_
  | with_reducible refine' Tm.i_cons ?_
  | with_reducible refine' Tm.i_nil ?_
  | with_reducible refine' Tm.i_kA1 ?_
  | with_reducible refine' Tm.i_kA2 ?_
  | with_reducible refine' Tm.i_drop ?_
  | with_reducible refine' Tm.i_kDrop ?_
  | with_reducible refine' Tm.i_ret ?_
  | with_reducible refine' Tm.i_retN ?_
  | with_reducible refine' Tm.i_next ?_
  | with_reducible refine' Tm.i_brk ?_
  | with_reducible refine' Tm.i_cnt ?_
  | with_reducible refine' Tm.i_body ?_
  | ((with_reducible refine' Tm.i_aug ?k ?_); (case k => exact rfl))
  | with_reducible refine' Tm.i_kAug1 ?_
  | ((with_reducible refine' Tm.i_kAug2 ?k ?_); (case k => walk_at "set"))
  | with_reducible refine' Tm.i_ipI ?_
  | with_reducible refine' Tm.i_un ?_
  | with_reducible refine' Tm.i_kU ?_
  | with_reducible refine' Tm.i_cb ?_
  | with_reducible refine' Tm.i_kCB ?_
  | with_reducible refine' Tm.i_call ?_
  | with_reducible refine' Tm.i_kCall ?_
  | with_reducible refine' Tm.i_bm ?_
  | with_reducible refine' Tm.i_bm0 ?_
  | ((with_reducible refine' Tm.i_kBMl ?k ?_); (case k => walk_at "sq"))
  | ((with_reducible refine' Tm.i_kBM0l ?k ?_); (case k => walk_at "sq"))
  | with_reducible refine' Tm.i_kBM2 ?_
  | with_reducible refine' Tm.i_int ?_
  | ((with_reducible refine' Tm.i_lenL ?k ?_); (case k => walk_at "sq"))
  | ((with_reducible refine' Tm.i_lenT ?k ?_); (case k => walk_at "sq"))
  | with_reducible refine' Tm.i_isN ?_
  | with_reducible refine' Tm.i_notN ?_
  | with_reducible refine' Tm.i_tup ?_
  | with_reducible refine' Tm.i_lst ?_
  | with_reducible refine' Tm.i_sl ?_
  | with_reducible refine' Tm.i_kS1 ?_
  | with_reducible refine' Tm.i_kS2 ?_
  | with_reducible refine' Tm.i_kS3 ?_
  | with_reducible refine' Tm.i_noPart ?_
  | with_reducible refine' Tm.i_part ?_
  | with_reducible refine' Tm.i_kPart ?_
  | with_reducible refine' Tm.i_chain ?_
  | with_reducible refine' Tm.i_kC1 ?_
  | with_reducible refine' Tm.i_kC2 ?_
  | with_reducible refine' Tm.i_kC3 ?_
  | with_reducible refine' Tm.i_for ?_
  | with_reducible refine' Tm.i_lc ?_
  | with_reducible refine' Tm.i_iList ?_
  | with_reducible refine' Tm.i_iTup ?_
  | with_reducible refine' Tm.i_iRng1 ?_
  | with_reducible refine' Tm.i_iRng2 ?_
  | ((with_reducible refine' Tm.i_kIL ?k ?_); (case k => walk_at "sq"))
  | ((with_reducible refine' Tm.i_kIT ?k ?_); (case k => walk_at "sq"))
  | ((with_reducible refine' Tm.i_kIR1 ?k1 ?k2 ?_); (case k1 => walk_at "sc"); (case k2 => walk_at "sc"))
  | ((with_reducible refine' Tm.i_kIR2 ?k1 ?k2 ?k3 ?k4 ?_); (case k1 => walk_at "sc"); (case k2 => walk_at "sc"); (case k3 => walk_at "sc"); (case k4 => walk_at "sc"))
  | with_reducible refine' Tm.i_fld ?_
  | with_reducible refine' Tm.i_sFld ?_
  | with_reducible refine' Tm.i_kSF1 ?_
  | with_reducible refine' Tm.i_meth ?_
  | with_reducible refine' Tm.i_kM2 ?_
  | with_reducible refine' Tm.i_make ?_
  | with_reducible refine' Tm.i_yes ?_
  | with_reducible refine' Tm.i_gCons ?_
  | with_reducible refine' Tm.i_gNil ?_
  | ((with_reducible refine' Tm.i_gTup ?k1 ?k2 ?_); (case k1 => walk_at "sq"); (case k2 => exact rfl))
  | with_reducible refine' Tm.i_star ?_
  | ((with_reducible refine' Tm.i_kSt1T ?k1 ?_); (case k1 => walk_at "sq"))
  | ((with_reducible refine' Tm.i_kSt1L ?k1 ?_); (case k1 => walk_at "sq"))
  | with_reducible refine' Tm.i_kSt2 ?_
  | with_reducible refine' Tm.i_gSub ?_
  | with_reducible refine' Tm.i_kG1 ?_
  | ((with_reducible refine' Tm.i_gNameW ?k1 ?k2 ?k3 ?_); (case k1 => exact rfl); (case k2 => walk_at "set"); (case k3 => walk_at "set"))
  | ((with_reducible refine' Tm.i_kLc1 ?k ?_); (case k => exact rfl))
  | ((with_reducible refine' Tm.i_ixL ?k ?e ?_); (case k => walk_at "sq"); (case e => exact rfl))
  | ((with_reducible refine' Tm.i_ixI ?k ?e ?l1 ?l2 ?_); (case k => walk_at "sq"); (case e => first | exact Int.toNat_zero | exact Int.toNat_one | exact Int.toNat_ofNat _ | exact Int.toNat_natCast _); (case l1 => omega); (case l2 => omega))
  | ((with_reducible refine' Tm.i_ixT ?k ?e ?_); (case k => walk_at "sq"); (case e => exact rfl))
  | ((with_reducible refine' Tm.i_eqLL ?k1 ?k2 ?_); (case k1 => walk_at "sq"); (case k2 => walk_at "sq"))
  | ((with_reducible refine' Tm.i_neLL ?k1 ?k2 ?_); (case k1 => walk_at "sq"); (case k2 => walk_at "sq"))
  | ((with_reducible refine' Tm.i_eqTT ?k1 ?k2 ?_); (case k1 => walk_at "sq"); (case k2 => walk_at "sq"))
  | with_reducible refine' Tm.i_lstRev ?_
  | with_reducible refine' Tm.i_callS ?_
  | with_reducible refine' Tm.i_makeS ?_
  | with_reducible refine' Tm.i_methE ?_
  | with_reducible refine' Tm.i_kM2E ?_
  | with_reducible refine' Tm.i_tabIn ?_
  | with_reducible refine' Tm.i_isnotB ?_
  | with_reducible refine' Tm.i_kLc2T ?_
  | with_reducible refine' Tm.i_kLc2F ?_
  | ((with_reducible refine' Tm.i_kIfdF ?k ?_); (case k => decide))
  | ((with_reducible refine' Tm.i_kIfdT ?k ?_); (case k => decide))
  | ((with_reducible refine' Tm.i_kIfdF ?k ?_); (case k => (intro hh; cases hh; done)))
  | ((with_reducible refine' Tm.i_kIfEdT ?k ?_); (case k => exact rfl))
  | ((with_reducible refine' Tm.i_kIfEdF ?k ?_); (case k => (intro hh; cases hh; done))))
local macro_rules | `(tactic| walk_at "go") => `(tactic| repeat walk_at "s")
namespace P01
open PySem PySem.Spec PyProof.Rows L2 Tm
abbrev St := L2.St
def topS (i : Nat) : Stmt := PySem.Challenge.pw_tidemark_k01_plans_of_chips.main.body.getD i (.Pass ⟨0, 0, 0, 0⟩)
abbrev s_Block___init__ : Stmt := inClass (topS 7) 0
abbrev N_Block___init__ : List Str := ["self", "pages"]
theorem sc_Block___init__ : FnScope N_Block___init__ ["self", "pages"] (defScope s_Block___init__) := ⟨rfl, rfl, rfl, by decide +kernel, rfl, by decide +kernel, by decide +kernel⟩
abbrev s_Chip___init__ : Stmt := inClass (topS 22) 0
abbrev N_Chip___init__ : List Str := ["self", "blocks", "pages", "block"]
theorem sc_Chip___init__ : FnScope N_Chip___init__ ["self", "blocks", "pages"] (defScope s_Chip___init__) := ⟨rfl, rfl, rfl, by decide +kernel, rfl, by decide +kernel, by decide +kernel⟩
abbrev s_Chip_plan : Stmt := inClass (topS 22) 1
abbrev N_Chip_plan : List Str := ["self", "fates", "looks", "fate"]
theorem sc_Chip_plan : FnScope N_Chip_plan ["self", "fates", "looks"] (defScope s_Chip_plan) := ⟨rfl, rfl, rfl, by decide +kernel, rfl, by decide +kernel, by decide +kernel⟩
abbrev s_Chip_fates_left : Stmt := inClass (topS 22) 2
abbrev N_Chip_fates_left : List Str := ["self"]
theorem sc_Chip_fates_left : FnScope N_Chip_fates_left ["self"] (defScope s_Chip_fates_left) := ⟨rfl, rfl, rfl, by decide +kernel, rfl, by decide +kernel, by decide +kernel⟩
abbrev s_Chip_looks_left : Stmt := inClass (topS 22) 3
abbrev N_Chip_looks_left : List Str := ["self"]
theorem sc_Chip_looks_left : FnScope N_Chip_looks_left ["self"] (defScope s_Chip_looks_left) := ⟨rfl, rfl, rfl, by decide +kernel, rfl, by decide +kernel, by decide +kernel⟩
abbrev s__law_draws : Stmt := topS 24
abbrev N__law_draws : List Str := ["script", "count", "draws", "k", "cell"]
theorem sc__law_draws : FnScope N__law_draws ["script", "count"] (defScope s__law_draws) := ⟨rfl, rfl, rfl, by decide +kernel, rfl, by decide +kernel, by decide +kernel⟩
abbrev s__law_fates : Stmt := topS 25
abbrev N__law_fates : List Str := ["draw", "count", "words", "k"]
theorem sc__law_fates : FnScope N__law_fates ["draw", "count"] (defScope s__law_fates) := ⟨rfl, rfl, rfl, by decide +kernel, rfl, by decide +kernel, by decide +kernel⟩
abbrev s__law_count : Stmt := topS 26
abbrev N__law_count : List Str := ["draw", "few"]
theorem sc__law_count : FnScope N__law_count ["draw", "few"] (defScope s__law_count) := ⟨rfl, rfl, rfl, by decide +kernel, rfl, by decide +kernel, by decide +kernel⟩
abbrev s_law : Stmt := topS 27
abbrev N_law : List Str := ["script", "draws", "chip", "first", "fates", "looks", "known", "given", "word"]
theorem sc_law : FnScope N_law ["script"] (defScope s_law) := ⟨rfl, rfl, rfl, by decide +kernel, rfl, by decide +kernel, by decide +kernel⟩
/-- where the text's things stand -/
structure Ad where
  f_Block___init__ : Addr
  d_Block___init__ : FuncData
  f_Chip___init__ : Addr
  d_Chip___init__ : FuncData
  f_Chip_plan : Addr
  d_Chip_plan : FuncData
  f_Chip_fates_left : Addr
  d_Chip_fates_left : FuncData
  f_Chip_looks_left : Addr
  d_Chip_looks_left : FuncData
  f__law_draws : Addr
  d__law_draws : FuncData
  f__law_fates : Addr
  d__law_fates : FuncData
  f__law_count : Addr
  d__law_count : FuncData
  f_law : Addr
  d_law : FuncData
  k_Block : Addr
  k_Chip : Addr
  k_InvalidSize : Addr
  k_InvalidFates : Addr
  k_InvalidLooks : Addr
  v_BLANK : Value
  t_BLANK : Addr
  v_LEAST_PAGES : Value
  v_MOST_PAGES : Value
  v_LEAST_BLOCKS : Value
  v_MOST_BLOCKS : Value
  v_MOST_PLANNED : Value
  v_ANSWERS : Value
  t_ANSWERS : Addr
/-- what the top has written -/
structure Txt (w : World) (K : PySem.W.Frag) (mg : Str → Option Value) (a : Ad) : Prop where
  F_Block___init__ : Fun K "__init__" "Block.__init__" s_Block___init__ a.f_Block___init__ a.d_Block___init__
  b_Block___init__ : Binds K a.d_Block___init__ ["self", "pages"] []
  F_Chip___init__ : Fun K "__init__" "Chip.__init__" s_Chip___init__ a.f_Chip___init__ a.d_Chip___init__
  b_Chip___init__ : Binds K a.d_Chip___init__ ["self", "blocks", "pages"] []
  F_Chip_plan : Fun K "plan" "Chip.plan" s_Chip_plan a.f_Chip_plan a.d_Chip_plan
  b_Chip_plan : Binds K a.d_Chip_plan ["self", "fates", "looks"] []
  m_Chip_plan : Meth K a.k_Chip "plan" a.f_Chip_plan
  F_Chip_fates_left : Fun K "fates_left" "Chip.fates_left" s_Chip_fates_left a.f_Chip_fates_left a.d_Chip_fates_left
  b_Chip_fates_left : Binds K a.d_Chip_fates_left ["self"] []
  m_Chip_fates_left : Meth K a.k_Chip "fates_left" a.f_Chip_fates_left
  F_Chip_looks_left : Fun K "looks_left" "Chip.looks_left" s_Chip_looks_left a.f_Chip_looks_left a.d_Chip_looks_left
  b_Chip_looks_left : Binds K a.d_Chip_looks_left ["self"] []
  m_Chip_looks_left : Meth K a.k_Chip "looks_left" a.f_Chip_looks_left
  F__law_draws : Fun K "_law_draws" "_law_draws" s__law_draws a.f__law_draws a.d__law_draws
  b__law_draws : Binds K a.d__law_draws ["script", "count"] []
  g__law_draws : mg "_law_draws" = some (.ref a.f__law_draws)
  F__law_fates : Fun K "_law_fates" "_law_fates" s__law_fates a.f__law_fates a.d__law_fates
  b__law_fates : Binds K a.d__law_fates ["draw", "count"] []
  g__law_fates : mg "_law_fates" = some (.ref a.f__law_fates)
  F__law_count : Fun K "_law_count" "_law_count" s__law_count a.f__law_count a.d__law_count
  b__law_count : Binds K a.d__law_count ["draw", "few"] []
  g__law_count : mg "_law_count" = some (.ref a.f__law_count)
  F_law : Fun K "law" "law" s_law a.f_law a.d_law
  b_law : Binds K a.d_law ["script"] []
  g_law : mg "law" = some (.ref a.f_law)
  cl_Block : Cls K a.k_Block
  k_Block : mg "Block" = some (.ref a.k_Block)
  mk_Block : Mk K a.k_Block a.f_Block___init__
  n_Block_states : NoAttr K a.k_Block "states"
  n_Block_alive : NoAttr K a.k_Block "alive"
  n_Block_erased : NoAttr K a.k_Block "erased"
  cl_Chip : Cls K a.k_Chip
  k_Chip : mg "Chip" = some (.ref a.k_Chip)
  mk_Chip : Mk K a.k_Chip a.f_Chip___init__
  n_Chip_shape : NoAttr K a.k_Chip "shape"
  n_Chip_powered : NoAttr K a.k_Chip "powered"
  n_Chip_refused : NoAttr K a.k_Chip "refused"
  n_Chip_generation : NoAttr K a.k_Chip "generation"
  n_Chip__blocks : NoAttr K a.k_Chip "_blocks"
  n_Chip__fates : NoAttr K a.k_Chip "_fates"
  n_Chip__looks : NoAttr K a.k_Chip "_looks"
  g_InvalidSize : mg "InvalidSize" = some (.ref a.k_InvalidSize)
  x_InvalidSize : PySem.W.excIn K a.k_InvalidSize [.type "ValueError", .type "Exception", .type "BaseException", .type "object"] "ValueError.__new__" = true
  kp_InvalidSize : PySem.W.keepIn K (.ref a.k_InvalidSize) = true
  bs_InvalidSize : PySem.W.subIn K (.ref a.k_InvalidSize) (.type "BaseException") = some true
  ty_InvalidSize : PySem.W.typeIn K (.ref a.k_InvalidSize) = some (.type "type")
  e_InvalidSize : PySem.W.exmOne K (.ref a.k_InvalidSize) (.ref a.k_InvalidSize) = some true
  g_InvalidFates : mg "InvalidFates" = some (.ref a.k_InvalidFates)
  x_InvalidFates : PySem.W.excIn K a.k_InvalidFates [.type "ValueError", .type "Exception", .type "BaseException", .type "object"] "ValueError.__new__" = true
  kp_InvalidFates : PySem.W.keepIn K (.ref a.k_InvalidFates) = true
  bs_InvalidFates : PySem.W.subIn K (.ref a.k_InvalidFates) (.type "BaseException") = some true
  ty_InvalidFates : PySem.W.typeIn K (.ref a.k_InvalidFates) = some (.type "type")
  e_InvalidFates : PySem.W.exmOne K (.ref a.k_InvalidFates) (.ref a.k_InvalidFates) = some true
  g_InvalidLooks : mg "InvalidLooks" = some (.ref a.k_InvalidLooks)
  x_InvalidLooks : PySem.W.excIn K a.k_InvalidLooks [.type "ValueError", .type "Exception", .type "BaseException", .type "object"] "ValueError.__new__" = true
  kp_InvalidLooks : PySem.W.keepIn K (.ref a.k_InvalidLooks) = true
  bs_InvalidLooks : PySem.W.subIn K (.ref a.k_InvalidLooks) (.type "BaseException") = some true
  ty_InvalidLooks : PySem.W.typeIn K (.ref a.k_InvalidLooks) = some (.type "type")
  e_InvalidLooks : PySem.W.exmOne K (.ref a.k_InvalidLooks) (.ref a.k_InvalidLooks) = some true
  en_InvalidLooks_InvalidFates : PySem.W.exmOne K (.ref a.k_InvalidLooks) (.ref a.k_InvalidFates) = some false
  z_range : mg "range" = none
  z_list : mg "list" = none
  z_len : mg "len" = none
  z_any : mg "any" = none
  z_int : mg "int" = none
  c_BLANK : mg "BLANK" = some a.v_BLANK ∧ RelV (.ref a.t_BLANK) a.v_BLANK
  t_BLANK : ∀ H : Hp, SqT K H a.t_BLANK [V.str "blank"]
  c_LEAST_PAGES : mg "LEAST_PAGES" = some a.v_LEAST_PAGES ∧ RelV (V.int 16) a.v_LEAST_PAGES
  c_MOST_PAGES : mg "MOST_PAGES" = some a.v_MOST_PAGES ∧ RelV (V.int 32) a.v_MOST_PAGES
  c_LEAST_BLOCKS : mg "LEAST_BLOCKS" = some a.v_LEAST_BLOCKS ∧ RelV (V.int 24) a.v_LEAST_BLOCKS
  c_MOST_BLOCKS : mg "MOST_BLOCKS" = some a.v_MOST_BLOCKS ∧ RelV (V.int 48) a.v_MOST_BLOCKS
  c_MOST_PLANNED : mg "MOST_PLANNED" = some a.v_MOST_PLANNED ∧ RelV (V.int 200) a.v_MOST_PLANNED
  c_ANSWERS : mg "ANSWERS" = some a.v_ANSWERS ∧ RelV (.ref a.t_ANSWERS) a.v_ANSWERS
  d_ANSWERS : KTab K w a.t_ANSWERS [("ok", V.str "done"), ("fail", V.str "failed"), ("before", V.str "cut"), ("during", V.str "cut")]

/-- a new block -/
structure BlkAt (CB tB : Addr) (P : Nat) (H : Hp) (r l : Addr) : Prop where
  ex : ∃ dx, H r = some (.ins CB dx [("states", .ref l), ("alive", .bl true), ("erased", .int 0)]) ∧ H l = some (.lst (List.replicate P (.ref tB)))
theorem BlkAt.keep {CB tB : Addr} {P : Nat} {H H' : Hp} {r l D : Addr} (h : BlkAt CB tB P H r l) (s : Keep D H H') (n1 : r ≠ D) (n2 : l ≠ D) : BlkAt CB tB P H' r l := by
  obtain ⟨dx, a, b⟩ := h.ex
  exact ⟨dx, s _ _ n1 a, s _ _ n2 b⟩
theorem BlkAt.same {CB tB : Addr} {P : Nat} {H H' : Hp} {r l : Addr} (h : BlkAt CB tB P H r l) (s : Same H H') : BlkAt CB tB P H' r l := by
  obtain ⟨dx, a, b⟩ := h.ex
  exact ⟨dx, s _ _ a, s _ _ b⟩
def chF (sh lb lf ll : Addr) : List (Str × V) := [("shape", .ref sh), ("powered", .bl true), ("refused", .int 0), ("generation", .int 0), ("_blocks", .ref lb), ("_fates", .ref lf), ("_looks", .ref ll)]
/-- a new chip of B blocks of P pages -/
structure ChipAt (CC CB tB : Addr) (B P : Nat) (H : Hp) (c : Addr) : Prop where
  ex : ∃ dx sh lb lf ll, ∃ rs : List (Addr × Addr), H c = some (.ins CC dx (chF sh lb lf ll)) ∧ H sh = some (.tup [.int B, .int P]) ∧ H lb = some (.lst (rs.map fun q => V.ref q.1)) ∧ rs.length = B ∧ (∀ q ∈ rs, BlkAt CB tB P H q.1 q.2) ∧ H lf = some (.lst []) ∧ H ll = some (.lst [])
theorem ChipAt.same {CC CB tB : Addr} {B P : Nat} {H H' : Hp} {c : Addr} (h : ChipAt CC CB tB B P H c) (s : Same H H') : ChipAt CC CB tB B P H' c := by
  obtain ⟨dx, sh, lb, lf, ll, rs, a1, a2, a3, a4, a5, a6, a7⟩ := h.ex
  exact ⟨dx, sh, lb, lf, ll, rs, s _ _ a1, s _ _ a2, s _ _ a3, a4, fun r hr => (a5 r hr).same s, s _ _ a6, s _ _ a7⟩
def kCh : List Str := ["shape", "powered", "refused", "generation", "_blocks", "_fates", "_looks"]
def kBl : List Str := ["states", "alive", "erased"]
theorem putF_b2 (l : Addr) : putF "alive" (V.bl true) [("states", V.ref l)] = ([("states", V.ref l), ("alive", V.bl true)] : List (Str × V)) := putF_new (f := "alive") [("states", V.ref l)] ["states"] rfl (by decide +kernel)
theorem putF_b3 (l : Addr) : putF "erased" (V.int 0) [("states", V.ref l), ("alive", V.bl true)] = ([("states", V.ref l), ("alive", V.bl true), ("erased", V.int 0)] : List (Str × V)) := putF_new (f := "erased") [("states", V.ref l), ("alive", V.bl true)] ["states", "alive"] rfl (by decide +kernel)
theorem putF_c2 (sh : Addr) : putF "powered" (V.bl true) [("shape", V.ref sh)] = ([("shape", V.ref sh), ("powered", V.bl true)] : List (Str × V)) := putF_new (f := "powered") [("shape", V.ref sh)] ["shape"] rfl (by decide +kernel)
theorem putF_c3 (sh : Addr) : putF "refused" (V.int 0) [("shape", V.ref sh), ("powered", V.bl true)] = ([("shape", V.ref sh), ("powered", V.bl true), ("refused", V.int 0)] : List (Str × V)) := putF_new (f := "refused") [("shape", V.ref sh), ("powered", V.bl true)] ["shape", "powered"] rfl (by decide +kernel)
theorem putF_c4 (sh : Addr) : putF "generation" (V.int 0) [("shape", V.ref sh), ("powered", V.bl true), ("refused", V.int 0)] = ([("shape", V.ref sh), ("powered", V.bl true), ("refused", V.int 0), ("generation", V.int 0)] : List (Str × V)) :=
  putF_new (f := "generation") [("shape", V.ref sh), ("powered", V.bl true), ("refused", V.int 0)] ["shape", "powered", "refused"] rfl (by decide +kernel)
theorem putF_c5 (sh lb : Addr) : putF "_blocks" (V.ref lb) [("shape", V.ref sh), ("powered", V.bl true), ("refused", V.int 0), ("generation", V.int 0)] = ([("shape", V.ref sh), ("powered", V.bl true), ("refused", V.int 0), ("generation", V.int 0), ("_blocks", V.ref lb)] : List (Str × V)) :=
  putF_new (f := "_blocks") [("shape", V.ref sh), ("powered", V.bl true), ("refused", V.int 0), ("generation", V.int 0)] ["shape", "powered", "refused", "generation"] rfl (by decide +kernel)
theorem putF_c6 (sh lb lf : Addr) : putF "_fates" (V.ref lf) [("shape", V.ref sh), ("powered", V.bl true), ("refused", V.int 0), ("generation", V.int 0), ("_blocks", V.ref lb)] = ([("shape", V.ref sh), ("powered", V.bl true), ("refused", V.int 0), ("generation", V.int 0), ("_blocks", V.ref lb), ("_fates", V.ref lf)] : List (Str × V)) :=
  putF_new (f := "_fates") [("shape", V.ref sh), ("powered", V.bl true), ("refused", V.int 0), ("generation", V.int 0), ("_blocks", V.ref lb)] ["shape", "powered", "refused", "generation", "_blocks"] rfl (by decide +kernel)
theorem putF_c7 (sh lb lf ll : Addr) : putF "_looks" (V.ref ll) [("shape", V.ref sh), ("powered", V.bl true), ("refused", V.int 0), ("generation", V.int 0), ("_blocks", V.ref lb), ("_fates", V.ref lf)] = chF sh lb lf ll :=
  putF_new (f := "_looks") [("shape", V.ref sh), ("powered", V.bl true), ("refused", V.int 0), ("generation", V.int 0), ("_blocks", V.ref lb), ("_fates", V.ref lf)] ["shape", "powered", "refused", "generation", "_blocks", "_fates"] rfl (by decide +kernel)

structure PlanAt (CC : Addr) (H : Hp) (c lf ll : Addr) (F : List Str) (L : List Bool) : Prop where
  ex : ∃ dx sh lb, H c = some (.ins CC dx (chF sh lb lf ll)) ∧ H lf = some (.lst (F.map V.str)) ∧ H ll = some (.lst (L.map V.bl))
theorem PlanAt.same {CC c lf ll : Addr} {H H' : Hp} {F : List Str} {L : List Bool} (h : PlanAt CC H c lf ll F L) (s : Same H H') : PlanAt CC H' c lf ll F L := by
  obtain ⟨dx, sh, lb, a, b, d⟩ := h.ex
  exact ⟨dx, sh, lb, s _ _ a, s _ _ b, s _ _ d⟩
theorem PlanAt.mut {CC c lf ll x : Addr} {H H' : Hp} {F : List Str} {L : List Bool} (h : PlanAt CC H c lf ll F L) (s : ∀ b o, b ≠ x → H b = some o → H' b = some o) (n1 : c ≠ x) (n2 : lf ≠ x) (n3 : ll ≠ x) : PlanAt CC H' c lf ll F L := by
  obtain ⟨dx, sh, lb, a, b, d⟩ := h.ex
  exact ⟨dx, sh, lb, s _ _ n1 a, s _ _ n2 b, s _ _ n3 d⟩
theorem PlanAt.of {CC CB tB c : Addr} {B P : Nat} {H : Hp} (h : ChipAt CC CB tB B P H c) : ∃ lf ll, PlanAt CC H c lf ll [] [] := by
  obtain ⟨dx, sh, lb, lf, ll, rs, a1, _, _, _, _, a6, a7⟩ := h.ex
  exact ⟨lf, ll, dx, sh, lb, a1, a6, a7⟩
theorem pick4 {j : Int} (h0 : 0 ≤ j) (h1 : j < 4) : ∃ x : Str, atI [V.str "ok", V.str "fail", V.str "before", V.str "during"] j = some (.str x) ∧ (["ok", "fail", "before", "during"] : List Str).contains x = true := by
  rcases (show j = 0 ∨ j = 1 ∨ j = 2 ∨ j = 3 by omega) with rfl | rfl | rfl | rfl
  · exact ⟨"ok", atI_nat (j := 0) rfl, by decide +kernel⟩
  · exact ⟨"fail", atI_nat (j := 1) rfl, by decide +kernel⟩
  · exact ⟨"before", atI_nat (j := 2) rfl, by decide +kernel⟩
  · exact ⟨"during", atI_nat (j := 3) rfl, by decide +kernel⟩
def ansK : List Str := ["ok", "fail", "before", "during"]
def knows (F : List Str) : Bool := F.all fun x => ansK.contains x
theorem knows_snoc {F : List Str} {x : Str} (h : knows F = true) (hx : ansK.contains x = true) : knows (F ++ [x]) = true := by
  unfold knows at *
  rw [List.all_append, h]
  simp only [List.all_cons, List.all_nil, hx, Bool.and_true]
def wordsOk (F : List Str) : Prop := ∀ x ∈ F, PyData.strOk x = true
theorem ok_of_knows {F : List Str} (h : knows F = true) : wordsOk F := fun x hx => by
  have := List.all_eq_true.mp h x hx
  have e : x ∈ ansK := by simpa using this
  have all : ∀ y ∈ ansK, PyData.strOk y = true := by decide +kernel
  exact all x e
theorem ok_set {F : List Str} (h : wordsOk F) (j : Nat) : wordsOk (F.set j "after") := fun x hx => by
  rcases List.mem_or_eq_of_mem_set hx with hx | rfl
  · exact h x hx
  · decide +kernel
theorem after_no {F : List Str} {j : Nat} (h : j < F.length) : knows (F.set j "after") = false := by
  cases e : knows (F.set j "after") with
  | false => rfl
  | true =>
    have := List.all_eq_true.mp e "after" (List.mem_set h "after")
    have n : ansK.contains "after" = false := by decide +kernel
    rw [n] at this; cases this
theorem putF_f (sh lb lf ll x : Addr) : putF "_fates" (V.ref x) (chF sh lb lf ll) = chF sh lb x ll := putF_at (f := "_fates") _ kCh 5 rfl (by decide +kernel) rfl
theorem putF_l (sh lb lf ll x : Addr) : putF "_looks" (V.ref x) (chF sh lb lf ll) = chF sh lb lf x := putF_at (f := "_looks") _ kCh 6 rfl (by decide +kernel) rfl
theorem any_not (F : List Str) : (F.map fun z => true ^^ ansK.contains z).any id = !knows F := by
  unfold knows
  induction F with
  | nil => rfl
  | cons x r ih =>
    rw [List.map_cons, List.any_cons, List.all_cons, ih, Bool.true_xor]
    cases ansK.contains x <;> rfl

section
variable {P : Program} {w : World} {K : PySem.W.Frag} {mg : Str → Option Value} {base : Heap} {a : Ad}
def sp_Block___init__ (K : PySem.W.Frag) (CB tB : Addr) : Sp := fun vs H Q _ => ∃ (r dx : Addr) (P : Nat), vs = [.ref r, .int P] ∧ H r = some (.ins CB dx []) ∧ P ≤ 1000 ∧ ∀ H' l, Keep r H H' → H l = none → BlkAt CB tB P H' r l → Q .non H'
set_option maxHeartbeats 20000000 in
theorem ok_Block___init__ (T : Txt w K mg a) : FnOk P w K mg base CX0 1 a.f_Block___init__ a.d_Block___init__ ["self", "pages"] (sp_Block___init__ K a.k_Block a.t_BLANK) := by
  refine T.F_Block___init__.ok sc_Block___init__ (fun vs H Q E h => ?_) (fun cdv A outer s H vs Q E hr h => ?_)
  · obtain ⟨r, dx, P, rfl, hr0, hP, q⟩ := h
    rfl
  · obtain ⟨r, dx, P, rfl, hr0, hP, q⟩ := h
    refine ⟨_, (pss_cons (ps_fld (pv 0) (pe_op op_rep (pe_lst (pa_cons (pe_glob rfl T.c_BLANK.1 T.c_BLANK.2) pa_nil)) (pv 1)) rfl)
        (pss_cons (ps_fld (pv 0) pe_bl rfl)
        (pss_one (ps_fld (pv 0) pe_int rfl)))), ?_⟩
    refine i_st (σ' := [some (.ref r), some (.int P)]) rfl ?_
    walk_at "go"
    refine a_lst (sz (by simp)) fun t H1 sm1 n1 h1 => ?_
    walk_at "go"
    refine i_rep h1 (by omega) (by omega) (big (by simp; omega)) fun l hl => ?_
    have e : (List.replicate (P : Int).toNat [(V.ref a.t_BLANK)]).flatten = List.replicate P (.ref a.t_BLANK) := by rw [flat_rep]; rfl
    rw [e]
    have sm2 : Same H1 (upd H1 l (.lst (List.replicate P (.ref a.t_BLANK)))) := same_upd hl
    have h2 : (upd H1 l (.lst (List.replicate P (.ref a.t_BLANK)))) l = _ := upd_same
    generalize upd H1 l (.lst (List.replicate P (.ref a.t_BLANK))) = H2 at sm2 h2 ⊢
    have hr2 := sm2 _ _ (sm1 _ _ hr0)
    have nl : l ≠ r := ne_of h2 hr2 (by intro z; cases z)
    walk_at "go"
    refine a_kSF2 hr2 T.cl_Block T.n_Block_states (by show 0 < 1000; decide) fun H3 k3 h3 => ?_
    have h3 : H3 r = some (.ins a.k_Block dx [("states", .ref l)]) := h3
    walk_at "go"
    refine a_kSF2 h3 T.cl_Block T.n_Block_alive (by show 1 < 1000; decide) fun H4 k4 h4 => ?_
    rw [putF_b2] at h4
    walk_at "go"
    refine a_kSF2 h4 T.cl_Block T.n_Block_erased (by show 2 < 1000; decide) fun H5 k5 h5 => ?_
    rw [putF_b3] at h5
    have k25 := Keep.trans k3 (Keep.trans k4 k5)
    exact q H5 l (Keep.trans (Keep.of (Same.trans sm1 sm2)) k25) (Same.free sm1 hl) ⟨dx, h5, k25 _ _ nl h2⟩
def sp_Chip___init__ (K : PySem.W.Frag) (CC CB tB CX : Addr) : Sp := fun vs H Q E => ∃ (c dx : Addr) (B P : Nat), vs = [.ref c, .int B, .int P] ∧ H c = some (.ins CC dx []) ∧ B < 64 ∧ P < 64 ∧
  ((24 ≤ B ∧ B ≤ 48 ∧ 16 ≤ P ∧ P ≤ 32) → ∀ H', Keep c H H' → ChipAt CC CB tB B P H' c → Q .non H') ∧ (¬ (24 ≤ B ∧ B ≤ 48 ∧ 16 ≤ P ∧ P ≤ 32) → E (.ref CX) none H)
set_option maxHeartbeats 20000000 in
theorem ok_Chip___init__ (T : Txt w K mg a) : FnOk P w K mg base (L2.CX P w) 3 a.f_Chip___init__ a.d_Chip___init__ ["self", "blocks", "pages"] (sp_Chip___init__ K a.k_Chip a.k_Block a.t_BLANK a.k_InvalidSize) := by
  refine T.F_Chip___init__.okX sc_Chip___init__ (fun vs H Q E h => ?_) (fun cdv A outer s H vs Q E hr h => ?_)
  · obtain ⟨c, dx, B, P, rfl, hc0, b1, p1, q, qe⟩ := h
    rfl
  · obtain ⟨c, dx, B, P, rfl, hc0, b1, p1, q, qe⟩ := h
    refine ⟨_, (pss_cons (ps_if (PW.pt (pw_or (pt_not (pt_chain op_le op_le (pe_glob rfl T.c_LEAST_BLOCKS.1 T.c_LEAST_BLOCKS.2) (pv 1) (pe_glob rfl T.c_MOST_BLOCKS.1 T.c_MOST_BLOCKS.2))) (pw_or1 (pt_not (pt_chain op_le op_le (pe_glob rfl T.c_LEAST_PAGES.1 T.c_LEAST_PAGES.2) (pv 2) (pe_glob rfl T.c_MOST_PAGES.1 T.c_MOST_PAGES.2)))))) (pss_one (ps_raise rfl (takes_of rfl rfl rfl rfl) (pmk_ownA PySem.F.excBase_ValueError T.x_InvalidSize T.g_InvalidSize T.kp_InvalidSize (raises_own T.bs_InvalidSize T.ty_InvalidSize) (by exact rfl) (by exact (pa_cons (pe_joined (.cons pe_str (.cons (pe_fmt (pv 1)) (.cons pe_str (.cons (pe_fmt (pv 2)) .nil))))) pa_nil))))) pss_nil)
        (pss_cons (ps_fld (pv 0) (pe_tup (pa_cons (pv 1) (pa_cons (pv 2) pa_nil))) rfl)
        (pss_cons (ps_fld (pv 0) pe_bl rfl)
        (pss_cons (ps_fld (pv 0) pe_int rfl)
        (pss_cons (ps_fld (pv 0) pe_int rfl)
        (pss_cons (ps_fld (pv 0) (pe_lc (own := [("block", 3)]) (g := gName 3) (tt := tYes) rfl sc_Chip___init__.nd (pi_range1 (by rfl) T.z_range (pa_cons (pv 1) pa_nil)) (blkOk_by (own := [("block", 3)]) (N := N_Chip___init__) (sc := defScope s_Chip___init__) (by decide +kernel)) (fun _ _ _ _ _ => pg_name (i := 3) sc_Chip___init__.nd rfl (Or.inl rfl)) (fun _ _ _ _ _ => pts_nil) (fun _ _ _ _ _ => (pe_make T.mk_Block (ok_Block___init__ (K := K) T) (hr.mono (by decide)) (by rfl) T.k_Block T.b_Block___init__ .nil pass0 (pa_cons (pv 2) pa_nil)))) rfl)
        (pss_cons (ps_fld (pv 0) (pe_lst pa_nil) rfl)
        (pss_one (ps_fld (pv 0) (pe_lst pa_nil) rfl))))))))), ?_⟩
    refine i_st (σ' := [some (.ref c), some (.int B), some (.int P), none]) rfl ?_
    have raise_ : ¬ (24 ≤ B ∧ B ≤ 48 ∧ 16 ≤ P ∧ P ≤ 32) ∨ (24 ≤ B ∧ B ≤ 48 ∧ 16 ≤ P ∧ P ≤ 32) := by omega
    walk_at "go"
    refine i_kC2' (fun h1 => ?_) (fun h1 => ?_)
    rotate_left
    · have h1 := of_decide_eq_false h1
      have sb := str_sm (n := B) (by omega) (by omega)
      have sp := str_sm (n := P) (by omega) (by omega)
      walk_at "go"
      try rw [Bool.not_false]
      walk_at "go"
      have l1 : (Str.empty ++ ("a chip has 24 to 48 blocks of 16 to 32 pages, not " : Str)).length ≤ 60 := by decide +kernel
      have l2 : (" of " : Str).length ≤ 10 := by decide +kernel
      have lg : ∀ n : Nat, n < 64 → ((n : Nat) : Int).natAbs.log2 < 1920 := fun n hn => by
        rw [Int.natAbs_natCast]
        exact Nat.lt_of_le_of_lt (Nat.log2_le_self n) (by omega)
      refine i_jsS (big (by omega)) ?_
      refine i_jsI rfl (lg B b1) (big (by rw [Str.length_append]; omega)) ?_
      refine i_jsS (big (by rw [Str.length_append, Str.length_append]; omega)) ?_
      refine i_jsI rfl (lg P p1) (big (by rw [Str.length_append, Str.length_append, Str.length_append]; omega)) ?_
      refine i_jsN ?_
      refine i_kA1 ?_
      refine i_nil ?_
      refine i_kA2 ?_
      exact ⟨sz (by simp), qe (by omega)⟩
    have h1 := of_decide_eq_true h1
    walk_at "go"
    cases h2 : decide ((B : Int) ≤ 48) with
    | false =>
      have h2 := of_decide_eq_false h2
      have sb := str_sm (n := B) (by omega) (by omega)
      have sp := str_sm (n := P) (by omega) (by omega)
      walk_at "go"
      try rw [Bool.not_false]
      walk_at "go"
      have l1 : (Str.empty ++ ("a chip has 24 to 48 blocks of 16 to 32 pages, not " : Str)).length ≤ 60 := by decide +kernel
      have l2 : (" of " : Str).length ≤ 10 := by decide +kernel
      have lg : ∀ n : Nat, n < 64 → ((n : Nat) : Int).natAbs.log2 < 1920 := fun n hn => by
        rw [Int.natAbs_natCast]
        exact Nat.lt_of_le_of_lt (Nat.log2_le_self n) (by omega)
      refine i_jsS (big (by omega)) ?_
      refine i_jsI rfl (lg B b1) (big (by rw [Str.length_append]; omega)) ?_
      refine i_jsS (big (by rw [Str.length_append, Str.length_append]; omega)) ?_
      refine i_jsI rfl (lg P p1) (big (by rw [Str.length_append, Str.length_append, Str.length_append]; omega)) ?_
      refine i_jsN ?_
      refine i_kA1 ?_
      refine i_nil ?_
      refine i_kA2 ?_
      exact ⟨sz (by simp), qe (by omega)⟩
    | true =>
    have h2 := of_decide_eq_true h2
    walk_at "go"
    rw [Bool.not_true]
    walk_at "go"
    refine i_kC2' (fun h3 => ?_) (fun h3 => ?_)
    rotate_left
    · have h3 := of_decide_eq_false h3
      have sb := str_sm (n := B) (by omega) (by omega)
      have sp := str_sm (n := P) (by omega) (by omega)
      walk_at "go"
      try rw [Bool.not_false]
      walk_at "go"
      have l1 : (Str.empty ++ ("a chip has 24 to 48 blocks of 16 to 32 pages, not " : Str)).length ≤ 60 := by decide +kernel
      have l2 : (" of " : Str).length ≤ 10 := by decide +kernel
      have lg : ∀ n : Nat, n < 64 → ((n : Nat) : Int).natAbs.log2 < 1920 := fun n hn => by
        rw [Int.natAbs_natCast]
        exact Nat.lt_of_le_of_lt (Nat.log2_le_self n) (by omega)
      refine i_jsS (big (by omega)) ?_
      refine i_jsI rfl (lg B b1) (big (by rw [Str.length_append]; omega)) ?_
      refine i_jsS (big (by rw [Str.length_append, Str.length_append]; omega)) ?_
      refine i_jsI rfl (lg P p1) (big (by rw [Str.length_append, Str.length_append, Str.length_append]; omega)) ?_
      refine i_jsN ?_
      refine i_kA1 ?_
      refine i_nil ?_
      refine i_kA2 ?_
      exact ⟨sz (by simp), qe (by omega)⟩
    have h3 := of_decide_eq_true h3
    walk_at "go"
    cases h4 : decide ((P : Int) ≤ 32) with
    | false =>
      have h4 := of_decide_eq_false h4
      have sb := str_sm (n := B) (by omega) (by omega)
      have sp := str_sm (n := P) (by omega) (by omega)
      walk_at "go"
      try rw [Bool.not_false]
      walk_at "go"
      have l1 : (Str.empty ++ ("a chip has 24 to 48 blocks of 16 to 32 pages, not " : Str)).length ≤ 60 := by decide +kernel
      have l2 : (" of " : Str).length ≤ 10 := by decide +kernel
      have lg : ∀ n : Nat, n < 64 → ((n : Nat) : Int).natAbs.log2 < 1920 := fun n hn => by
        rw [Int.natAbs_natCast]
        exact Nat.lt_of_le_of_lt (Nat.log2_le_self n) (by omega)
      refine i_jsS (big (by omega)) ?_
      refine i_jsI rfl (lg B b1) (big (by rw [Str.length_append]; omega)) ?_
      refine i_jsS (big (by rw [Str.length_append, Str.length_append]; omega)) ?_
      refine i_jsI rfl (lg P p1) (big (by rw [Str.length_append, Str.length_append, Str.length_append]; omega)) ?_
      refine i_jsN ?_
      refine i_kA1 ?_
      refine i_nil ?_
      refine i_kA2 ?_
      exact ⟨sz (by simp), qe (by omega)⟩
    | true =>
    have h4 := of_decide_eq_true h4
    walk_at "go"
    refine a_tup (sz (by simp)) fun sh H1 sm1 n1 hsh => ?_
    have hc1 := sm1 _ _ hc0
    have nsh : sh ≠ c := ne_of hsh hc1 (by intro z; cases z)
    walk_at "go"
    refine a_kSF2 hc1 T.cl_Chip T.n_Chip_shape (by show 0 < 1000; decide) fun H2 k2 hc2 => ?_
    have hc2 : H2 c = some (.ins a.k_Chip dx [("shape", .ref sh)]) := hc2
    walk_at "go"
    refine a_kSF2 hc2 T.cl_Chip T.n_Chip_powered (by show 1 < 1000; decide) fun H3 k3 hc3 => ?_
    rw [putF_c2] at hc3
    walk_at "go"
    refine a_kSF2 hc3 T.cl_Chip T.n_Chip_refused (by show 2 < 1000; decide) fun H4 k4 hc4 => ?_
    rw [putF_c3] at hc4
    walk_at "go"
    refine a_kSF2 hc4 T.cl_Chip T.n_Chip_generation (by show 3 < 1000; decide) fun H5 k5 hc5 => ?_
    rw [putF_c4] at hc5
    have k15 := Keep.trans k2 (Keep.trans k3 (Keep.trans k4 k5))
    have hsh5 := k15 _ _ nsh hsh
    walk_at "go"
    refine i_lcR0 (fun D i H' => Same H5 H' ∧ ∃ rs : List (Addr × Addr), H' D = some (.lst (rs.map fun q => V.ref q.1)) ∧ rs.length = i ∧ ∀ q ∈ rs, BlkAt a.k_Block a.t_BLANK P H' q.1 q.2 ∧ q.1 ≠ D ∧ q.2 ≠ D ∧ q.1 ≠ c ∧ q.2 ≠ c)
      (fun D hD => ⟨same_upd hD, [], upd_same, rfl, fun q hq => by cases hq⟩) ?_ ?_
    · rintro D i H' hD hi ⟨sm, rs, hO, hl, hB⟩
      have hi' : i < 64 := by omega
      walk_at "go"
      intro x dx' nx ndx ne
      have sm0 : Same H' (upd (upd H' dx' (.own x)) x (.ins a.k_Block dx' [])) := Same.trans (same_upd ndx) (same_upd (upd_free ne.symm nx))
      refine ⟨x, dx', P, rfl, upd_same, by omega, fun H6 l k6 n6 hb6 => ⟨rfl, ?_⟩⟩
      have sm6 := keep_same nx sm0 k6
      have nl := (free_upd (free_upd n6).2).2
      have hO6 := sm6 _ _ hO
      have hc' := sm _ _ hc5
      refine i_kLc3 hO6 (bigl (by rw [List.length_map]; omega)) ⟨same_wr hD (Same.trans sm sm6), rs ++ [(x, l)], by rw [upd_same, List.map_append]; rfl, by rw [List.length_append, hl]; rfl, ?_⟩
      have kD : Keep D H6 (upd H6 D (.lst (rs.map (fun q => V.ref q.1) ++ [.ref x]))) := fun b u nb e => upd_get nb e
      intro q hq
      rcases List.mem_append.mp hq with hq | hq
      · obtain ⟨b1, b2, b3, b4, b5⟩ := hB q hq
        exact ⟨(b1.same sm6).keep kD b2 b3, b2, b3, b4, b5⟩
      · obtain rfl := List.mem_singleton.mp hq
        have c1 : x ≠ D := (ne_of_none hO nx).symm
        have c2 : l ≠ D := (ne_of_none hO nl).symm
        exact ⟨hb6.keep kD c1 c2, c1, c2, (ne_of_none hc' nx).symm, (ne_of_none hc' nl).symm⟩
    rintro D H6 hD ⟨sm6, rs, hO, hl, hB⟩
    have hc6 := sm6 _ _ hc5
    have hsh6 := sm6 _ _ hsh5
    have nD : D ≠ c := (ne_of_none hc5 hD).symm
    walk_at "go"
    refine a_kSF2 hc6 T.cl_Chip T.n_Chip__blocks (by show 4 < 1000; decide) fun H7 k7 hc7 => ?_
    rw [putF_c5] at hc7
    walk_at "go"
    refine a_lst (Nat.zero_le _) fun lf H8 sm8 n8 h8 => ?_
    have nlf : lf ≠ c := (ne_of_none hc7 n8).symm
    walk_at "go"
    refine a_kSF2 (sm8 _ _ hc7) T.cl_Chip T.n_Chip__fates (by show 5 < 1000; decide) fun H9 k9 hc9 => ?_
    rw [putF_c6] at hc9
    walk_at "go"
    refine a_lst (Nat.zero_le _) fun ll H10 sm10 n10 h10 => ?_
    have nll : ll ≠ c := (ne_of_none hc9 n10).symm
    walk_at "go"
    refine a_kSF2 (sm10 _ _ hc9) T.cl_Chip T.n_Chip__looks (by show 6 < 1000; decide) fun H11 k11 hc11 => ?_
    rw [putF_c7] at hc11
    have k911 : Keep c H8 H11 := Keep.trans k9 (Keep.trans (Keep.of sm10) k11)
    have k611 : Keep c H6 H11 := Keep.trans k7 (Keep.trans (Keep.of sm8) k911)
    refine q (by omega) H11 (Keep.trans (Keep.of sm1) (Keep.trans k15 (Keep.trans (Keep.of sm6) k611))) ⟨dx, sh, D, lf, ll, rs, hc11, k611 _ _ nsh hsh6, k611 _ _ nD hO, ?_, ?_, k911 _ _ nlf h8, k11 _ _ nll h10⟩
    · rw [hl]; exact Int.toNat_natCast B
    · intro q hq
      obtain ⟨b1, _, _, b4, b5⟩ := hB q hq
      exact b1.keep k611 b4 b5
def sp_Chip_plan (K : PySem.W.Frag) (CC CF CL : Addr) : Sp := fun vs H Q E => ∃ (c f l lf ll : Addr) (F F' : List Str) (L L' : List Bool), vs = [.ref c, .ref f, .ref l] ∧ PlanAt CC H c lf ll F L ∧ H f = some (.lst (F'.map V.str)) ∧ H l = some (.lst (L'.map V.bl)) ∧ F'.length ≤ 1000 ∧ L'.length ≤ 1000 ∧
  ((F'.length ≤ 200 ∧ knows F' = true ∧ L'.length ≤ 200) → ∀ H' lf' ll', Keep c H H' → H lf' = none → H ll' = none → PlanAt CC H' c lf' ll' F' L' → Q .non H') ∧ (¬ (F'.length ≤ 200 ∧ knows F' = true) → ∀ H', Same H H' → E (.ref CF) none H') ∧ ((F'.length ≤ 200 ∧ knows F' = true) → ¬ L'.length ≤ 200 → ∀ H', Same H H' → E (.ref CL) none H')
set_option maxHeartbeats 20000000 in
theorem ok_Chip_plan (T : Txt w K mg a) : FnOk P w K mg base (L2.CX P w) 1 a.f_Chip_plan a.d_Chip_plan ["self", "fates", "looks"] (sp_Chip_plan K a.k_Chip a.k_InvalidFates a.k_InvalidLooks) := by
  refine T.F_Chip_plan.okX sc_Chip_plan (fun vs H Q E h => ?_) (fun cdv A outer s H vs Q E hr h => ?_)
  · obtain ⟨c, f, l, lf, ll, F, F', L, L', rfl, hC, hf, hl, hz1, hz2, q, qf, ql⟩ := h
    rfl
  · obtain ⟨c, f, l, lf, ll, F, F', L, L', rfl, hC, hf, hl, hz1, hz2, q, qf, ql⟩ := h
    refine ⟨_, (pss_cons (ps_if (PW.pt (pw_or (pt_cmpR op_gt (pe_callB (q_len (K := K)) (by rfl) T.z_len (by decide +kernel) (pa_cons (pv 1) pa_nil)) (pe_glob rfl T.c_MOST_PLANNED.1 T.c_MOST_PLANNED.2) (nomark _)) (pw_or1 (pt_val (pe_callB (q_any (K := K) rfl) (by rfl) T.z_any (by decide +kernel) (pa_cons (pe_lc (own := [("fate", 3)]) (g := gName 3) (tt := tYes) rfl sc_Chip_plan.nd (q_pil (K := K) (pv 1)) (blkOk_by (own := [("fate", 3)]) (N := N_Chip_plan) (sc := defScope s_Chip_plan) (by decide +kernel)) (fun _ _ _ _ _ => pg_name (i := 3) sc_Chip_plan.nd rfl (Or.inl rfl)) (fun _ _ _ _ _ => pts_nil) (fun _ _ _ _ _ => (pe_cmpR (op_notInTab T.d_ANSWERS) (pv 3) (pe_glob rfl T.c_ANSWERS.1 T.c_ANSWERS.2) (by rfl)))) pa_nil)))))) (pss_one (ps_raise rfl (takes_of rfl rfl rfl rfl) (pmk_own PySem.F.excBase_ValueError T.x_InvalidFates T.g_InvalidFates T.kp_InvalidFates (raises_own T.bs_InvalidFates T.ty_InvalidFates) (by exact rfl)))) pss_nil)
        (pss_cons (ps_if (pt_cmpR op_gt (pe_callB (q_len (K := K)) (by rfl) T.z_len (by decide +kernel) (pa_cons (pv 2) pa_nil)) (pe_glob rfl T.c_MOST_PLANNED.1 T.c_MOST_PLANNED.2) (nomark _)) (pss_one (ps_raise rfl (takes_of rfl rfl rfl rfl) (pmk_own PySem.F.excBase_ValueError T.x_InvalidLooks T.g_InvalidLooks T.kp_InvalidLooks (raises_own T.bs_InvalidLooks T.ty_InvalidLooks) (by exact rfl)))) pss_nil)
        (pss_cons (ps_fld (pv 0) (pe_callTy (q_list (K := K)) (by rfl) T.z_list (by decide +kernel) (pa_cons (pv 1) pa_nil)) rfl)
        (pss_one (ps_fld (pv 0) (pe_callTy (q_list (K := K)) (by rfl) T.z_list (by decide +kernel) (pa_cons (pv 2) pa_nil)) rfl))))), ?_⟩
    refine i_st (σ' := [some (.ref c), some (.ref f), some (.ref l), none]) rfl ?_
    obtain ⟨dx, sh, lb, hc, _, _⟩ := hC.ex
    walk_at "go"
    rw [List.length_map]
    cases h200 : decide ((200 : Int) < F'.length) with
    | true =>
      have h200 := of_decide_eq_true h200
      walk_at "go"
      exact qf (by omega) H (Same.refl H)
    | false =>
      have h200 := of_decide_eq_false h200
      walk_at "go"
      refine i_lcL (F'.map V.str) (fun D i H' => Same H H' ∧ H' D = some (.lst (((F'.take i).map fun z => true ^^ ansK.contains z).map V.bl))) (fun D hD => ⟨same_upd hD, upd_same⟩) (fun D i H' _ _ h => SqL.of (h.1 _ _ hf)) ?_ ?_
      · rintro D i x H' hD hx ⟨sm, hO⟩
        obtain ⟨z, hz, rfl⟩ := map_at hx
        have hi := lt_of_get hz
        walk_at "go"
        refine i_kLc3 hO (bigl (by rw [List.length_map, List.length_map, List.length_take]; omega)) ⟨same_wr hD sm, ?_⟩
        rw [upd_same, tk_map hz, List.map_append]; rfl
      rintro D H1 hD ⟨sm1, hO⟩
      rw [List.length_map, List.take_length] at hO
      walk_at "go"
      refine i_any (SqL.of hO) ?_
      rw [any_not]
      cases hk : knows F' with
      | false =>
        rw [Bool.not_false]
        walk_at "go"
        exact qf (by rw [hk]; simp) H1 sm1
      | true =>
        rw [Bool.not_true]
        walk_at "go"
        rw [List.length_map]
        refine i_kIfd (fun h2 => ?_) (fun h2 => ?_)
        · walk_at "go"
          exact ql ⟨by omega, hk⟩ (by omega) H1 sm1
        walk_at "go"
        refine a_listL (SqL.of (sm1 _ _ hf)) fun t2 H2 sm2 n2 h2' => ?_
        have nt : t2 ≠ c := (ne_of_none (sm1 _ _ hc) n2).symm
        walk_at "go"
        refine a_kSF2 (sm2 _ _ (sm1 _ _ hc)) T.cl_Chip T.n_Chip__fates (by show 7 < 1000; decide) fun H3 k3 h3 => ?_
        rw [putF_f] at h3
        have nl : l ≠ c := ne_of hl hc (by intro z; cases z)
        have hl3 := k3 _ _ nl (sm2 _ _ (sm1 _ _ hl))
        have ht3 := k3 _ _ nt h2'
        walk_at "go"
        refine a_listL (SqL.of hl3) fun t4 H4 sm4 n4 h4 => ?_
        have nt4 : t4 ≠ c := (ne_of_none h3 n4).symm
        walk_at "go"
        refine a_kSF2 (sm4 _ _ h3) T.cl_Chip T.n_Chip__looks (by show 7 < 1000; decide) fun H5 k5 h5 => ?_
        rw [putF_l] at h5
        exact q ⟨by omega, hk, by omega⟩ H5 t2 t4 (Keep.trans (Keep.of (Same.trans sm1 sm2)) (Keep.trans k3 (Keep.trans (Keep.of sm4) k5))) (Same.free sm1 n2) (keep_free (Keep.trans (Keep.of (Same.trans sm1 sm2)) k3) nt4 n4) ⟨dx, sh, lb, h5, k5 _ _ nt (sm4 _ _ ht3), k5 _ _ nt4 h4⟩
def sp_Chip_fates_left (K : PySem.W.Frag) (CC : Addr) : Sp := fun vs H Q _ => ∃ (c lf ll : Addr) (F : List Str) (L : List Bool), vs = [.ref c] ∧ PlanAt CC H c lf ll F L ∧ ∀ H' l, Same H H' → H' l = some (.lst (F.map V.str)) → Q (.ref l) H'
set_option maxHeartbeats 20000000 in
theorem ok_Chip_fates_left (T : Txt w K mg a) : FnOk P w K mg base CX0 1 a.f_Chip_fates_left a.d_Chip_fates_left ["self"] (sp_Chip_fates_left K a.k_Chip) := by
  refine T.F_Chip_fates_left.ok sc_Chip_fates_left (fun vs H Q E h => ?_) (fun cdv A outer s H vs Q E hr h => ?_)
  · obtain ⟨c, lf, ll, F, L, rfl, hC, q⟩ := h
    rfl
  · obtain ⟨c, lf, ll, F, L, rfl, hC, q⟩ := h
    refine ⟨_, (pss_one (ps_ret (pe_callTy (q_list (K := K)) (by rfl) T.z_list (by decide +kernel) (pa_cons (q_fld (K := K) (pv 0) rfl) pa_nil)))), ?_⟩
    refine i_st (σ' := [some (.ref c)]) rfl ?_
    obtain ⟨dx, sh, lb, h1, h6, h7⟩ := hC.ex
    walk_at "go"
    refine i_kFld h1 T.cl_Chip T.n_Chip__fates (lookup_at _ kCh 5 rfl (by decide +kernel) rfl) ?_
    walk_at "go"
    refine a_listL (SqL.of h6) fun t H1 sm1 n1 hn => ?_
    exact q H1 t sm1 hn
def sp_Chip_looks_left (K : PySem.W.Frag) (CC : Addr) : Sp := fun vs H Q _ => ∃ (c lf ll : Addr) (F : List Str) (L : List Bool), vs = [.ref c] ∧ PlanAt CC H c lf ll F L ∧ ∀ H' l, Same H H' → H' l = some (.lst (L.map V.bl)) → Q (.ref l) H'
set_option maxHeartbeats 20000000 in
theorem ok_Chip_looks_left (T : Txt w K mg a) : FnOk P w K mg base CX0 1 a.f_Chip_looks_left a.d_Chip_looks_left ["self"] (sp_Chip_looks_left K a.k_Chip) := by
  refine T.F_Chip_looks_left.ok sc_Chip_looks_left (fun vs H Q E h => ?_) (fun cdv A outer s H vs Q E hr h => ?_)
  · obtain ⟨c, lf, ll, F, L, rfl, hC, q⟩ := h
    rfl
  · obtain ⟨c, lf, ll, F, L, rfl, hC, q⟩ := h
    refine ⟨_, (pss_one (ps_ret (pe_callTy (q_list (K := K)) (by rfl) T.z_list (by decide +kernel) (pa_cons (q_fld (K := K) (pv 0) rfl) pa_nil)))), ?_⟩
    refine i_st (σ' := [some (.ref c)]) rfl ?_
    obtain ⟨dx, sh, lb, h1, h6, h7⟩ := hC.ex
    walk_at "go"
    refine i_kFld h1 T.cl_Chip T.n_Chip__looks (lookup_at _ kCh 6 rfl (by decide +kernel) rfl) ?_
    walk_at "go"
    refine a_listL (SqL.of h7) fun t H1 sm1 n1 hn => ?_
    exact q H1 t sm1 hn
def sp__law_draws (K : PySem.W.Frag) : Sp := fun vs H Q _ => ∃ (b : Addr) (ns : List Int) (n : Int), vs = [.ref b, .int n] ∧ SqL K H b (ns.map V.int) ∧ 0 ≤ n ∧ n ≤ 63 ∧
  ∀ H' p (ds : List Int), Same H H' → H p = none → H' p = some (.lst (ds.map V.int)) → ds.length = n.toNat → (∀ d ∈ ds, 0 ≤ d) → Q (.ref p) H'
set_option maxHeartbeats 20000000 in
theorem ok__law_draws (T : Txt w K mg a) : FnOk P w K mg base CX0 1 a.f__law_draws a.d__law_draws ["script", "count"] (sp__law_draws K) := by
  refine T.F__law_draws.ok sc__law_draws (fun vs H Q E h => ?_) (fun cdv A outer s H vs Q E hr h => ?_)
  · obtain ⟨b, ns, n, rfl, hS, n0, n1, q⟩ := h
    rfl
  · obtain ⟨b, ns, n, rfl, hS, n0, n1, q⟩ := h
    refine ⟨_, (pss_cons (ps_set (i := 2) sc__law_draws.nd rfl (.inl rfl) (pe_lst pa_nil))
        (pss_cons (ps_for PassesOwn.never rfl (pi_range1 (by rfl) T.z_range (pa_cons (pv 1) pa_nil)) (pg_name (i := 3) sc__law_draws.nd rfl (.inl rfl)) (pss_cons (ps_set (i := 4) sc__law_draws.nd rfl (.inl rfl) pe_int)
        (C8.pss_cut (ps_if (pt_cmpR op_gt (pe_callB (q_len (K := K)) (by rfl) T.z_len (by decide +kernel) (pa_cons (pv 0) pa_nil)) pe_int (nomark _)) (pss_one (ps_set (i := 4) sc__law_draws.nd rfl (.inl rfl) (pe_callTy c_int (by rfl) T.z_int (by decide +kernel) (pa_cons (pe_ix (q_ixl (K := K)) (pv 0) (pe_op op_mod (pv 3) (pe_callB (q_len (K := K)) (by rfl) T.z_len (by decide +kernel) (pa_cons (pv 0) pa_nil))) (fun _ _ => rfl)) pa_nil)))) pss_nil)
        (C8.pss_cut (ps_if (pt_cmpR op_lt (pv 4) pe_int (nomark _)) (pss_one (ps_set (i := 4) sc__law_draws.nd rfl (.inl rfl) (pe_op op_sub pe_int (pe_op op_mul pe_int (pv 4))))) pss_nil)
        (C8.pss_cut (ps_if (PW.pt (pw_or (pt_cmpR op_lt (pv 4) pe_int (nomark _)) (pw_or1 (pt_cmpR op_ge (pv 3) (pe_callB (q_len (K := K)) (by rfl) T.z_len (by decide +kernel) (pa_cons (pv 0) pa_nil)) (nomark _))))) (pss_cons (ps_set (i := 4) sc__law_draws.nd rfl (.inl rfl) (pe_op op_mod (pe_callTy c_int (by rfl) T.z_int (by decide +kernel) (pa_cons (pe_op op_add (pe_op op_mul (pv 4) pe_int) (pe_op op_mul pe_int (pe_op op_add (pv 3) pe_int))) pa_nil)) pe_int))
        (pss_one (ps_set (i := 4) sc__law_draws.nd rfl (.inl rfl) (pe_op op_mod (pe_callTy c_int (by rfl) T.z_int (by decide +kernel) (pa_cons (pe_op op_add (pe_op op_add (pe_op op_mul (pv 4) pe_int) pe_int) (pv 3)) pa_nil)) pe_int)))) pss_nil)
        (pss_one (ps_expr (pe_bm PySem.F.plainAttrs_list PySem.F.slot_list_append PySem.F.type_list_append mt_append (pv 2) (pa_cons (pv 4) pa_nil)))))))))
        (pss_one (ps_ret (pv 2))))), ?_⟩
    refine i_st (σ' := [some (.ref b), some (.int n), none, none, none]) rfl ?_
    walk_at "go"
    refine i_kLst (Nat.zero_le _) fun p hp => ?_
    walk_at "go"
    refine i_forR0 (fun i σ H1 => ∃ (ds : List Int) (y3 y4 : Option V), σ = [some (.ref b), some (.int n), some (.ref p), y3, y4] ∧ Same H H1 ∧ H1 p = some (.lst (ds.map V.int)) ∧ ds.length = i ∧ ∀ d ∈ ds, 0 ≤ d)
      ⟨[], none, none, rfl, same_upd hp, upd_same, rfl, by simp⟩ ?_ ?_
    · rintro i σ H1 hi ⟨ds, y3, y4, rfl, sm, hP, hl, h0⟩
      have hS1 : SqL K H1 b (ns.map V.int) := sm.seq hS
      have hlen : ((ns.map V.int).length : Int) = ns.length := by rw [List.length_map]
      walk_at "go"
      refine i_cut (fun σ' H' => H' = H1 ∧ ∃ c : Int, σ' = [some (.ref b), some (.int n), some (.ref p), some (.int i), some (.int c)]) ?_ ?_
      · walk_at "go"
        refine i_kIfd (fun h => ?_) (fun h => ?_)
        · walk_at "go"
          rw [hlen] at h
          have hlt := Int.emod_lt_of_pos (i : Int) h
          have hge := Int.emod_nonneg (i : Int) (Int.ne_of_gt h)
          rw [hlen]
          refine i_ixL hS1 (atI_map V.int ns _ 0 hge hlt) ?_
          walk_at "go"
          exact ⟨rfl, _, rfl⟩
        · walk_at "go"
          exact ⟨rfl, _, rfl⟩
      rintro σ2 H2 ⟨rfl, c, rfl⟩
      refine i_cut (fun σ' H' => H' = H2 ∧ ∃ c : Int, 0 ≤ c ∧ σ' = [some (.ref b), some (.int n), some (.ref p), some (.int i), some (.int c)]) ?_ ?_
      · walk_at "go"
        refine i_kIfd (fun h => ?_) (fun h => ?_)
        · walk_at "go"
          exact ⟨rfl, _, by omega, rfl⟩
        · walk_at "go"
          exact ⟨rfl, _, by omega, rfl⟩
      rintro σ3 H3 ⟨rfl, c2, hc2, rfl⟩
      refine i_cut (fun σ' H' => H' = H3 ∧ ∃ c : Int, 0 ≤ c ∧ σ' = [some (.ref b), some (.int n), some (.ref p), some (.int i), some (.int c)]) ?_ ?_
      · walk_at "go"
        refine i_kOr (fun _ => ?_) (fun _ => ?_)
        · walk_at "go"
          exact ⟨rfl, _, Int.emod_nonneg _ (by decide), rfl⟩
        · walk_at "go"
          refine i_kIfd (fun h => ?_) (fun h => ?_)
          · walk_at "go"
            exact ⟨rfl, _, Int.emod_nonneg _ (by decide), rfl⟩
          · walk_at "go"
            exact ⟨rfl, _, hc2, rfl⟩
      rintro σ4 H4 ⟨rfl, c3, hc3, rfl⟩
      walk_at "go"
      refine i_append hP (small1000 (by rw [List.length_map]; omega)) ?_
      walk_at "go"
      refine ⟨ds ++ [c3], _, _, rfl, fun x o e => upd_get (ne_of_none e hp) (sm x o e), by rw [upd_same, List.map_append]; rfl, by rw [List.length_append, hl]; rfl, fun d hd => ?_⟩
      rcases List.mem_append.mp hd with hd | hd
      · exact h0 d hd
      · rw [List.mem_singleton.mp hd]; exact hc3
    · rintro σ H1 ⟨ds, y3, y4, rfl, sm, hP, hl, h0⟩
      walk_at "go"
      exact q H1 p ds sm hp hP hl h0
def sp__law_fates (K : PySem.W.Frag) : Sp := fun vs H Q _ => ∃ (d n : Int), vs = [.int d, .int n] ∧ 0 ≤ d ∧ 0 ≤ n ∧ n ≤ 203 ∧ ∀ H' p (F : List Str), Same H H' → H p = none → H' p = some (.lst (F.map V.str)) → F.length = n.toNat → knows F = true → Q (.ref p) H'
set_option maxHeartbeats 20000000 in
theorem ok__law_fates (T : Txt w K mg a) : FnOk P w K mg base CX0 1 a.f__law_fates a.d__law_fates ["draw", "count"] (sp__law_fates K) := by
  refine T.F__law_fates.ok sc__law_fates (fun vs H Q E h => ?_) (fun cdv A outer s H vs Q E hr h => ?_)
  · obtain ⟨d, n, rfl, d0, n0, n1, q⟩ := h
    rfl
  · obtain ⟨d, n, rfl, d0, n0, n1, q⟩ := h
    refine ⟨_, (pss_cons (ps_set (i := 2) sc__law_fates.nd rfl (.inr rfl) (pe_tup (pa_cons pe_str (pa_cons pe_str (pa_cons pe_str (pa_cons pe_str pa_nil))))))
        (pss_one (ps_ret (pe_lc (own := [("k", 3)]) (g := gName 3) (tt := tYes) rfl sc__law_fates.nd (pi_range1 (by rfl) T.z_range (pa_cons (pv 1) pa_nil)) (blkOk_by (own := [("k", 3)]) (N := N__law_fates) (sc := defScope s__law_fates) (by decide +kernel)) (fun _ _ _ _ _ => pg_name (i := 3) sc__law_fates.nd rfl (Or.inl rfl)) (fun _ _ _ _ _ => pts_nil) (fun _ _ _ _ _ => (pe_ix (q_ixt (K := K)) (pv 2) (pe_op op_mod (pe_callTy c_int (by rfl) T.z_int (by decide +kernel) (pa_cons (pe_op op_fdiv (pv 0) (pe_op op_add (pv 3) pe_int)) pa_nil)) pe_int) (fun _ _ => rfl))))))), ?_⟩
    refine i_st (σ' := [some (.int d), some (.int n), none, none]) rfl ?_
    walk_at "go"
    refine a_tup (sz (by simp)) fun w1 H1 sm1 n1 h1 => ?_
    have hw : SqT K H1 w1 [V.str "ok", V.str "fail", V.str "before", V.str "during"] := SqT.of h1
    walk_at "go"
    refine i_lcR0 (fun D i H' => Same H1 H' ∧ ∃ F : List Str, H' D = some (.lst (F.map V.str)) ∧ F.length = i ∧ knows F = true) (fun D hD => ⟨same_upd hD, [], upd_same, rfl, rfl⟩) ?_ ?_
    · rintro D i H' hD hi ⟨sm, F, hO, hl, hk⟩
      have hi' : i < 300 := by omega
      walk_at "go"
      obtain ⟨x, hx, kx⟩ := pick4 (j := d / ((i : Int) + 1) % 4) (by omega) (by omega)
      refine i_ixT (same_tup sm hw) hx ?_
      refine i_kLc3 hO (bigl (by rw [List.length_map]; omega)) ⟨same_wr hD sm, F ++ [x], by rw [upd_same, List.map_append]; rfl, by rw [List.length_append, hl]; rfl, knows_snoc hk kx⟩
    rintro D H2 hD ⟨sm2, F, hO, hl, hk⟩
    exact q H2 D F (Same.trans sm1 sm2) (Same.free sm1 hD) hO hl hk
def sp__law_count (K : PySem.W.Frag) : Sp := fun vs H Q _ => ∃ (d n : Int), vs = [.int d, .int n] ∧ 0 ≤ d ∧ 1 ≤ n ∧ n ≤ 100 ∧ ∀ r : Int, 0 ≤ r → r ≤ 203 → Q (.int r) H
set_option maxHeartbeats 20000000 in
theorem ok__law_count (T : Txt w K mg a) : FnOk P w K mg base CX0 1 a.f__law_count a.d__law_count ["draw", "few"] (sp__law_count K) := by
  refine T.F__law_count.ok sc__law_count (fun vs H Q E h => ?_) (fun cdv A outer s H vs Q E hr h => ?_)
  · obtain ⟨d, n, rfl, d0, n0, n1, q⟩ := h
    rfl
  · obtain ⟨d, n, rfl, d0, n0, n1, q⟩ := h
    refine ⟨_, (pss_cons (ps_if (pt_cmpR op_eq (pe_op op_mod (pv 0) pe_int) pe_int (nomark _)) (pss_one (ps_ret (pe_op op_add pe_int (pe_op op_mod (pe_op op_fdiv (pv 0) pe_int) pe_int)))) pss_nil)
        (pss_one (ps_ret (pe_op op_mod (pe_op op_fdiv (pv 0) pe_int) (pv 1))))), ?_⟩
    refine i_st (σ' := [some (.int d), some (.int n)]) rfl ?_
    walk_at "go"
    refine i_kIfd (fun _ => ?_) (fun _ => ?_)
    · walk_at "go"
      exact q _ (by omega) (by omega)
    · walk_at "go"
      have e1 := Int.emod_nonneg (d / 4) (show n ≠ 0 by omega)
      have e2 := Int.emod_lt_of_pos (d / 4) (show 0 < n by omega)
      exact q _ e1 (by omega)
def sp_law (K : PySem.W.Frag) : Sp := fun vs H Q _ => ∃ (b : Addr) (ns : List Int), vs = [.ref b] ∧ SqL K H b (ns.map V.int) ∧ ns.length ≤ 63 ∧ ∀ H', Q (.bl true) H'
theorem law_start {K : PySem.W.Frag} {H : Hp} {b : Addr} {ns : List Int} (hl : ns.length ≤ 63) (hO : Only H) (hS : SqL K H b (ns.map V.int)) : sp_law K [.ref b] H (fun v _ => v = .bl true) (fun _ _ _ => False) := ⟨b, ns, rfl, hS, hl, fun _ => rfl⟩
set_option maxHeartbeats 20000000 in
theorem ok_law (T : Txt w K mg a) : FnOk P w K mg base CX0 5 a.f_law a.d_law ["script"] (sp_law K) := by
  refine T.F_law.ok sc_law (fun vs H Q E h => ?_) (fun cdv A outer s H vs Q E hr h => ?_)
  · obtain ⟨b, ns, rfl, hS, hlen, q⟩ := h
    rfl
  · obtain ⟨b, ns, rfl, hS, hlen, q⟩ := h
    refine ⟨_, (pss_cons (ps_set (i := 1) sc_law.nd rfl (.inl rfl) (pe_call (ok__law_draws (K := K) T) (hr.mono (by decide)) (by rfl) T.g__law_draws T.F__law_draws.kp T.b__law_draws .nil pass0 (pa_cons (pv 0) (pa_cons pe_int pa_nil))))
        (pss_cons (ps_set (i := 2) sc_law.nd rfl (.inl rfl) (pe_makeS T.mk_Chip (ok_Chip___init__ (K := K) T) (hr.mono (by decide)) (by rfl) T.k_Chip T.b_Chip___init__ (fun σ => passAt takes0 σ) (by exact (pa_cons pe_int (pa_cons pe_int pa_nil)))))
        (pss_cons (ps_set (i := 3) sc_law.nd rfl (.inl rfl) (pe_tup (pa_cons (pe_call (ok__law_fates (K := K) T) (hr.mono (by decide)) (by rfl) T.g__law_fates T.F__law_fates.kp T.b__law_fates .nil pass0 (pa_cons (pe_ix (q_ixl (K := K)) (pv 1) pe_int (fun _ _ => rfl)) (pa_cons (pe_op op_mod (pe_ix (q_ixl (K := K)) (pv 1) pe_int (fun _ _ => rfl)) pe_int) pa_nil))) (pa_cons (pe_op op_rep (pe_lst (pa_cons (pe_cmpR op_eq (pe_op op_mod (pe_ix (q_ixl (K := K)) (pv 1) pe_int (fun _ _ => rfl)) pe_int) pe_int (nomark _)) pa_nil)) (pe_op op_mod (pe_ix (q_ixl (K := K)) (pv 1) pe_int (fun _ _ => rfl)) pe_int)) pa_nil))))
        (pss_cons (ps_expr (pe_methE (pv 2) T.cl_Chip T.m_Chip_plan (ok_Chip_plan (K := K) T) (hr.mono (by decide)) T.b_Chip_plan (fun σ => passAt takes0 σ) (by exact (pa_cons (pe_callTy (q_list (K := K)) (by rfl) T.z_list (by decide +kernel) (pa_cons (pe_ix (q_ixt (K := K)) (pv 3) pe_int (fun _ _ => rfl)) pa_nil)) (pa_cons (pe_callTy (q_list (K := K)) (by rfl) T.z_list (by decide +kernel) (pa_cons (pe_ix (q_ixt (K := K)) (pv 3) pe_int (fun _ _ => rfl)) pa_nil)) pa_nil)))))
        (pss_cons (ps_set (i := 4) sc_law.nd rfl (.inl rfl) (pe_call (ok__law_fates (K := K) T) (hr.mono (by decide)) (by rfl) T.g__law_fates T.F__law_fates.kp T.b__law_fates .nil pass0 (pa_cons (pe_ix (q_ixl (K := K)) (pv 1) pe_int (fun _ _ => rfl)) (pa_cons (pe_call (ok__law_count (K := K) T) (hr.mono (by decide)) (by rfl) T.g__law_count T.F__law_count.kp T.b__law_count .nil pass0 (pa_cons (pe_ix (q_ixl (K := K)) (pv 1) pe_int (fun _ _ => rfl)) (pa_cons pe_int pa_nil))) pa_nil))))
        (pss_cons (ps_set (i := 5) sc_law.nd rfl (.inl rfl) (pe_op op_rep (pe_lst (pa_cons (pe_cmpR op_eq (pe_op op_mod (pe_ix (q_ixl (K := K)) (pv 1) pe_int (fun _ _ => rfl)) pe_int) pe_int (nomark _)) pa_nil)) (pe_call (ok__law_count (K := K) T) (hr.mono (by decide)) (by rfl) T.g__law_count T.F__law_count.kp T.b__law_count .nil pass0 (pa_cons (pe_ix (q_ixl (K := K)) (pv 1) pe_int (fun _ _ => rfl)) (pa_cons pe_int pa_nil)))))
        (pss_cons (ps_set (i := 6) sc_law.nd rfl (.inl rfl) pe_bl)
        (C8.pss_cut (ps_if (PW.pt (pw_and (pt_cmpR op_eq (pe_op op_mod (pe_ix (q_ixl (K := K)) (pv 1) pe_int (fun _ _ => rfl)) pe_int) pe_int (nomark _)) (pw_and1 (pt_cmpR op_gt (pe_callB (q_len (K := K)) (by rfl) T.z_len (by decide +kernel) (pa_cons (pv 4) pa_nil)) pe_int (nomark _))))) (pss_cons (ps_asg pe_str (pg_sub (pv 4) (pe_op op_mod (pe_op op_fdiv (pe_ix (q_ixl (K := K)) (pv 1) pe_int (fun _ _ => rfl)) pe_int) (pe_callB (q_len (K := K)) (by rfl) T.z_len (by decide +kernel) (pa_cons (pv 4) pa_nil))) set_list))
        (pss_one (ps_set (i := 6) sc_law.nd rfl (.inl rfl) pe_bl))) pss_nil)
        (pss_cons (ps_set (i := 7) sc_law.nd rfl (.inl rfl) (pe_tup (pa_cons (pe_callTy (q_list (K := K)) (by rfl) T.z_list (by decide +kernel) (pa_cons (pv 4) pa_nil)) (pa_cons (pe_callTy (q_list (K := K)) (by rfl) T.z_list (by decide +kernel) (pa_cons (pv 5) pa_nil)) pa_nil))))
        (pss_cons (ps_set (i := 8) sc_law.nd rfl (.inl rfl) pe_str)
        (C8.pss_cut (ps_try_many (tb := fun W => tDrop (tMethE a.k_Chip "plan" (sp_Chip_plan K a.k_Chip a.k_InvalidFates a.k_InvalidLooks) (WE W) (tVar 2) (tCons (tVar 4) (tCons (tVar 5) tNil)))) (Wout := fun _ _ _ _ => False) rfl rfl takes0 (fun W pn xe tk _ => (pss_one (ps_expr (pe_methE (pv 2) T.cl_Chip T.m_Chip_plan (ok_Chip_plan (K := K) T) (hr.mono (by decide)) T.b_Chip_plan (fun σ => passAt tk σ) (by exact (pa_cons (pv 4) (pa_cons (pv 5) pa_nil))))))) (.cons (ts := fun _ _ _ => tAsg (tC (.str "fates")) (gName 8)) ⟨rfl, by decide, Or.inl T.g_InvalidFates⟩ (fun _ _ _ _ _ _ _ => (pss_one (ps_set (i := 8) sc_law.nd rfl (.inl rfl) pe_str))) (.cons (ts := fun _ _ _ => tAsg (tC (.str "looks")) (gName 8)) ⟨rfl, by decide, Or.inl T.g_InvalidLooks⟩ (fun _ _ _ _ _ _ _ => (pss_one (ps_set (i := 8) sc_law.nd rfl (.inl rfl) pe_str))) .nil)))
        (pss_cons (ps_if (pt_cmpR (q_neD (K := K) hr.units) (pe_tup (pa_cons (pv 4) (pa_cons (pv 5) pa_nil))) (pv 7) (nomark _)) (pss_one (ps_ret pe_bl)) pss_nil)
        (pss_cons (ps_expr (pe_bm PySem.F.plainAttrs_list PySem.F.slot_list_append PySem.F.type_list_append mt_append (pv 4) (pa_cons pe_str pa_nil)))
        (pss_cons (ps_expr (pe_bm PySem.F.plainAttrs_list PySem.F.slot_list_append PySem.F.type_list_append mt_append (pv 5) (pa_cons pe_bl pa_nil)))
        (pss_cons (ps_if (PW.pt (pw_or (pt_not (pt_val (pv 6))) (pw_or1 (pt_cmpR op_gt (pe_callB (q_len (K := K)) (by rfl) T.z_len (by decide +kernel) (pa_cons (pe_ix (q_ixt (K := K)) (pv 7) pe_int (fun _ _ => rfl)) pa_nil)) pe_int (nomark _))))) (pss_one (ps_ret (pe_and (pe_cmpR op_eq (pv 8) pe_str (nomark _)) (pe_one (pe_cmpR (q_eqD (K := K) hr.units) (pe_tup (pa_cons (pe_meth0 (pv 2) T.cl_Chip T.m_Chip_fates_left (ok_Chip_fates_left (K := K) T) (hr.mono (by decide)) T.b_Chip_fates_left .nil pass0) (pa_cons (pe_meth0 (pv 2) T.cl_Chip T.m_Chip_looks_left (ok_Chip_looks_left (K := K) T) (hr.mono (by decide)) T.b_Chip_looks_left .nil pass0) pa_nil))) (pv 3) (nomark _)))))) pss_nil)
        (pss_cons (ps_if (pt_cmpR op_gt (pe_callB (q_len (K := K)) (by rfl) T.z_len (by decide +kernel) (pa_cons (pe_ix (q_ixt (K := K)) (pv 7) pe_int (fun _ _ => rfl)) pa_nil)) pe_int (nomark _)) (pss_one (ps_ret (pe_and (pe_cmpR op_eq (pv 8) pe_str (nomark _)) (pe_one (pe_cmpR (q_eqD (K := K) hr.units) (pe_tup (pa_cons (pe_meth0 (pv 2) T.cl_Chip T.m_Chip_fates_left (ok_Chip_fates_left (K := K) T) (hr.mono (by decide)) T.b_Chip_fates_left .nil pass0) (pa_cons (pe_meth0 (pv 2) T.cl_Chip T.m_Chip_looks_left (ok_Chip_looks_left (K := K) T) (hr.mono (by decide)) T.b_Chip_looks_left .nil pass0) pa_nil))) (pv 3) (nomark _)))))) pss_nil)
        (pss_one (ps_ret (pe_and (pe_cmpR op_eq (pv 8) pe_str (nomark _)) (pe_one (pe_cmpR (q_eqD (K := K) hr.units) (pe_tup (pa_cons (pe_meth0 (pv 2) T.cl_Chip T.m_Chip_fates_left (ok_Chip_fates_left (K := K) T) (hr.mono (by decide)) T.b_Chip_fates_left .nil pass0) (pa_cons (pe_meth0 (pv 2) T.cl_Chip T.m_Chip_looks_left (ok_Chip_looks_left (K := K) T) (hr.mono (by decide)) T.b_Chip_looks_left .nil pass0) pa_nil))) (pv 7) (nomark _)))))))))))))))))))))), ?_⟩
    refine i_st (σ' := [some (.ref b), none, none, none, none, none, none, none, none]) rfl ?_
    walk_at "go"
    refine ⟨b, ns, 5, rfl, hS, by decide, by decide, fun H1 p ds sm np hp hl hd => ?_⟩
    have gd := getD_nn hd
    have hl' : ds.length = 5 := hl
    have hpS : SqL K H1 p (ds.map V.int) := SqL.of hp
    have g0 := gd 0
    have g1 := gd 1
    have g2 := gd 2
    have g3 := gd 3
    have g4 := gd 4
    walk_at "go"
    intro x dx nx ndx ne
    have sm0 : Same H1 (upd (upd H1 dx (.own x)) x (.ins a.k_Chip dx [])) := Same.trans (same_upd ndx) (same_upd (upd_free ne.symm nx))
    refine ⟨x, dx, 24, 16, rfl, upd_same, by decide, by decide, fun _ H2 k2 hC => ⟨rfl, ?_⟩, fun hn => absurd (by decide) hn⟩
    have sm12 := keep_same nx sm0 k2
    obtain ⟨lf, ll, hP2⟩ := PlanAt.of hC
    have hp2 := sm12 _ _ hp
    have hpS2 := SqL.of (K := K) hp2
    walk_at "go"
    refine ⟨_, _, rfl, g0, by omega, by omega, fun H3 pf F0 sm3 n3 h3 hl3 hk3 => ?_⟩
    have hpS3 := SqL.of (K := K) (sm3 _ _ hp2)
    walk_at "go"
    refine a_lst (sz (by simp)) fun t4 H4 sm4 n4 h4 => ?_
    have hpS4 := SqL.of (K := K) (sm4 _ _ (sm3 _ _ hp2))
    walk_at "go"
    refine a_repB h4 (by omega) (by omega) fun pl H5 sm5 n5 h5 => ?_
    have hL0 : (List.replicate (ds.getD 1 0 % 6).toNat (decide (ds.getD 1 0 % 3 = 0))).length ≤ 5 := by rw [List.length_replicate]; omega
    generalize List.replicate (ds.getD 1 0 % 6).toNat (decide (ds.getD 1 0 % 3 = 0)) = L0 at h5 hL0
    walk_at "go"
    refine a_tup (sz (by simp)) fun tf H6 sm6 n6 h6 => ?_
    have sm26 := Same.trans sm3 (Same.trans sm4 (Same.trans sm5 sm6))
    have hP6 := hP2.same sm26
    obtain ⟨dx', sh, lb, hx6, hlf6, hll6⟩ := hP6.ex
    have hpf6 := sm6 _ _ (sm5 _ _ (sm4 _ _ h3))
    have hpl6 := sm6 _ _ h5
    have hp6 := sm26 _ _ hp2
    walk_at "go"
    refine i_kM1E hx6 (lookup_no _ kCh rfl (by decide +kernel)) ?_
    walk_at "go"
    refine a_listL (SqL.of hpf6) fun u1 H7 sm7 n7 h7 => ?_
    walk_at "go"
    refine a_listL (SqL.of (sm7 _ _ hpl6)) fun u2 H8 sm8 n8 h8 => ?_
    have sm68 := Same.trans sm7 sm8
    walk_at "go"
    refine ⟨x, u1, u2, lf, ll, [], F0, [], L0, rfl, hP6.same sm68, sm8 _ _ h7, h8, by omega, by omega, fun _ H9 lf1 ll1 k9 nlf nll hP9 => ?_, fun hn => absurd ⟨by omega, hk3⟩ hn, fun _ hn => absurd (by omega) hn⟩
    have kk : Keep x H6 H9 := Keep.trans (Keep.of sm68) k9
    have np' : p ≠ x := ne_of hp6 hx6 (by intro z; cases z)
    have nf' : tf ≠ x := ne_of h6 hx6 (by intro z; cases z)
    have npf : pf ≠ x := ne_of hpf6 hx6 (by intro z; cases z)
    have npl : pl ≠ x := ne_of hpl6 hx6 (by intro z; cases z)
    have hp9 := kk _ _ np' hp6
    have htf9 := kk _ _ nf' h6
    have hpf9 := kk _ _ npf hpf6
    have hpl9 := kk _ _ npl hpl6
    have hpS9 := SqL.of (K := K) hp9
    walk_at "go"
    refine ⟨_, _, rfl, g2, by decide, by decide, fun r r0 r1 => ?_⟩
    walk_at "go"
    refine ⟨_, _, rfl, g2, r0, r1, fun H10 f2 F1 sm10 n10 h10 hl10 hk10 => ?_⟩
    have hpS10 := SqL.of (K := K) (sm10 _ _ hp9)
    walk_at "go"
    refine a_lst (sz (by simp)) fun t11 H11 sm11 n11 h11 => ?_
    have hpS11 := SqL.of (K := K) (sm11 _ _ (sm10 _ _ hp9))
    walk_at "go"
    refine ⟨_, _, rfl, g3, by decide, by decide, fun r' r0' r1' => ?_⟩
    walk_at "go"
    refine a_repB h11 (by omega) (by omega) fun l2 H12 sm12' n12 h12 => ?_
    have hL1 : (List.replicate r'.toNat (decide (ds.getD 3 0 % 5 = 0))).length ≤ 203 := by rw [List.length_replicate]; omega
    generalize List.replicate r'.toNat (decide (ds.getD 3 0 % 5 = 0)) = L1 at h12 hL1
    have sm912 := Same.trans sm10 (Same.trans sm11 sm12')
    have hf12 := sm12' _ _ (sm11 _ _ h10)
    have hP12 := hP9.same sm912
    have hp12 := sm912 _ _ hp9
    have htf12 := sm912 _ _ htf9
    have hpf12 := sm912 _ _ hpf9
    have hpl12 := sm912 _ _ hpl9
    have hpS12 := SqL.of (K := K) hp12
    have hfS12 := SqL.of (K := K) hf12
    have hlm : (F1.map V.str).length = F1.length := List.length_map _
    obtain ⟨dx9, sh9, lb9, hx9, hlf9, hll9⟩ := hP9.ex
    have ef2x : x ≠ f2 := ne_of_none hx9 n10
    have ef2lf : lf1 ≠ f2 := ne_of_none hlf9 n10
    have ef2ll : ll1 ≠ f2 := ne_of_none hll9 n10
    have ef2l2 : l2 ≠ f2 := (ne_of_none (sm11 _ _ h10) n12).symm
    have el2lf : lf1 ≠ l2 := ne_of_none (sm11 _ _ (sm10 _ _ hlf9)) n12
    have el2ll : ll1 ≠ l2 := ne_of_none (sm11 _ _ (sm10 _ _ hll9)) n12
    have el2x : x ≠ l2 := ne_of_none (sm11 _ _ (sm10 _ _ hx9)) n12
    walk_at "go"
    refine i_cut (fun σ' H' => (∀ b o, b ≠ f2 → H12 b = some o → H' b = some o) ∧ ∃ F2 : List Str, H' f2 = some (.lst (F2.map V.str)) ∧ F2.length ≤ 203 ∧ wordsOk F2 ∧ σ' = [some (.ref b), some (.ref p), some (.ref x), some (.ref tf), some (.ref f2), some (.ref l2), some (.bl (knows F2)), none, none]) ?_ ?_
    · walk_at "go"
      refine i_kAnd (fun ha => ?_) (fun _ => ?_)
      · walk_at "go"
        refine i_kIfd (fun hb => ?_) (fun _ => ?_)
        · walk_at "go"
          have e1 := Int.emod_nonneg (ds.getD 4 0 / 5) (show ((F1.map V.str).length : Int) ≠ 0 by omega)
          have e2 := Int.emod_lt_of_pos (ds.getD 4 0 / 5) hb
          refine a_setV (ds.getD 4 0 / 5 % ((F1.map V.str).length : Int)).toNat hf12 (by rw [Int.toNat_of_nonneg e1]) (by omega) fun H13 k13 h13 => ?_
          walk_at "go"
          refine ⟨k13, F1.set (ds.getD 4 0 / 5 % ((F1.map V.str).length : Int)).toNat "after", by rw [h13, List.map_set], by rw [List.length_set]; omega, ok_set (ok_of_knows hk10) _, ?_⟩
          rw [after_no (by omega)]
        · walk_at "go"
          exact ⟨fun _ _ _ e => e, F1, hf12, by omega, ok_of_knows hk10, by rw [hk10]⟩
      · walk_at "go"
        exact ⟨fun _ _ _ e => e, F1, hf12, by omega, ok_of_knows hk10, by rw [hk10]⟩
    rintro σ' H13 ⟨k13, F2, h13, hl13, ho13, rfl⟩
    have hP13 := hP12.mut k13 ef2x ef2lf ef2ll
    have hl213 := k13 _ _ ef2l2 h12
    have htf13 := k13 _ _ (ne_of_none htf9 n10) htf12
    have hpf13 := k13 _ _ (ne_of_none hpf9 n10) hpf12
    have hpl13 := k13 _ _ (ne_of_none hpl9 n10) hpl12
    walk_at "go"
    refine a_listL (SqL.of h13) fun v1 H14 sm14 n14 h14 => ?_
    walk_at "go"
    refine a_listL (SqL.of (sm14 _ _ hl213)) fun v2 H15 sm15 n15 h15 => ?_
    walk_at "go"
    refine a_tup (sz (by simp)) fun tg H16 sm16 n16 h16 => ?_
    have sm1316 := Same.trans sm14 (Same.trans sm15 sm16)
    have hP16 := hP13.same sm1316
    obtain ⟨dx16, sh16, lb16, hx16, _, _⟩ := hP16.ex
    have hf16 := sm1316 _ _ h13
    have hl16 := sm1316 _ _ hl213
    have hv116 := sm16 _ _ (sm15 _ _ h14)
    have hv216 := sm16 _ _ h15
    walk_at "go"
    refine i_cut (fun σ' H' => ∃ (wd : Str) (lf' ll' : Addr) (F3 : List Str) (L3 : List Bool), σ' = [some (.ref b), some (.ref p), some (.ref x), some (.ref tf), some (.ref f2), some (.ref l2), some (.bl (knows F2)), some (.ref tg), some (.str wd)] ∧ PlanAt a.k_Chip H' x lf' ll' F3 L3 ∧ Keep x H16 H' ∧ lf' ≠ f2 ∧ lf' ≠ l2 ∧ ll' ≠ f2 ∧ ll' ≠ l2 ∧
      (((F2.length ≤ 200 ∧ knows F2 = true ∧ L1.length ≤ 200) ∧ wd = "done" ∧ F3 = F2 ∧ L3 = L1) ∨ (¬ (F2.length ≤ 200 ∧ knows F2 = true) ∧ wd = "fates" ∧ F3 = F0 ∧ L3 = L0) ∨ ((F2.length ≤ 200 ∧ knows F2 = true ∧ ¬ L1.length ≤ 200) ∧ wd = "looks" ∧ F3 = F0 ∧ L3 = L0))) ?_ ?_
    · walk_at "go"
      refine i_kM1E hx16 (lookup_no _ kCh rfl (by decide +kernel)) ?_
      walk_at "go"
      refine ⟨x, f2, l2, lf1, ll1, F0, F2, L0, L1, rfl, hP16, hf16, hl16, by omega, by omega, fun hq H' lf' ll' k nlf nll hP' => ?_, fun hn H' sm => ?_, fun hq hn H' sm => ?_⟩
      · walk_at "go"
        exact ⟨"done", lf', ll', F2, L1, rfl, hP', k, (ne_of_none hf16 nlf).symm, (ne_of_none hl16 nlf).symm, (ne_of_none hf16 nll).symm, (ne_of_none hl16 nll).symm, .inl ⟨hq, rfl, rfl, rfl⟩⟩
      · refine i_wMany1 T.e_InvalidFates fun a0 _ => ?_
        walk_at "go"
        exact ⟨"fates", lf1, ll1, F0, L0, rfl, hP16.same sm, Keep.of sm, ef2lf, el2lf, ef2ll, el2ll, .inr (.inl ⟨hn, rfl, rfl, rfl⟩)⟩
      · refine i_wMany2 T.en_InvalidLooks_InvalidFates ?_
        refine i_wMany1 T.e_InvalidLooks fun a0 _ => ?_
        walk_at "go"
        exact ⟨"looks", lf1, ll1, F0, L0, rfl, hP16.same sm, Keep.of sm, ef2lf, el2lf, ef2ll, el2ll, .inr (.inr ⟨⟨hq.1, hq.2, hn⟩, rfl, rfl, rfl⟩)⟩
    rintro σ' H17 ⟨wd, lf', ll', F3, L3, rfl, hP17, k17, e1, e2, e3, e4, hrel⟩
    have nn : ∀ {y : Addr} {l : List V}, H16 y = some (.lst l) → y ≠ x := fun h => ne_of h hx16 (by intro z; cases z)
    have nt : ∀ {y : Addr} {l : List V}, H16 y = some (.tup l) → y ≠ x := fun h => ne_of h hx16 (by intro z; cases z)
    have htf16 := sm1316 _ _ htf13
    have hpf16 := sm1316 _ _ hpf13
    have hpl16 := sm1316 _ _ hpl13
    have hf17 := k17 _ _ (nn hf16) hf16
    have hl17 := k17 _ _ (nn hl16) hl16
    have hv117 := k17 _ _ (nn hv116) hv116
    have hv217 := k17 _ _ (nn hv216) hv216
    have htg17 := k17 _ _ (nt h16) h16
    have htf17 := k17 _ _ (nt htf16) htf16
    have hpf17 := k17 _ _ (nn hpf16) hpf16
    have hpl17 := k17 _ _ (nn hpl16) hpl16
    walk_at "go"
    refine a_tup (sz (by simp)) fun t18 H18 sm18 n18 h18 => ?_
    walk_at "go"
    refine i_neD (.tup (SqT.of h18) (.cons (dp_strs (SqL.of (sm18 _ _ hf17))) (.cons (dp_bools (SqL.of (sm18 _ _ hl17))) .nil))) (.tup (SqT.of (sm18 _ _ htg17)) (.cons (dp_strs (SqL.of (sm18 _ _ hv117))) (.cons (dp_bools (SqL.of (sm18 _ _ hv217))) .nil))) (shaped_plan ho13) (shaped_plan ho13) ?_
    rw [eqv_plan, decide_eq_true ⟨rfl, rfl⟩, Bool.not_true]
    have hfS18 := SqL.of (K := K) (sm18 _ _ hf17)
    walk_at "go"
    refine a_appV (sm18 _ _ hf17) (by rw [List.length_map]; omega) fun H19 k19 => ?_
    have hl19 := k19 _ _ ef2l2 (sm18 _ _ hl17)
    have hlS19 := SqL.of (K := K) hl19
    walk_at "go"
    refine a_appV hl19 (by rw [List.length_map]; omega) fun H20 k20 => ?_
    have hP20 := ((hP17.same sm18).mut k19 ef2x e1 e3).mut k20 el2x e2 e4
    obtain ⟨dx20, sh20, lb20, hx20, _, _⟩ := hP20.ex
    have go20 : ∀ {y : Addr} {o : HO}, y ≠ f2 → y ≠ l2 → H17 y = some o → H20 y = some o := fun n1 n2 h => k20 _ _ n2 (k19 _ _ n1 (sm18 _ _ h))
    have fresh9 : ∀ {y : Addr} {o : HO}, H9 y = some o → y ≠ f2 ∧ y ≠ l2 := fun h => ⟨ne_of_none h n10, ne_of_none (sm11 _ _ (sm10 _ _ h)) n12⟩
    have htf20 := go20 (fresh9 htf9).1 (fresh9 htf9).2 htf17
    have hpf20 := go20 (fresh9 hpf9).1 (fresh9 hpf9).2 hpf17
    have hpl20 := go20 (fresh9 hpl9).1 (fresh9 hpl9).2 hpl17
    have htg20 := go20 (ne_of_none (sm15 _ _ (sm14 _ _ h13)) n16).symm (ne_of_none (sm15 _ _ (sm14 _ _ hl213)) n16).symm htg17
    have hv120 := go20 (ne_of_none h13 n14).symm (ne_of_none hl213 n14).symm hv117
    have hv220 := go20 (ne_of_none (sm14 _ _ h13) n15).symm (ne_of_none (sm14 _ _ hl213) n15).symm hv217
    have hlm2 : (F2.map V.str).length = F2.length := List.length_map _
    have hlm3 : (L1.map V.bl).length = L1.length := List.length_map _
    walk_at "go"
    rcases hrel with ⟨⟨r1, r2, r3⟩, hw, hF, hL⟩ | ⟨r1, hw, hF, hL⟩ | ⟨⟨r1, r2, r3⟩, hw, hF, hL⟩
    · subst hw
      have ho3 : wordsOk F3 := by rw [hF]; exact ho13
      rw [r2, Bool.not_true]
      walk_at "go"
      rw [decide_eq_false (show ¬ (200 : Int) < ((F2.map V.str).length : Int) by omega)]
      walk_at "go"
      rw [decide_eq_false (show ¬ (200 : Int) < ((L1.map V.bl).length : Int) by omega)]
      walk_at "go"
      rw [decide_eq_true rfl]
      refine i_kAndV (fun _ => ?_) (fun hh => by cases hh)
      walk_at "go"
      refine i_kM1 hx20 (lookup_no _ kCh rfl (by decide +kernel)) ?_
      walk_at "go"
      refine ⟨x, lf', ll', F3, L3, rfl, hP20, fun H21 y1 sm21 hy1 => ?_⟩
      walk_at "go"
      refine i_kM1 (sm21 _ _ hx20) (lookup_no _ kCh rfl (by decide +kernel)) ?_
      walk_at "go"
      refine ⟨x, lf', ll', F3, L3, rfl, hP20.same sm21, fun H22 y2 sm22 hy2 => ?_⟩
      walk_at "go"
      refine a_tup (sz (by simp)) fun t23 H23 sm23 n23 h23 => ?_
      have sm2023 := Same.trans sm21 (Same.trans sm22 sm23)
      walk_at "go"
      refine i_eqD (.tup (SqT.of h23) (.cons (dp_strs (SqL.of (sm23 _ _ (sm22 _ _ hy1)))) (.cons (dp_bools (SqL.of (sm23 _ _ hy2))) .nil))) (.tup (SqT.of (sm2023 _ _ htg20)) (.cons (dp_strs (SqL.of (sm2023 _ _ hv120))) (.cons (dp_bools (SqL.of (sm2023 _ _ hv220))) .nil))) (shaped_plan ho3) (shaped_plan ho13) ?_
      rw [eqv_plan, decide_eq_true ⟨hF, hL⟩]
      exact q _
    · subst hw
      have ho3 : wordsOk F3 := by rw [hF]; exact ok_of_knows hk3
      cases hk : knows F2 with
      | false =>
        rw [Bool.not_false]
        walk_at "go"
        rw [decide_eq_true rfl]
        refine i_kAndV (fun _ => ?_) (fun hh => by cases hh)
        walk_at "go"
        refine i_kM1 hx20 (lookup_no _ kCh rfl (by decide +kernel)) ?_
        walk_at "go"
        refine ⟨x, lf', ll', F3, L3, rfl, hP20, fun H21 y1 sm21 hy1 => ?_⟩
        walk_at "go"
        refine i_kM1 (sm21 _ _ hx20) (lookup_no _ kCh rfl (by decide +kernel)) ?_
        walk_at "go"
        refine ⟨x, lf', ll', F3, L3, rfl, hP20.same sm21, fun H22 y2 sm22 hy2 => ?_⟩
        walk_at "go"
        refine a_tup (sz (by simp)) fun t23 H23 sm23 n23 h23 => ?_
        have sm2023 := Same.trans sm21 (Same.trans sm22 sm23)
        walk_at "go"
        refine i_eqD (.tup (SqT.of h23) (.cons (dp_strs (SqL.of (sm23 _ _ (sm22 _ _ hy1)))) (.cons (dp_bools (SqL.of (sm23 _ _ hy2))) .nil))) (.tup (SqT.of (sm2023 _ _ htf20)) (.cons (dp_strs (SqL.of (sm2023 _ _ hpf20))) (.cons (dp_bools (SqL.of (sm2023 _ _ hpl20))) .nil))) (shaped_plan ho3) (shaped_plan (ok_of_knows hk3)) ?_
        rw [eqv_plan, decide_eq_true ⟨hF, hL⟩]
        exact q _
      | true =>
        have hlong : ¬ F2.length ≤ 200 := fun h => r1 ⟨h, hk⟩
        rw [Bool.not_true]
        walk_at "go"
        rw [decide_eq_true (show  (200 : Int) < ((F2.map V.str).length : Int) by omega)]
        walk_at "go"
        rw [decide_eq_true rfl]
        refine i_kAndV (fun _ => ?_) (fun hh => by cases hh)
        walk_at "go"
        refine i_kM1 hx20 (lookup_no _ kCh rfl (by decide +kernel)) ?_
        walk_at "go"
        refine ⟨x, lf', ll', F3, L3, rfl, hP20, fun H21 y1 sm21 hy1 => ?_⟩
        walk_at "go"
        refine i_kM1 (sm21 _ _ hx20) (lookup_no _ kCh rfl (by decide +kernel)) ?_
        walk_at "go"
        refine ⟨x, lf', ll', F3, L3, rfl, hP20.same sm21, fun H22 y2 sm22 hy2 => ?_⟩
        walk_at "go"
        refine a_tup (sz (by simp)) fun t23 H23 sm23 n23 h23 => ?_
        have sm2023 := Same.trans sm21 (Same.trans sm22 sm23)
        walk_at "go"
        refine i_eqD (.tup (SqT.of h23) (.cons (dp_strs (SqL.of (sm23 _ _ (sm22 _ _ hy1)))) (.cons (dp_bools (SqL.of (sm23 _ _ hy2))) .nil))) (.tup (SqT.of (sm2023 _ _ htf20)) (.cons (dp_strs (SqL.of (sm2023 _ _ hpf20))) (.cons (dp_bools (SqL.of (sm2023 _ _ hpl20))) .nil))) (shaped_plan ho3) (shaped_plan (ok_of_knows hk3)) ?_
        rw [eqv_plan, decide_eq_true ⟨hF, hL⟩]
        exact q _
    · subst hw
      have ho3 : wordsOk F3 := by rw [hF]; exact ok_of_knows hk3
      rw [r2, Bool.not_true]
      walk_at "go"
      rw [decide_eq_false (show ¬ (200 : Int) < ((F2.map V.str).length : Int) by omega)]
      walk_at "go"
      rw [decide_eq_true (show  (200 : Int) < ((L1.map V.bl).length : Int) by omega)]
      walk_at "go"
      rw [decide_eq_true rfl]
      refine i_kAndV (fun _ => ?_) (fun hh => by cases hh)
      walk_at "go"
      refine i_kM1 hx20 (lookup_no _ kCh rfl (by decide +kernel)) ?_
      walk_at "go"
      refine ⟨x, lf', ll', F3, L3, rfl, hP20, fun H21 y1 sm21 hy1 => ?_⟩
      walk_at "go"
      refine i_kM1 (sm21 _ _ hx20) (lookup_no _ kCh rfl (by decide +kernel)) ?_
      walk_at "go"
      refine ⟨x, lf', ll', F3, L3, rfl, hP20.same sm21, fun H22 y2 sm22 hy2 => ?_⟩
      walk_at "go"
      refine a_tup (sz (by simp)) fun t23 H23 sm23 n23 h23 => ?_
      have sm2023 := Same.trans sm21 (Same.trans sm22 sm23)
      walk_at "go"
      refine i_eqD (.tup (SqT.of h23) (.cons (dp_strs (SqL.of (sm23 _ _ (sm22 _ _ hy1)))) (.cons (dp_bools (SqL.of (sm23 _ _ hy2))) .nil))) (.tup (SqT.of (sm2023 _ _ htf20)) (.cons (dp_strs (SqL.of (sm2023 _ _ hpf20))) (.cons (dp_bools (SqL.of (sm2023 _ _ hpl20))) .nil))) (shaped_plan ho3) (shaped_plan (ok_of_knows hk3)) ?_
      rw [eqv_plan, decide_eq_true ⟨hF, hL⟩]
      exact q _
end
/-! ### what the top has left -/
theorem all_facts {w : World} {K : PySem.W.Frag} {h : Heap} {mg : Str → Option Value} {fa : Addr} (X : K.In h) (G : h.Ns mainGlobals mg) (hfa : mg "law" = some (.ref fa))
    {od0 an0 : Option Addr} {sl0 : Array (Option Value)} {oc0 kV0 dc0 pm0 cd0 ct0 : Value} {f0 : Addr}
    {od1 an1 : Option Addr} {sl1 : Array (Option Value)} {oc1 kV1 dc1 pm1 cd1 ct1 : Value} {f1 : Addr}
    {od2 an2 : Option Addr} {sl2 : Array (Option Value)} {oc2 kV2 dc2 pm2 cd2 ct2 : Value} {f2 : Addr}
    {od3 an3 : Option Addr} {sl3 : Array (Option Value)} {oc3 kV3 dc3 pm3 cd3 ct3 : Value} {f3 : Addr}
    {od4 an4 : Option Addr} {sl4 : Array (Option Value)} {oc4 kV4 dc4 pm4 cd4 ct4 : Value} {f4 : Addr}
    {od5 an5 : Option Addr} {sl5 : Array (Option Value)} {oc5 kV5 dc5 pm5 cd5 ct5 : Value} {f5 : Addr}
    {od6 an6 : Option Addr} {sl6 : Array (Option Value)} {oc6 kV6 dc6 pm6 cd6 ct6 : Value} {f6 : Addr}
    {od7 an7 : Option Addr} {sl7 : Array (Option Value)} {oc7 kV7 dc7 pm7 cd7 ct7 : Value} {f7 : Addr}
    {od8 an8 : Option Addr} {sl8 : Array (Option Value)} {oc8 kV8 dc8 pm8 cd8 ct8 : Value} {f8 : Addr}
    {C_Block : Addr}
    {C_Chip : Addr}
    {C_InvalidSize : Addr}
    {C_InvalidFates : Addr}
    {C_InvalidLooks : Addr}
    (aX_InvalidSize : PySem.W.nsIn K mainGlobals "InvalidSize" = some (some (.ref C_InvalidSize)))
    (xX_InvalidSize : PySem.W.excIn K C_InvalidSize [.type "ValueError", .type "Exception", .type "BaseException", .type "object"] "ValueError.__new__" = true) (kX_InvalidSize : PySem.W.keepIn K (.ref C_InvalidSize) = true) (bX_InvalidSize : PySem.W.subIn K (.ref C_InvalidSize) (.type "BaseException") = some true) (tX_InvalidSize : PySem.W.typeIn K (.ref C_InvalidSize) = some (.type "type")) (iX_InvalidSize : PySem.W.isClsIn K C_InvalidSize = true) (sX_InvalidSize : PySem.W.subIn K (.ref C_InvalidSize) (.ref C_InvalidSize) = some true)
    (aX_InvalidFates : PySem.W.nsIn K mainGlobals "InvalidFates" = some (some (.ref C_InvalidFates)))
    (xX_InvalidFates : PySem.W.excIn K C_InvalidFates [.type "ValueError", .type "Exception", .type "BaseException", .type "object"] "ValueError.__new__" = true) (kX_InvalidFates : PySem.W.keepIn K (.ref C_InvalidFates) = true) (bX_InvalidFates : PySem.W.subIn K (.ref C_InvalidFates) (.type "BaseException") = some true) (tX_InvalidFates : PySem.W.typeIn K (.ref C_InvalidFates) = some (.type "type")) (iX_InvalidFates : PySem.W.isClsIn K C_InvalidFates = true) (sX_InvalidFates : PySem.W.subIn K (.ref C_InvalidFates) (.ref C_InvalidFates) = some true)
    (aX_InvalidLooks : PySem.W.nsIn K mainGlobals "InvalidLooks" = some (some (.ref C_InvalidLooks)))
    (xX_InvalidLooks : PySem.W.excIn K C_InvalidLooks [.type "ValueError", .type "Exception", .type "BaseException", .type "object"] "ValueError.__new__" = true) (kX_InvalidLooks : PySem.W.keepIn K (.ref C_InvalidLooks) = true) (bX_InvalidLooks : PySem.W.subIn K (.ref C_InvalidLooks) (.type "BaseException") = some true) (tX_InvalidLooks : PySem.W.typeIn K (.ref C_InvalidLooks) = some (.type "type")) (iX_InvalidLooks : PySem.W.isClsIn K C_InvalidLooks = true) (sX_InvalidLooks : PySem.W.subIn K (.ref C_InvalidLooks) (.ref C_InvalidLooks) = some true)
    (sX_InvalidLooks_InvalidFates : PySem.W.subIn K (.ref C_InvalidLooks) (.ref C_InvalidFates) = some false)
    {u_BLANK : Addr} {oc_BLANK : Value} {od_BLANK : Option Addr} {ot_BLANK : Array Value} {on_BLANK : Nat} {os_BLANK : Array (Option Value)}
    {u_LEAST_PAGES : Value}
    {u_MOST_PAGES : Value}
    {u_LEAST_BLOCKS : Value}
    {u_MOST_BLOCKS : Value}
    {u_MOST_PLANNED : Value}
    {u_ANSWERS : Addr} {es_ANSWERS : Array DictEntry} {on_ANSWERS : Nat} {w0_ANSWERS : Value} {w1_ANSWERS : Value} {w2_ANSWERS : Value} {w3_ANSWERS : Value}
    (aC_Block : PySem.W.nsIn K mainGlobals "Block" = some (some (.ref C_Block)))
    (aC_Chip : PySem.W.nsIn K mainGlobals "Chip" = some (some (.ref C_Chip)))
    (a0 : PySem.W.findIn K (.ref C_Block) "__init__" = some (some (.ref f0)))
    (i0 : PySem.W.isFn K (.ref f0) = true)
    (l0 : K.lookup f0 = some ⟨oc0, od0, .func (PySem.W.fnOf "__init__" "Block.__init__" (defArgs s_Block___init__) (defBody s_Block___init__) (defScope s_Block___init__) .none kV0 dc0 pm0 an0 cd0 ct0), sl0⟩)
    (c0 : PySem.W.codeIn K cd0 "Block.__init__" = true) (k0 : PySem.W.keepIn K (.ref f0) = true)
    (a1 : PySem.W.findIn K (.ref C_Chip) "__init__" = some (some (.ref f1)))
    (i1 : PySem.W.isFn K (.ref f1) = true)
    (l1 : K.lookup f1 = some ⟨oc1, od1, .func (PySem.W.fnOf "__init__" "Chip.__init__" (defArgs s_Chip___init__) (defBody s_Chip___init__) (defScope s_Chip___init__) .none kV1 dc1 pm1 an1 cd1 ct1), sl1⟩)
    (c1 : PySem.W.codeIn K cd1 "Chip.__init__" = true) (k1 : PySem.W.keepIn K (.ref f1) = true)
    (a2 : PySem.W.findIn K (.ref C_Chip) "plan" = some (some (.ref f2)))
    (i2 : PySem.W.isFn K (.ref f2) = true)
    (l2 : K.lookup f2 = some ⟨oc2, od2, .func (PySem.W.fnOf "plan" "Chip.plan" (defArgs s_Chip_plan) (defBody s_Chip_plan) (defScope s_Chip_plan) .none kV2 dc2 pm2 an2 cd2 ct2), sl2⟩)
    (c2 : PySem.W.codeIn K cd2 "Chip.plan" = true) (k2 : PySem.W.keepIn K (.ref f2) = true)
    (a3 : PySem.W.findIn K (.ref C_Chip) "fates_left" = some (some (.ref f3)))
    (i3 : PySem.W.isFn K (.ref f3) = true)
    (l3 : K.lookup f3 = some ⟨oc3, od3, .func (PySem.W.fnOf "fates_left" "Chip.fates_left" (defArgs s_Chip_fates_left) (defBody s_Chip_fates_left) (defScope s_Chip_fates_left) .none kV3 dc3 pm3 an3 cd3 ct3), sl3⟩)
    (c3 : PySem.W.codeIn K cd3 "Chip.fates_left" = true) (k3 : PySem.W.keepIn K (.ref f3) = true)
    (a4 : PySem.W.findIn K (.ref C_Chip) "looks_left" = some (some (.ref f4)))
    (i4 : PySem.W.isFn K (.ref f4) = true)
    (l4 : K.lookup f4 = some ⟨oc4, od4, .func (PySem.W.fnOf "looks_left" "Chip.looks_left" (defArgs s_Chip_looks_left) (defBody s_Chip_looks_left) (defScope s_Chip_looks_left) .none kV4 dc4 pm4 an4 cd4 ct4), sl4⟩)
    (c4 : PySem.W.codeIn K cd4 "Chip.looks_left" = true) (k4 : PySem.W.keepIn K (.ref f4) = true)
    (a5 : PySem.W.nsIn K mainGlobals "_law_draws" = some (some (.ref f5)))
    (l5 : K.lookup f5 = some ⟨oc5, od5, .func (PySem.W.fnOf "_law_draws" "_law_draws" (defArgs s__law_draws) (defBody s__law_draws) (defScope s__law_draws) .none kV5 dc5 pm5 an5 cd5 ct5), sl5⟩)
    (c5 : PySem.W.codeIn K cd5 "_law_draws" = true) (k5 : PySem.W.keepIn K (.ref f5) = true)
    (a6 : PySem.W.nsIn K mainGlobals "_law_fates" = some (some (.ref f6)))
    (l6 : K.lookup f6 = some ⟨oc6, od6, .func (PySem.W.fnOf "_law_fates" "_law_fates" (defArgs s__law_fates) (defBody s__law_fates) (defScope s__law_fates) .none kV6 dc6 pm6 an6 cd6 ct6), sl6⟩)
    (c6 : PySem.W.codeIn K cd6 "_law_fates" = true) (k6 : PySem.W.keepIn K (.ref f6) = true)
    (a7 : PySem.W.nsIn K mainGlobals "_law_count" = some (some (.ref f7)))
    (l7 : K.lookup f7 = some ⟨oc7, od7, .func (PySem.W.fnOf "_law_count" "_law_count" (defArgs s__law_count) (defBody s__law_count) (defScope s__law_count) .none kV7 dc7 pm7 an7 cd7 ct7), sl7⟩)
    (c7 : PySem.W.codeIn K cd7 "_law_count" = true) (k7 : PySem.W.keepIn K (.ref f7) = true)
    (a8 : PySem.W.nsIn K mainGlobals "law" = some (some (.ref f8)))
    (l8 : K.lookup f8 = some ⟨oc8, od8, .func (PySem.W.fnOf "law" "law" (defArgs s_law) (defBody s_law) (defScope s_law) .none kV8 dc8 pm8 an8 cd8 ct8), sl8⟩)
    (c8 : PySem.W.codeIn K cd8 "law" = true) (k8 : PySem.W.keepIn K (.ref f8) = true)
    (pg_Block : PySem.W.plainGet K C_Block Str.empty = true) (hd_Block : PySem.W.hasDictIn K C_Block = true) (po_Block : PySem.W.plainOver K C_Block = true) (sa_Block : PySem.W.findIn K (.ref C_Block) "__setattr__" = some (some (.builtin "object.__setattr__"))) (mk_Block : PySem.W.makesIn K C_Block = true) (kc_Block : PySem.W.keepIn K (.ref C_Block) = true)
    (n_Block_states : PySem.W.findIn K (.ref C_Block) "states" = some none)
    (n_Block_alive : PySem.W.findIn K (.ref C_Block) "alive" = some none)
    (n_Block_erased : PySem.W.findIn K (.ref C_Block) "erased" = some none)
    (pg_Chip : PySem.W.plainGet K C_Chip Str.empty = true) (hd_Chip : PySem.W.hasDictIn K C_Chip = true) (po_Chip : PySem.W.plainOver K C_Chip = true) (sa_Chip : PySem.W.findIn K (.ref C_Chip) "__setattr__" = some (some (.builtin "object.__setattr__"))) (mk_Chip : PySem.W.makesIn K C_Chip = true) (kc_Chip : PySem.W.keepIn K (.ref C_Chip) = true)
    (n_Chip_shape : PySem.W.findIn K (.ref C_Chip) "shape" = some none)
    (n_Chip_powered : PySem.W.findIn K (.ref C_Chip) "powered" = some none)
    (n_Chip_refused : PySem.W.findIn K (.ref C_Chip) "refused" = some none)
    (n_Chip_generation : PySem.W.findIn K (.ref C_Chip) "generation" = some none)
    (n_Chip__blocks : PySem.W.findIn K (.ref C_Chip) "_blocks" = some none)
    (n_Chip__fates : PySem.W.findIn K (.ref C_Chip) "_fates" = some none)
    (n_Chip__looks : PySem.W.findIn K (.ref C_Chip) "_looks" = some none)
    (z_range : PySem.W.nsIn K mainGlobals "range" = some none)
    (z_list : PySem.W.nsIn K mainGlobals "list" = some none)
    (z_len : PySem.W.nsIn K mainGlobals "len" = some none)
    (z_any : PySem.W.nsIn K mainGlobals "any" = some none)
    (z_int : PySem.W.nsIn K mainGlobals "int" = some none)
    (e_BLANK : PySem.W.nsIn K mainGlobals "BLANK" = some (some (.ref u_BLANK))) (o_BLANK : K.lookup u_BLANK = some ⟨oc_BLANK, od_BLANK, .seq ot_BLANK on_BLANK, os_BLANK⟩)
    (e_LEAST_PAGES : PySem.W.nsIn K mainGlobals "LEAST_PAGES" = some (some u_LEAST_PAGES))
    (e_MOST_PAGES : PySem.W.nsIn K mainGlobals "MOST_PAGES" = some (some u_MOST_PAGES))
    (e_LEAST_BLOCKS : PySem.W.nsIn K mainGlobals "LEAST_BLOCKS" = some (some u_LEAST_BLOCKS))
    (e_MOST_BLOCKS : PySem.W.nsIn K mainGlobals "MOST_BLOCKS" = some (some u_MOST_BLOCKS))
    (e_MOST_PLANNED : PySem.W.nsIn K mainGlobals "MOST_PLANNED" = some (some u_MOST_PLANNED))
    (e_ANSWERS : PySem.W.nsIn K mainGlobals "ANSWERS" = some (some (.ref u_ANSWERS))) (o_ANSWERS : K.lookup u_ANSWERS = some ⟨.type "dict", none, .dict es_ANSWERS on_ANSWERS, #[]⟩)
    (g0_ANSWERS : PySem.W.nsIn K u_ANSWERS "ok" = some (some w0_ANSWERS))
    (g1_ANSWERS : PySem.W.nsIn K u_ANSWERS "fail" = some (some w1_ANSWERS))
    (g2_ANSWERS : PySem.W.nsIn K u_ANSWERS "before" = some (some w2_ANSWERS))
    (g3_ANSWERS : PySem.W.nsIn K u_ANSWERS "during" = some (some w3_ANSWERS))
    (r1_BLANK : oc_BLANK = .type "tuple") (r2_BLANK : ot_BLANK.size ≤ sizeLine) (r3_BLANK : Vals [V.str "blank"] ot_BLANK.toList)
    (r_LEAST_PAGES : RelV (V.int 16) u_LEAST_PAGES)
    (r_MOST_PAGES : RelV (V.int 32) u_MOST_PAGES)
    (r_LEAST_BLOCKS : RelV (V.int 24) u_LEAST_BLOCKS)
    (r_MOST_BLOCKS : RelV (V.int 48) u_MOST_BLOCKS)
    (r_MOST_PLANNED : RelV (V.int 200) u_MOST_PLANNED)
    (r4_ANSWERS : (u_ANSWERS == sysModules) = false) (r1k_ANSWERS : PySem.W.KeysLit w.params es_ANSWERS.toList) (r2k_ANSWERS : Paired (fun (p : Str × V) (e : DictEntry) => (∃ t, e.key = .str p.1 t) ∧ RelV p.2 e.val) [("ok", V.str "done"), ("fail", V.str "failed"), ("before", V.str "cut"), ("during", V.str "cut")] es_ANSWERS.toList)
    (rv0_ANSWERS : RelV (V.str "done") w0_ANSWERS)
    (rv1_ANSWERS : RelV (V.str "failed") w1_ANSWERS)
    (rv2_ANSWERS : RelV (V.str "cut") w2_ANSWERS)
    (rv3_ANSWERS : RelV (V.str "cut") w3_ANSWERS) :
    ∃ fd : FuncData, (∀ (s : Shared) (v : Value), BindsTo s fd ⟨[v], []⟩ [("script", v)]) ∧ ∀ {P : Program} (base : Heap), FnOk P w K mg base CX0 5 fa fd ["script"] (sp_law K) := by
  have e := hfa.symm.trans (PySem.W.mg_of X G a8)
  cases e
  have F0 := fun_mk (st := s_Block___init__) l0 c0 k0
  have B0 := F0.binds (ps := ["self", "pages"]) fun _ _ _ _ _ _ us hl => match us, hl with | [_, _], _ => rfl
  have F1 := fun_mk (st := s_Chip___init__) l1 c1 k1
  have B1 := F1.binds (ps := ["self", "blocks", "pages"]) fun _ _ _ _ _ _ us hl => match us, hl with | [_, _, _], _ => rfl
  have F2 := fun_mk (st := s_Chip_plan) l2 c2 k2
  have B2 := F2.binds (ps := ["self", "fates", "looks"]) fun _ _ _ _ _ _ us hl => match us, hl with | [_, _, _], _ => rfl
  have F3 := fun_mk (st := s_Chip_fates_left) l3 c3 k3
  have B3 := F3.binds (ps := ["self"]) fun _ _ _ _ _ _ us hl => match us, hl with | [_], _ => rfl
  have F4 := fun_mk (st := s_Chip_looks_left) l4 c4 k4
  have B4 := F4.binds (ps := ["self"]) fun _ _ _ _ _ _ us hl => match us, hl with | [_], _ => rfl
  have F5 := fun_mk (st := s__law_draws) l5 c5 k5
  have B5 := F5.binds (ps := ["script", "count"]) fun _ _ _ _ _ _ us hl => match us, hl with | [_, _], _ => rfl
  have F6 := fun_mk (st := s__law_fates) l6 c6 k6
  have B6 := F6.binds (ps := ["draw", "count"]) fun _ _ _ _ _ _ us hl => match us, hl with | [_, _], _ => rfl
  have F7 := fun_mk (st := s__law_count) l7 c7 k7
  have B7 := F7.binds (ps := ["draw", "few"]) fun _ _ _ _ _ _ us hl => match us, hl with | [_, _], _ => rfl
  have F8 := fun_mk (st := s_law) l8 c8 k8
  have B8 := F8.binds (ps := ["script"]) fun _ _ _ _ _ _ us hl => match us, hl with | [_], _ => rfl
  have T : Txt w K mg ⟨f0, _, f1, _, f2, _, f3, _, f4, _, f5, _, f6, _, f7, _, _, _, C_Block, C_Chip, C_InvalidSize, C_InvalidFates, C_InvalidLooks, .ref u_BLANK, u_BLANK, u_LEAST_PAGES, u_MOST_PAGES, u_LEAST_BLOCKS, u_MOST_BLOCKS, u_MOST_PLANNED, .ref u_ANSWERS, u_ANSWERS⟩ := {
    F_Block___init__ := F0
    b_Block___init__ := B0
    F_Chip___init__ := F1
    b_Chip___init__ := B1
    F_Chip_plan := F2
    b_Chip_plan := B2
    m_Chip_plan := ⟨a2, i2, k2⟩
    F_Chip_fates_left := F3
    b_Chip_fates_left := B3
    m_Chip_fates_left := ⟨a3, i3, k3⟩
    F_Chip_looks_left := F4
    b_Chip_looks_left := B4
    m_Chip_looks_left := ⟨a4, i4, k4⟩
    F__law_draws := F5
    b__law_draws := B5
    g__law_draws := PySem.W.mg_of X G a5
    F__law_fates := F6
    b__law_fates := B6
    g__law_fates := PySem.W.mg_of X G a6
    F__law_count := F7
    b__law_count := B7
    g__law_count := PySem.W.mg_of X G a7
    F_law := F8
    b_law := B8
    g_law := PySem.W.mg_of X G a8
    cl_Block := ⟨pg_Block, hd_Block, po_Block, sa_Block⟩
    k_Block := PySem.W.mg_of X G aC_Block
    mk_Block := ⟨mk_Block, a0, i0, kc_Block⟩
    n_Block_states := n_Block_states
    n_Block_alive := n_Block_alive
    n_Block_erased := n_Block_erased
    cl_Chip := ⟨pg_Chip, hd_Chip, po_Chip, sa_Chip⟩
    k_Chip := PySem.W.mg_of X G aC_Chip
    mk_Chip := ⟨mk_Chip, a1, i1, kc_Chip⟩
    n_Chip_shape := n_Chip_shape
    n_Chip_powered := n_Chip_powered
    n_Chip_refused := n_Chip_refused
    n_Chip_generation := n_Chip_generation
    n_Chip__blocks := n_Chip__blocks
    n_Chip__fates := n_Chip__fates
    n_Chip__looks := n_Chip__looks
    g_InvalidSize := PySem.W.mg_of X G aX_InvalidSize
    x_InvalidSize := xX_InvalidSize
    kp_InvalidSize := kX_InvalidSize
    bs_InvalidSize := bX_InvalidSize
    ty_InvalidSize := tX_InvalidSize
    e_InvalidSize := exm_own bX_InvalidSize iX_InvalidSize tX_InvalidSize sX_InvalidSize
    g_InvalidFates := PySem.W.mg_of X G aX_InvalidFates
    x_InvalidFates := xX_InvalidFates
    kp_InvalidFates := kX_InvalidFates
    bs_InvalidFates := bX_InvalidFates
    ty_InvalidFates := tX_InvalidFates
    e_InvalidFates := exm_own bX_InvalidFates iX_InvalidFates tX_InvalidFates sX_InvalidFates
    g_InvalidLooks := PySem.W.mg_of X G aX_InvalidLooks
    x_InvalidLooks := xX_InvalidLooks
    kp_InvalidLooks := kX_InvalidLooks
    bs_InvalidLooks := bX_InvalidLooks
    ty_InvalidLooks := tX_InvalidLooks
    e_InvalidLooks := exm_own bX_InvalidLooks iX_InvalidLooks tX_InvalidLooks sX_InvalidLooks
    en_InvalidLooks_InvalidFates := exm_not bX_InvalidFates iX_InvalidFates tX_InvalidFates sX_InvalidLooks_InvalidFates
    z_range := PySem.W.mg_none_of X G z_range
    z_list := PySem.W.mg_none_of X G z_list
    z_len := PySem.W.mg_none_of X G z_len
    z_any := PySem.W.mg_none_of X G z_any
    z_int := PySem.W.mg_none_of X G z_int
    c_BLANK := ⟨PySem.W.mg_of X G e_BLANK, rfl⟩
    t_BLANK := fun _ => .inr ⟨_, _, _, o_BLANK, r1_BLANK, rfl, r2_BLANK, r3_BLANK⟩
    c_LEAST_PAGES := ⟨PySem.W.mg_of X G e_LEAST_PAGES, r_LEAST_PAGES⟩
    c_MOST_PAGES := ⟨PySem.W.mg_of X G e_MOST_PAGES, r_MOST_PAGES⟩
    c_LEAST_BLOCKS := ⟨PySem.W.mg_of X G e_LEAST_BLOCKS, r_LEAST_BLOCKS⟩
    c_MOST_BLOCKS := ⟨PySem.W.mg_of X G e_MOST_BLOCKS, r_MOST_BLOCKS⟩
    c_MOST_PLANNED := ⟨PySem.W.mg_of X G e_MOST_PLANNED, r_MOST_PLANNED⟩
    c_ANSWERS := ⟨PySem.W.mg_of X G e_ANSWERS, rfl⟩
    d_ANSWERS := ⟨⟨_, _, o_ANSWERS, r1k_ANSWERS, r2k_ANSWERS⟩, by decide +kernel, r4_ANSWERS, by intro p hp; simp only [List.mem_cons, List.not_mem_nil, or_false] at hp; rcases hp with rfl | rfl | rfl | rfl; all_goals first | exact ⟨_, g0_ANSWERS, rv0_ANSWERS⟩ | exact ⟨_, g1_ANSWERS, rv1_ANSWERS⟩ | exact ⟨_, g2_ANSWERS, rv2_ANSWERS⟩ | exact ⟨_, g3_ANSWERS, rv3_ANSWERS⟩⟩
  }
  exact ⟨_, fun s v => .of_eq rfl, fun base => ok_law T⟩
end P01
open PySem PySem.W PyProof.Rows
set_option maxHeartbeats 0 in
theorem PySem.Challenge.cw_tidemark_k01_plans_of_chips_holds : PySem.Challenge.rw_tidemark_k01_plans_of_chips.Holds := by
  w_on; o_law; k_head; (case hw => w_witness2)
  k_fill
  refine L2.walk_ofK (l := PySem.Challenge.rw_tidemark_k01_plans_of_chips) (n := 63) (k := 5) (x := "script") (CX := L2.CX0) (sp := P01.sp_law) rfl (by decide) rfl ⟨rfl, by decide, by decide⟩ (fun w h Y => PySem.W.kIn_of Y) ?F (fun K H b ns hl hO hS => P01.law_start hl hO hS) (fun _ _ _ _ z => z)
  case F =>
    intro w mg fa h KX G hmg
    have q := @P01.all_facts
    obtain ⟨fd, h1, h2⟩ : ∃ fd : FuncData, (∀ (s : Shared) (v : Value), BindsTo s fd ⟨[v], []⟩ [("script", v)]) ∧ ∀ {P : Program} (base : Heap), L2.FnOk P w _ mg base L2.CX0 5 fa fd ["script"] (P01.sp_law _) := by
      refine' P01.all_facts (w := w) KX G hmg ?aX_InvalidSize ?xX_InvalidSize ?kX_InvalidSize ?bX_InvalidSize ?tX_InvalidSize ?iX_InvalidSize ?sX_InvalidSize ?aX_InvalidFates ?xX_InvalidFates ?kX_InvalidFates ?bX_InvalidFates ?tX_InvalidFates ?iX_InvalidFates ?sX_InvalidFates ?aX_InvalidLooks ?xX_InvalidLooks ?kX_InvalidLooks ?bX_InvalidLooks ?tX_InvalidLooks ?iX_InvalidLooks ?sX_InvalidLooks ?sX_InvalidLooks_InvalidFates ?aC_Block ?aC_Chip ?a0 ?i0 ?l0 ?c0 ?k0 ?a1 ?i1 ?l1 ?c1 ?k1 ?a2 ?i2 ?l2 ?c2 ?k2 ?a3 ?i3 ?l3 ?c3 ?k3 ?a4 ?i4 ?l4 ?c4 ?k4 ?a5 ?l5 ?c5 ?k5 ?a6 ?l6 ?c6 ?k6 ?a7 ?l7 ?c7 ?k7 ?a8 ?l8 ?c8 ?k8 ?pg_Block ?hd_Block ?po_Block ?sa_Block ?mk_Block ?kc_Block ?n_Block_states ?n_Block_alive ?n_Block_erased ?pg_Chip ?hd_Chip ?po_Chip ?sa_Chip ?mk_Chip ?kc_Chip ?n_Chip_shape ?n_Chip_powered ?n_Chip_refused ?n_Chip_generation ?n_Chip__blocks ?n_Chip__fates ?n_Chip__looks ?z_range ?z_list ?z_len ?z_any ?z_int ?e_BLANK ?o_BLANK ?e_LEAST_PAGES ?e_MOST_PAGES ?e_LEAST_BLOCKS ?e_MOST_BLOCKS ?e_MOST_PLANNED ?e_ANSWERS ?o_ANSWERS ?g0_ANSWERS ?g1_ANSWERS ?g2_ANSWERS ?g3_ANSWERS ?r1_BLANK ?r2_BLANK ?r3_BLANK ?r_LEAST_PAGES ?r_MOST_PAGES ?r_LEAST_BLOCKS ?r_MOST_BLOCKS ?r_MOST_PLANNED ?r4_ANSWERS ?r1k_ANSWERS ?r2k_ANSWERS ?rv0_ANSWERS ?rv1_ANSWERS ?rv2_ANSWERS ?rv3_ANSWERS
      (case aX_InvalidSize => k_is); (case xX_InvalidSize => k_exc); (case kX_InvalidSize => k_is); (case bX_InvalidSize => k_is); (case tX_InvalidSize => k_is); (case iX_InvalidSize => k_is)
      (case sX_InvalidSize => first | rfl | k_is); (case aX_InvalidFates => k_is); (case xX_InvalidFates => k_exc); (case kX_InvalidFates => k_is); (case bX_InvalidFates => k_is); (case tX_InvalidFates => k_is)
      (case iX_InvalidFates => k_is); (case sX_InvalidFates => first | rfl | k_is); (case aX_InvalidLooks => k_is); (case xX_InvalidLooks => k_exc); (case kX_InvalidLooks => k_is); (case bX_InvalidLooks => k_is)
      (case tX_InvalidLooks => k_is); (case iX_InvalidLooks => k_is); (case sX_InvalidLooks => first | rfl | k_is); (case sX_InvalidLooks_InvalidFates => first | rfl | k_is); (case aC_Block => k_is); (case aC_Chip => k_is)
      (case a0 => k_is); (case i0 => k_is); (case l0 => k_is); (case c0 => k_is); (case k0 => k_is); (case a1 => k_is)
      (case i1 => k_is); (case l1 => k_is); (case c1 => k_is); (case k1 => k_is); (case a2 => k_is); (case i2 => k_is)
      (case l2 => k_is); (case c2 => k_is); (case k2 => k_is); (case a3 => k_is); (case i3 => k_is); (case l3 => k_is)
      (case c3 => k_is); (case k3 => k_is); (case a4 => k_is); (case i4 => k_is); (case l4 => k_is); (case c4 => k_is)
      (case k4 => k_is); (case a5 => k_is); (case l5 => k_is); (case c5 => k_is); (case k5 => k_is); (case a6 => k_is)
      (case l6 => k_is); (case c6 => k_is); (case k6 => k_is); (case a7 => k_is); (case l7 => k_is); (case c7 => k_is)
      (case k7 => k_is); (case a8 => k_is); (case l8 => k_is); (case c8 => k_is); (case k8 => k_is); (case pg_Block => k_is)
      (case hd_Block => k_is); (case po_Block => k_is); (case sa_Block => k_is); (case mk_Block => k_is); (case kc_Block => k_is); (case n_Block_states => k_is)
      (case n_Block_alive => k_is); (case n_Block_erased => k_is); (case pg_Chip => k_is); (case hd_Chip => k_is); (case po_Chip => k_is); (case sa_Chip => k_is)
      (case mk_Chip => k_is); (case kc_Chip => k_is); (case n_Chip_shape => k_is); (case n_Chip_powered => k_is); (case n_Chip_refused => k_is); (case n_Chip_generation => k_is)
      (case n_Chip__blocks => k_is); (case n_Chip__fates => k_is); (case n_Chip__looks => k_is); (case z_range => k_is); (case z_list => k_is); (case z_len => k_is)
      (case z_any => k_is); (case z_int => k_is); (case e_BLANK => k_is); (case o_BLANK => k_is); (case e_LEAST_PAGES => k_is); (case e_MOST_PAGES => k_is)
      (case e_LEAST_BLOCKS => k_is); (case e_MOST_BLOCKS => k_is); (case e_MOST_PLANNED => k_is); (case e_ANSWERS => k_is); (case o_ANSWERS => k_is); (case g0_ANSWERS => k_is)
      (case g1_ANSWERS => k_is); (case g2_ANSWERS => k_is); (case g3_ANSWERS => k_is); (case r1_BLANK => rfl); (case r2_BLANK => decide); (case r3_BLANK => repeat (first | exact .nil | refine .cons ⟨_, rfl⟩ ?_))
      (case r_LEAST_PAGES => exact ⟨_, rfl⟩); (case r_MOST_PAGES => exact ⟨_, rfl⟩); (case r_LEAST_BLOCKS => exact ⟨_, rfl⟩); (case r_MOST_BLOCKS => exact ⟨_, rfl⟩); (case r_MOST_PLANNED => exact ⟨_, rfl⟩); (case r4_ANSWERS => rfl)
      (case r1k_ANSWERS => repeat (first | exact trivial | refine ⟨⟨_, _, rfl, rfl⟩, ?_⟩)); (case r2k_ANSWERS => repeat (first | exact .nil | refine .cons ⟨⟨_, rfl⟩, ⟨_, rfl⟩⟩ ?_)); (case rv0_ANSWERS => exact ⟨_, rfl⟩); (case rv1_ANSWERS => exact ⟨_, rfl⟩); (case rv2_ANSWERS => exact ⟨_, rfl⟩); (case rv3_ANSWERS => exact ⟨_, rfl⟩)
    exact ⟨fd, h1, fun base _ _ => h2 base⟩
