import PyProof.Rows.All
import Wide.All
import OpenK.AllK
import Wide.FinOn
import HandS.ForMost
import HandS.Base
import HandS.Call
import HandS.List
import HandS.Comp
import HandS.Ends
import HandS.Dict
import HandS.Iter
import HandS.Text
import HandS.Words
import HandS.WordsList
import HandS.Codes
import HandS.Rev
import HandS.Conv
import HandS.TupAny
import HandS.SortInts
import HandS.Star
import HandS.TupLe
import HandS.ForExc
import HandS.TupMul
import HandS.FStr
import HandS.Small
import HandS.TryMany
import HandS.StrMore
import PySem.Challenge.RW_tidemark_k46_paths_and_targets
set_option Elab.async false
set_option linter.all false
set_option maxRecDepth 100000
/-! Tm: short steps over the readings, one lemma a reading; continuations by name. -/
namespace Tm
open PySem PySem.Spec PyProof.Rows L2
abbrev St := L2.St

/-! ### continuations by name -/
def kAsg (g : TG) (σ : St) (nx : St → Hp → Prop) : VK := fun x H => g x σ H nx
def kDrop (nx : St → Hp → Prop) (σ : St) : VK := fun _ H => nx σ H
def kIf (t u : TS) (D : Ends) (σ : St) : Bool → Hp → Prop := fun b H => if b = true then t D σ H else u D σ H
def kO2 (r : R2) (x : V) (Q : VK) : VK := fun y H => r x y H Q
def kO1 (r : R2) (tb : TE) (σ : St) (Q : VK) : VK := fun x H => tb σ H (kO2 r x Q)
def kU (r : V → Hp → VK → Prop) (Q : VK) : VK := fun x H => r x H Q
def kB (Q : Bool → Hp → Prop) : VK := fun x H => ∃ k, x = .bl k ∧ Q k H
def kAnd (u : TT) (σ : St) (Q : Bool → Hp → Prop) : Bool → Hp → Prop := fun c H => if c = true then u σ H Q else Q false H
def kOr (u : TT) (σ : St) (Q : Bool → Hp → Prop) : Bool → Hp → Prop := fun c H => if c = true then Q true H else u σ H Q
def kNot (Q : Bool → Hp → Prop) : Bool → Hp → Prop := fun c H => Q (!c) H
def kAndV (tb : TE) (σ : St) (Q : VK) : VK := fun x H => ∃ c, x = .bl c ∧ if c = true then tb σ H Q else Q (.bl false) H
def kOrV (tb : TE) (σ : St) (Q : VK) : VK := fun x H => ∃ c, x = .bl c ∧ if c = true then Q (.bl true) H else tb σ H Q
def kNotV (Q : VK) : VK := fun x H => ∃ c, x = .bl c ∧ Q (.bl (!c)) H
def kIfE (ta tb : TE) (σ : St) (Q : VK) : Bool → Hp → Prop := fun c H => if c = true then ta σ H Q else tb σ H Q
def kC3 (r' : R2) (y : V) (Q : VK) : VK := fun z H => r' y z H Q
def kC2' (r' : R2) (tc : TE) (σ : St) (y : V) (Q : VK) : VK := fun z H => ∃ k, z = .bl k ∧ (if k = true then tc σ H (kC3 r' y Q) else Q (.bl false) H)
def kC2 (r r' : R2) (tc : TE) (σ : St) (x : V) (Q : VK) : VK := fun y H => r x y H (kC2' r' tc σ y Q)
def kC1 (r r' : R2) (tb tc : TE) (σ : St) (Q : VK) : VK := fun x H => tb σ H (kC2 r r' tc σ x Q)
def kA2 (x : V) (Q : List V → Hp → Prop) : List V → Hp → Prop := fun xs H => Q (x :: xs) H
def kA1 (tr : TA) (σ : St) (Q : List V → Hp → Prop) : VK := fun x H => tr σ H (kA2 x Q)
def kTup (Q : VK) : List V → Hp → Prop := fun xs H => xs.length ≤ sizeLine ∧ ∀ p, H p = none → Q (.ref p) (upd H p (.tup xs))
def kLst (Q : VK) : List V → Hp → Prop := fun xs H => xs.length ≤ sizeLine ∧ ∀ p, H p = none → Q (.ref p) (upd H p (.lst xs))
def kCall (sp : Sp) (E : XK) (Q : VK) : List V → Hp → Prop := fun vs H => sp vs H Q E
def kM2 (sp : Sp) (x : V) (E : XK) (Q : VK) : List V → Hp → Prop := fun vs H => sp (x :: vs) H Q E
def kM1 (m : Str) (C : Addr) (sp : Sp) (E : XK) (t : TA) (σ : St) (Q : VK) : VK := fun x H => ∃ a dx fs, x = .ref a ∧ H a = some (.ins C dx fs) ∧ fs.lookup m = none ∧ t σ H (kM2 sp x E Q)
def kMk (C : Addr) (sp : Sp) (E : XK) (Q : VK) : List V → Hp → Prop := fun vs H => ∀ x dx, H x = none → H dx = none → dx ≠ x → sp (.ref x :: vs) (upd (upd H dx (.own x)) x (.ins C dx [])) (fun v H2 => v = .non ∧ Q (.ref x) H2) E
def kFld (K : PySem.W.Frag) (f : Str) (Q : VK) : VK := fun x H => ∃ a C dx fs v, x = .ref a ∧ H a = some (.ins C dx fs) ∧ Cls K C ∧ NoAttr K C f ∧ fs.lookup f = some v ∧ Q v H
def kSF2 (K : PySem.W.Frag) (f : Str) (y : V) (σ : St) (nx : St → Hp → Prop) : VK := fun x H => ∃ a C dx fs, x = .ref a ∧ H a = some (.ins C dx fs) ∧ Cls K C ∧ NoAttr K C f ∧ fs.length < 1000 ∧ nx σ (upd H a (.ins C dx (putF f y fs)))
def kSF1 (K : PySem.W.Frag) (ta : TE) (f : Str) (σ : St) (nx : St → Hp → Prop) : VK := fun y H => ta σ H (kSF2 K f y σ nx)
def kCB (r : List V → Hp → VK → Prop) (Q : VK) : List V → Hp → Prop := fun vs H => r vs H Q
def kBM2 (r : V → List V → Hp → VK → Prop) (x : V) (Q : VK) : List V → Hp → Prop := fun xs H => r x xs H Q
def kBM (K : PySem.W.Frag) (T : String) (r : V → List V → Hp → VK → Prop) (t : TA) (σ : St) (Q : VK) : VK := fun x H => tyV K T x H ∧ t σ H (kBM2 r x Q)
def kBM0 (K : PySem.W.Frag) (T : String) (r : V → List V → Hp → VK → Prop) (Q : VK) : VK := fun x H => tyV K T x H ∧ r x [] H Q
def kS3 (r : V → Option Int → Option Int → Hp → VK → Prop) (x : V) (l : Option Int) (Q : VK) : Option Int → Hp → Prop := fun u H => r x l u H Q
def kS2 (r : V → Option Int → Option Int → Hp → VK → Prop) (th : TO) (σ : St) (x : V) (Q : VK) : Option Int → Hp → Prop := fun l H => th σ H (kS3 r x l Q)
def kS1 (r : V → Option Int → Option Int → Hp → VK → Prop) (tl th : TO) (σ : St) (Q : VK) : VK := fun x H => tl σ H (kS2 r th σ x Q)
def kPart (Q : Option Int → Hp → Prop) : VK := fun x H => ∃ i, x = .int i ∧ Q (some i) H
def kAug2 (i : Nat) (σ : St) (nx : St → Hp → Prop) : VK := fun z H => nx (σ.set i (some z)) H
def kAug1 (i : Nat) (ti : TIp) (x : V) (σ : St) (nx : St → Hp → Prop) : VK := fun y H => ti x y H (kAug2 i σ nx)
def kIL (K : PySem.W.Frag) (R : It → Hp → Prop) : VK := fun x H => ∃ a, x = .ref a ∧ (∃ xs, SqL K H a xs) ∧ R (Itl K a) H
def kIT (K : PySem.W.Frag) (R : It → Hp → Prop) : VK := fun x H => ∃ a, x = .ref a ∧ (∃ xs, SqT K H a xs) ∧ R (Itt K a) H
def kIR1 (R : It → Hp → Prop) : List V → Hp → Prop := fun vs H => ∃ j : Int, vs = [.int j] ∧ -(2 ^ 62) ≤ j ∧ j < 2 ^ 62 ∧ R (Itr 0 j.toNat) H
def kIR2 (R : It → Hp → Prop) : List V → Hp → Prop := fun vs H => ∃ i j : Int, vs = [.int i, .int j] ∧ (-(2 ^ 62) ≤ i ∧ i < 2 ^ 62 ∧ -(2 ^ 62) ≤ j ∧ j < 2 ^ 62) ∧ R (Itr i (j - i).toNat) H
/-- what is left of a for: the walked thing is there -/
def kFor (g : TG) (tb : TS) (D : Ends) (σ : St) : It → Hp → Prop := fun J H1 => ∃ W : Nat → Nat → St → Hp → Prop, (∃ m, W 0 m σ H1) ∧ ∀ i m σ H, W i m σ H →
  (J.stop i H ∧ D.nx σ H) ∨ (J.go i H ∧ ∃ N : St → Hp → Prop, (∀ σ' H', N σ' H' → ∃ m', m' < m ∧ W (i + 1) m' σ' H') ∧ ∀ x H', J.yld i H x H' → g x σ H' fun σ2 H2 => tb { D with nx := N, ct := N, bk := D.nx } σ2 H2)
/-- a turn's body, behind its target -/
def kBody (tb : TS) (D : Ends) : St → Hp → Prop := fun σ H => tb D σ H
def kLc3 (D : Addr) (N : Hp → Prop) : VK := fun y H4 => ∃ acc, H4 D = some (.lst acc) ∧ acc.length < sizeLine ∧ N (upd H4 D (.lst (acc ++ [y])))
def kLc2 (te : TE) (σ : St) (D : Addr) (N : Hp → Prop) : Bool → Hp → Prop := fun b H3 => if b = true then te σ H3 (kLc3 D N) else N H3
def kLc1 (tt : TT) (te : TE) (vs : List Nat) (σ : St) (D : Addr) (N : Hp → Prop) : St → Hp → Prop := fun σ2 H2 => wipe σ2 vs = wipe σ vs ∧ tt σ2 H2 (kLc2 te σ2 D N)
def kLc (g : TG) (tt : TT) (te : TE) (vs : List Nat) (σ : St) (Q : VK) : It → Hp → Prop := fun J H1 => ∀ D, H1 D = none → ∃ W : Nat → Nat → Hp → Prop, (∃ m, W 0 m (upd H1 D (.lst []))) ∧ ∀ i m H, W i m H →
  (J.stop i H ∧ Q (.ref D) H) ∨ (J.go i H ∧ ∃ Nx : Hp → Prop, (∀ H', Nx H' → ∃ m', m' < m ∧ W (i + 1) m' H') ∧ ∀ x H', J.yld i H x H' → g x (wipe σ vs) H' (kLc1 tt te vs σ D Nx))

section steps
variable {σ σ' : St} {H : Hp} {Q : VK} {nx bk ct : St → Hp → Prop} {rt : VK} {K : PySem.W.Frag}
/-! ### statements -/
theorem i_st {t : TS} {D : Ends} (e : σ = σ') (h : t D σ' H) : t D σ H := by rw [e]; exact h
theorem i_seq {t u : TS} (h : t ⟨u ⟨nx, rt, bk, ct⟩, rt, bk, ct⟩ σ H) : tSeq t u ⟨nx, rt, bk, ct⟩ σ H := h
theorem i_next (h : nx σ H) : tNext ⟨nx, rt, bk, ct⟩ σ H := h
theorem i_brk (h : bk σ H) : tBreak ⟨nx, rt, bk, ct⟩ σ H := h
theorem i_cnt (h : ct σ H) : tCont ⟨nx, rt, bk, ct⟩ σ H := h
theorem i_drop {te : TE} (h : te σ H (kDrop nx σ)) : tDrop te ⟨nx, rt, bk, ct⟩ σ H := h
theorem i_kDrop {x : V} (h : nx σ H) : kDrop nx σ x H := h
theorem i_ret {te : TE} (h : te σ H rt) : tRet te ⟨nx, rt, bk, ct⟩ σ H := h
theorem i_retN (h : rt .non H) : tRetN ⟨nx, rt, bk, ct⟩ σ H := h
theorem i_ifS {c : TT} {t u : TS} {D : Ends} (h : c σ H (kIf t u D σ)) : tIfS c t u D σ H := h
theorem i_kIfT {t u : TS} {D : Ends} (h : t D σ H) : kIf t u D σ true H := h
theorem i_kIfF {t u : TS} {D : Ends} (h : u D σ H) : kIf t u D σ false H := by show if false = true then _ else _; rw [if_neg Bool.false_ne_true]; exact h
theorem i_kIf {t u : TS} {D : Ends} {b : Bool} (h1 : b = true → t D σ H) (h2 : b = false → u D σ H) : kIf t u D σ b H := by
  cases b with
  | true => exact h1 rfl
  | false => exact i_kIfF (h2 rfl)
theorem i_kIfd {t u : TS} {D : Ends} {p : Prop} [Decidable p] (h1 : p → t D σ H) (h2 : ¬ p → u D σ H) : kIf t u D σ (decide p) H := i_kIf (fun e => h1 (of_decide_eq_true e)) (fun e => h2 (of_decide_eq_false e))
theorem i_kIfn {t u : TS} {D : Ends} {b : Bool} (h : kIf u t D σ b H) : kIf t u D σ (!b) H := by
  cases b with
  | true => exact i_kIfF h
  | false => exact i_kIfT (by exact h)
theorem i_kIfdT {t u : TS} {D : Ends} {p : Prop} [Decidable p] (hp : p) (h : t D σ H) : kIf t u D σ (decide p) H := i_kIfd (fun _ => h) (fun n => absurd hp n)
theorem i_kIfdF {t u : TS} {D : Ends} {p : Prop} [Decidable p] (hp : ¬ p) (h : u D σ H) : kIf t u D σ (decide p) H := i_kIfd (fun n => absurd n hp) (fun _ => h)
theorem i_asg {te : TE} {g : TG} (h : te σ H (kAsg g σ nx)) : tAsg te g ⟨nx, rt, bk, ct⟩ σ H := h
theorem i_kAsg {g : TG} {x : V} (h : g x σ H nx) : kAsg g σ nx x H := h
theorem i_gName {i : Nat} {v : V} (e : σ.set i (some v) = σ') (h : nx σ' H) : gName i v σ H nx := by show nx (σ.set i (some v)) H; rw [e]; exact h
theorem i_gNameW {i j : Nat} {v : V} {σ1 σ2 : St} {vs : List Nat} (hv : vs = [j]) (e1 : σ.set j none = σ1) (e2 : σ1.set i (some v) = σ2) (h : nx σ2 H) : gName i v (wipe σ vs) H nx := by
  subst hv
  show nx ((wipe σ [j]).set i (some v)) H
  have e : wipe σ [j] = σ.set j none := rfl
  rw [e, e1, e2]; exact h
theorem i_gTup {n : Nat} {t : TGs} {a : Addr} {xs : List V} (s : SqT K H a xs) (l : xs.length = n) (h : t xs σ H nx) : gTup K n t (.ref a) σ H nx := ⟨a, xs, rfl, s, l, h⟩
theorem i_gCons {t : TG} {u : TGs} {v : V} {r : List V} (h : t v σ H fun σ' H' => u r σ' H' nx) : gCons t u (v :: r) σ H nx := ⟨v, r, rfl, h⟩
theorem i_gNil (h : nx σ H) : gNil [] σ H nx := ⟨rfl, h⟩
theorem i_aug {i : Nat} {te : TE} {ti : TIp} {x : V} (e : σ[i]? = some (some x)) (h : te σ H (kAug1 i ti x σ nx)) : tAug i te ti ⟨nx, rt, bk, ct⟩ σ H := ⟨x, e, h⟩
theorem i_kAug1 {i : Nat} {ti : TIp} {x y : V} (h : ti x y H (kAug2 i σ nx)) : kAug1 i ti x σ nx y H := h
theorem i_kAug2 {i : Nat} {z : V} (e : σ.set i (some z) = σ') (h : nx σ' H) : kAug2 i σ nx z H := by show nx (σ.set i (some z)) H; rw [e]; exact h
theorem i_ipI {f : Int → Int → Int} {i j : Int} (h : Q (.int (f i j)) H) : ipI f (.int i) (.int j) H Q := ⟨i, j, rfl, rfl, h⟩
theorem i_sFld {ta tv : TE} {f : Str} (h : tv σ H (kSF1 K ta f σ nx)) : sFld K ta tv f ⟨nx, rt, bk, ct⟩ σ H := h
theorem i_kSF1 {ta : TE} {f : Str} {y : V} (h : ta σ H (kSF2 K f y σ nx)) : kSF1 K ta f σ nx y H := h
theorem i_kSF2 {f : Str} {y : V} {a C dx : Addr} {fs : List (Str × V)} (hp : H a = some (.ins C dx fs)) (c : Cls K C) (n : NoAttr K C f) (l : fs.length < 1000) (h : nx σ (upd H a (.ins C dx (putF f y fs)))) : kSF2 K f y σ nx (.ref a) H := ⟨a, C, dx, fs, rfl, hp, c, n, l, h⟩
theorem i_cut {t u : TS} (M : St → Hp → Prop) (h1 : t ⟨M, rt, bk, ct⟩ σ H) (h2 : ∀ σ' H', M σ' H' → u ⟨nx, rt, bk, ct⟩ σ' H') : C8.tCut t u ⟨nx, rt, bk, ct⟩ σ H := ⟨M, h1, h2⟩
/-! ### expressions -/
theorem i_var {i : Nat} {v : V} (e : σ[i]? = some (some v)) (h : Q v H) : tVar i σ H Q := ⟨v, e, h⟩
theorem i_c {v : V} (h : Q v H) : tC v σ H Q := h
theorem i_op {r : R2} {ta tb : TE} (h : ta σ H (kO1 r tb σ Q)) : tOp r ta tb σ H Q := h
theorem i_kO1 {r : R2} {tb : TE} {x : V} (h : tb σ H (kO2 r x Q)) : kO1 r tb σ Q x H := h
theorem i_kO2 {r : R2} {x y : V} (h : r x y H Q) : kO2 r x Q y H := h
theorem i_un {r : V → Hp → VK → Prop} {ta : TE} (h : ta σ H (kU r Q)) : tUn r ta σ H Q := h
theorem i_kU {r : V → Hp → VK → Prop} {x : V} (h : r x H Q) : kU r Q x H := h
theorem i_rI {C : Int → Int → Prop} {g : Int → Int → V} {i j : Int} (c : C i j) (h : Q (g i j) H) : rI C g (.int i) (.int j) H Q := ⟨i, j, rfl, rfl, c, h⟩
theorem i_rI0 {g : Int → Int → V} {i j : Int} (h : Q (g i j) H) : rI0 g (.int i) (.int j) H Q := ⟨i, j, rfl, rfl, h⟩
theorem i_rU {g : Int → V} {i : Int} (h : Q (g i) H) : rU g (.int i) H Q := ⟨i, rfl, h⟩
theorem i_rEqI {i j : Int} (h : Q (.bl (decide (i = j))) H) : rEq (.int i) (.int j) H Q := ⟨rfl, by
  have e : decide (V.int i = V.int j) = decide (i = j) := by by_cases z : i = j <;> simp [z]
  rw [e]; exact h⟩
theorem i_rNeI {i j : Int} (h : Q (.bl (!decide (i = j))) H) : rNe (.int i) (.int j) H Q := ⟨rfl, by
  have e : decide (V.int i = V.int j) = decide (i = j) := by by_cases z : i = j <;> simp [z]
  rw [e]; exact h⟩
theorem i_rEqS {i j : Str} (h : Q (.bl (decide (i = j))) H) : rEq (.str i) (.str j) H Q := ⟨rfl, by
  have e : decide (V.str i = V.str j) = decide (i = j) := by by_cases z : i = j <;> simp [z]
  rw [e]; exact h⟩
theorem i_rNeS {i j : Str} (h : Q (.bl (!decide (i = j))) H) : rNe (.str i) (.str j) H Q := ⟨rfl, by
  have e : decide (V.str i = V.str j) = decide (i = j) := by by_cases z : i = j <;> simp [z]
  rw [e]; exact h⟩
theorem i_rEqB {i j : Bool} (h : Q (.bl (decide (i = j))) H) : rEq (.bl i) (.bl j) H Q := ⟨rfl, by
  have e : decide (V.bl i = V.bl j) = decide (i = j) := by by_cases z : i = j <;> simp [z]
  rw [e]; exact h⟩
theorem i_rNeB {i j : Bool} (h : Q (.bl (!decide (i = j))) H) : rNe (.bl i) (.bl j) H Q := ⟨rfl, by
  have e : decide (V.bl i = V.bl j) = decide (i = j) := by by_cases z : i = j <;> simp [z]
  rw [e]; exact h⟩
theorem i_test {t : TE} {Q : Bool → Hp → Prop} (h : t σ H (kB Q)) : tTest t σ H Q := h
theorem i_tB {t : TE} {Q : Bool → Hp → Prop} (h : t σ H (kB Q)) : tB t σ H Q := h
theorem i_kB {b : Bool} {Q : Bool → Hp → Prop} (h : Q b H) : kB Q (.bl b) H := ⟨b, rfl, h⟩
theorem i_and {t u : TT} {Q : Bool → Hp → Prop} (h : t σ H (kAnd u σ Q)) : tAnd t u σ H Q := h
theorem i_or {t u : TT} {Q : Bool → Hp → Prop} (h : t σ H (kOr u σ Q)) : tOr t u σ H Q := h
theorem i_not {t : TT} {Q : Bool → Hp → Prop} (h : t σ H (kNot Q)) : tNot t σ H Q := h
theorem i_kNot {c : Bool} {Q : Bool → Hp → Prop} (h : Q (!c) H) : kNot Q c H := h
theorem i_kAndT {u : TT} {Q : Bool → Hp → Prop} (h : u σ H Q) : kAnd u σ Q true H := h
theorem i_kAndF {u : TT} {Q : Bool → Hp → Prop} (h : Q false H) : kAnd u σ Q false H := by show if false = true then _ else _; rw [if_neg Bool.false_ne_true]; exact h
theorem i_kOrT {u : TT} {Q : Bool → Hp → Prop} (h : Q true H) : kOr u σ Q true H := h
theorem i_kOrF {u : TT} {Q : Bool → Hp → Prop} (h : u σ H Q) : kOr u σ Q false H := by show if false = true then _ else _; rw [if_neg Bool.false_ne_true]; exact h
theorem i_kAnd {u : TT} {Q : Bool → Hp → Prop} {b : Bool} (h1 : b = true → u σ H Q) (h2 : b = false → Q false H) : kAnd u σ Q b H := by
  cases b with
  | true => exact h1 rfl
  | false => exact i_kAndF (h2 rfl)
theorem i_kOr {u : TT} {Q : Bool → Hp → Prop} {b : Bool} (h1 : b = true → Q true H) (h2 : b = false → u σ H Q) : kOr u σ Q b H := by
  cases b with
  | true => exact h1 rfl
  | false => exact i_kOrF (h2 rfl)
theorem i_andV {ta tb : TE} (h : ta σ H (kAndV tb σ Q)) : tAndV ta tb σ H Q := h
theorem i_orV {ta tb : TE} (h : ta σ H (kOrV tb σ Q)) : tOrV ta tb σ H Q := h
theorem i_notV {ta : TE} (h : ta σ H (kNotV Q)) : tNotV ta σ H Q := h
theorem i_kNotV {c : Bool} (h : Q (.bl (!c)) H) : kNotV Q (.bl c) H := ⟨c, rfl, h⟩
theorem i_kAndV {tb : TE} {b : Bool} (h1 : b = true → tb σ H Q) (h2 : b = false → Q (.bl false) H) : kAndV tb σ Q (.bl b) H := ⟨b, rfl, by
  cases b with
  | true => exact h1 rfl
  | false => rw [if_neg Bool.false_ne_true]; exact h2 rfl⟩
theorem i_kOrV {tb : TE} {b : Bool} (h1 : b = true → Q (.bl true) H) (h2 : b = false → tb σ H Q) : kOrV tb σ Q (.bl b) H := ⟨b, rfl, by
  cases b with
  | true => exact h1 rfl
  | false => rw [if_neg Bool.false_ne_true]; exact h2 rfl⟩
theorem i_ifE {t : TT} {ta tb : TE} (h : t σ H (kIfE ta tb σ Q)) : tIf t ta tb σ H Q := h
theorem i_kIfET {ta tb : TE} (h : ta σ H Q) : kIfE ta tb σ Q true H := h
theorem i_kIfEF {ta tb : TE} (h : tb σ H Q) : kIfE ta tb σ Q false H := by show if false = true then _ else _; rw [if_neg Bool.false_ne_true]; exact h
theorem i_kIfE {ta tb : TE} {b : Bool} (h1 : b = true → ta σ H Q) (h2 : b = false → tb σ H Q) : kIfE ta tb σ Q b H := by
  cases b with
  | true => exact h1 rfl
  | false => exact i_kIfEF (h2 rfl)
theorem i_kIfEd {ta tb : TE} {p : Prop} [Decidable p] (h1 : p → ta σ H Q) (h2 : ¬ p → tb σ H Q) : kIfE ta tb σ Q (decide p) H := i_kIfE (fun e => h1 (of_decide_eq_true e)) (fun e => h2 (of_decide_eq_false e))
theorem i_kIfEdT {ta tb : TE} {p : Prop} [Decidable p] (hp : p) (h : ta σ H Q) : kIfE ta tb σ Q (decide p) H := i_kIfEd (fun _ => h) (fun n => absurd hp n)
theorem i_kIfEdF {ta tb : TE} {p : Prop} [Decidable p] (hp : ¬ p) (h : tb σ H Q) : kIfE ta tb σ Q (decide p) H := i_kIfEd (fun n => absurd n hp) (fun _ => h)
theorem i_chain {r r' : R2} {ta tb tc : TE} (h : ta σ H (kC1 r r' tb tc σ Q)) : tChain r r' ta tb tc σ H Q := h
theorem i_kC1 {r r' : R2} {tb tc : TE} {x : V} (h : tb σ H (kC2 r r' tc σ x Q)) : kC1 r r' tb tc σ Q x H := h
theorem i_kC2 {r r' : R2} {tc : TE} {x y : V} (h : r x y H (kC2' r' tc σ y Q)) : kC2 r r' tc σ x Q y H := h
theorem i_kC2' {r' : R2} {tc : TE} {y : V} {b : Bool} (h1 : b = true → tc σ H (kC3 r' y Q)) (h2 : b = false → Q (.bl false) H) : kC2' r' tc σ y Q (.bl b) H := ⟨b, rfl, by
  cases b with
  | true => exact h1 rfl
  | false => rw [if_neg Bool.false_ne_true]; exact h2 rfl⟩
theorem i_kC3 {r' : R2} {y z : V} (h : r' y z H Q) : kC3 r' y Q z H := h
theorem i_nil {Q : List V → Hp → Prop} (h : Q [] H) : tNil σ H Q := h
theorem i_cons {ta : TE} {tr : TA} {Q : List V → Hp → Prop} (h : ta σ H (kA1 tr σ Q)) : tCons ta tr σ H Q := h
theorem i_kA1 {tr : TA} {Q : List V → Hp → Prop} {x : V} (h : tr σ H (kA2 x Q)) : kA1 tr σ Q x H := h
theorem i_kA2 {Q : List V → Hp → Prop} {x : V} {xs : List V} (h : Q (x :: xs) H) : kA2 x Q xs H := h
theorem i_tup {t : TA} (h : t σ H (kTup Q)) : tTup t σ H Q := h
theorem i_lst {t : TA} (h : t σ H (kLst Q)) : tLst t σ H Q := h
theorem i_kTup {xs : List V} (l : xs.length ≤ sizeLine) (h : ∀ p, H p = none → Q (.ref p) (upd H p (.tup xs))) : kTup Q xs H := ⟨l, h⟩
theorem i_kLst {xs : List V} (l : xs.length ≤ sizeLine) (h : ∀ p, H p = none → Q (.ref p) (upd H p (.lst xs))) : kLst Q xs H := ⟨l, h⟩
theorem i_call {sp : Sp} {E : XK} {t : TA} (h : t σ H (kCall sp E Q)) : tCall sp [] E t σ H Q := by
  show t σ H fun vs H1 => sp (vs ++ []) H1 Q E
  have e : (fun vs H1 => sp (vs ++ []) H1 Q E) = kCall sp E Q := by funext vs H1; rw [List.append_nil]; rfl
  rw [e]; exact h
theorem i_kCall {sp : Sp} {E : XK} {vs : List V} (h : sp vs H Q E) : kCall sp E Q vs H := h
theorem i_meth {C : Addr} {m : Str} {sp : Sp} {E : XK} {ta : TE} {t : TA} (h : ta σ H (kM1 m C sp E t σ Q)) : tMeth C m sp [] E ta t σ H Q := by
  have e : (kM1 m C sp E t σ Q) = (fun x H1 => ∃ a dx fs, x = .ref a ∧ H1 a = some (.ins C dx fs) ∧ fs.lookup m = none ∧ t σ H1 fun vs H2 => sp (x :: (vs ++ [])) H2 Q E) := by
    funext x H1; unfold kM1 kM2; simp only [List.append_nil]
  show ta σ H _
  rw [← e]; exact h
theorem i_kM1 {C : Addr} {m : Str} {sp : Sp} {E : XK} {t : TA} {a dx : Addr} {fs : List (Str × V)} (hp : H a = some (.ins C dx fs)) (l : fs.lookup m = none) (h : t σ H (kM2 sp (.ref a) E Q)) : kM1 m C sp E t σ Q (.ref a) H := ⟨a, dx, fs, rfl, hp, l, h⟩
theorem i_kM2 {sp : Sp} {E : XK} {x : V} {vs : List V} (h : sp (x :: vs) H Q E) : kM2 sp x E Q vs H := h
theorem i_make {C : Addr} {sp : Sp} {E : XK} {t : TA} (h : t σ H (kMk C sp E Q)) : tMake C sp [] E t σ H Q := by
  have e : (kMk C sp E Q) = (fun vs H1 => ∀ x dx, H1 x = none → H1 dx = none → dx ≠ x → sp (.ref x :: (vs ++ [])) (upd (upd H1 dx (.own x)) x (.ins C dx [])) (fun v H2 => v = .non ∧ Q (.ref x) H2) E) := by
    funext vs H1; unfold kMk; simp only [List.append_nil]
  show t σ H _
  rw [← e]; exact h
theorem i_fld {ta : TE} {f : Str} (h : ta σ H (kFld K f Q)) : tFld K ta f σ H Q := h
theorem i_kFld {f : Str} {a C dx : Addr} {fs : List (Str × V)} {v : V} (hp : H a = some (.ins C dx fs)) (c : Cls K C) (n : NoAttr K C f) (l : fs.lookup f = some v) (h : Q v H) : kFld K f Q (.ref a) H := ⟨a, C, dx, fs, v, rfl, hp, c, n, l, h⟩
theorem i_cb {r : List V → Hp → VK → Prop} {t : TA} (h : t σ H (kCB r Q)) : tCB r t σ H Q := h
theorem i_kCB {r : List V → Hp → VK → Prop} {vs : List V} (h : r vs H Q) : kCB r Q vs H := h
theorem i_bm {T : String} {r : V → List V → Hp → VK → Prop} {to : TE} {t : TA} (h : to σ H (kBM K T r t σ Q)) : tBM K T r to t σ H Q := h
theorem i_bm0 {T : String} {r : V → List V → Hp → VK → Prop} {to : TE} (h : to σ H (kBM0 K T r Q)) : tBM0 K T r to σ H Q := h
theorem i_kBMl {r : V → List V → Hp → VK → Prop} {t : TA} {l : Addr} {xs : List V} (s : SqL K H l xs) (h : t σ H (kBM2 r (.ref l) Q)) : kBM K "list" r t σ Q (.ref l) H := ⟨.inl ⟨rfl, _, s⟩, h⟩
theorem i_kBM0l {r : V → List V → Hp → VK → Prop} {l : Addr} {xs : List V} (s : SqL K H l xs) (h : r (.ref l) [] H Q) : kBM0 K "list" r Q (.ref l) H := ⟨.inl ⟨rfl, _, s⟩, h⟩
theorem i_kBM2 {r : V → List V → Hp → VK → Prop} {x : V} {xs : List V} (h : r x xs H Q) : kBM2 r x Q xs H := h
theorem i_append {l : Addr} {xs : List V} {y : V} (hl : H l = some (.lst xs)) (z : xs.length < sizeLine) (h : Q .non (upd H l (.lst (xs ++ [y])))) : rAppend (.ref l) [y] H Q := ⟨l, xs, y, rfl, rfl, hl, z, h⟩
theorem i_extend {l b : Addr} {xs zs : List V} (hl : H l = some (.lst xs)) (hb : H b = some (.lst zs)) (z : xs.length + zs.length ≤ sizeLine) (h : Q .non (upd H l (.lst (xs ++ zs)))) : rExtend (.ref l) [.ref b] H Q := ⟨l, b, xs, zs, rfl, rfl, hl, hb, z, h⟩
theorem i_cat {l b : Addr} {xs zs : List V} (hl : H l = some (.lst xs)) (hb : H b = some (.lst zs)) (z : xs.length + zs.length ≤ sizeLine) (h : ∀ p, H p = none → Q (.ref p) (upd H p (.lst (xs ++ zs)))) : rCat (.ref l) (.ref b) H Q := ⟨l, b, xs, zs, rfl, rfl, hl, hb, z, h⟩
theorem i_rep {l : Addr} {xs : List V} {k : Int} (hl : H l = some (.lst xs)) (k1 : -(2 ^ 63) ≤ k) (k2 : k < 2 ^ 63) (z : xs.length * k.toNat ≤ sizeLine) (h : ∀ p, H p = none → Q (.ref p) (upd H p (.lst (List.replicate k.toNat xs).flatten))) : rRep (.ref l) (.int k) H Q := ⟨l, k, xs, rfl, rfl, hl, k1, k2, z, h⟩
theorem i_ixL {p : Addr} {xs : List V} {i : Int} {v : V} (s : SqL K H p xs) (e : atI xs i = some v) (h : Q v H) : rIxL K (.ref p) (.int i) H Q := ⟨p, xs, i, v, rfl, rfl, s, e, h⟩
theorem i_ixT {p : Addr} {xs : List V} {i : Int} {v : V} (s : SqT K H p xs) (e : atI xs i = some v) (h : Q v H) : rIxT K (.ref p) (.int i) H Q := ⟨p, xs, i, v, rfl, rfl, s, e, h⟩
theorem i_sl {r : V → Option Int → Option Int → Hp → VK → Prop} {te : TE} {tl th : TO} (h : te σ H (kS1 r tl th σ Q)) : tSl r te tl th σ H Q := h
theorem i_kS1 {r : V → Option Int → Option Int → Hp → VK → Prop} {tl th : TO} {x : V} (h : tl σ H (kS2 r th σ x Q)) : kS1 r tl th σ Q x H := h
theorem i_kS2 {r : V → Option Int → Option Int → Hp → VK → Prop} {th : TO} {x : V} {l : Option Int} (h : th σ H (kS3 r x l Q)) : kS2 r th σ x Q l H := h
theorem i_kS3 {r : V → Option Int → Option Int → Hp → VK → Prop} {x : V} {l u : Option Int} (h : r x l u H Q) : kS3 r x l Q u H := h
theorem i_noPart {Q : Option Int → Hp → Prop} (h : Q none H) : tNoPart σ H Q := h
theorem i_part {t : TE} {Q : Option Int → Hp → Prop} (h : t σ H (kPart Q)) : tPart t σ H Q := h
theorem i_kPart {Q : Option Int → Hp → Prop} {i : Int} (h : Q (some i) H) : kPart Q (.int i) H := ⟨i, rfl, h⟩
theorem i_slL {a : Addr} {xs : List V} {lo hi : Option Int} (s : SqL K H a xs) (h : ∀ p, H p = none → Q (.ref p) (upd H p (.lst (cutV xs lo hi)))) : rSlL K (.ref a) lo hi H Q := ⟨a, xs, rfl, s, h⟩
/-! ### what is walked -/
theorem i_for {wi : TI} {g : TG} {tb : TS} {D : Ends} (h : wi σ H (kFor g tb D σ)) : tFor wi g tb D σ H := h
theorem i_lc {wi : TI} {g : TG} {tt : TT} {te : TE} {vs : List Nat} (h : wi σ H (kLc g tt te vs σ Q)) : tLc wi g tt te vs σ H Q := h
theorem i_iList {tl : TE} {R : It → Hp → Prop} (h : tl σ H (kIL K R)) : iList K tl σ H R := h
theorem i_iTup {tl : TE} {R : It → Hp → Prop} (h : tl σ H (kIT K R)) : iTup K tl σ H R := h
theorem i_iRng1 {ta : TA} {R : It → Hp → Prop} (h : ta σ H (kIR1 R)) : iRng1 ta σ H R := h
theorem i_iRng2 {ta : TA} {R : It → Hp → Prop} (h : ta σ H (kIR2 R)) : iRng2 ta σ H R := h
theorem i_kIL {R : It → Hp → Prop} {a : Addr} {xs : List V} (s : SqL K H a xs) (h : R (Itl K a) H) : kIL K R (.ref a) H := ⟨a, rfl, ⟨xs, s⟩, h⟩
theorem i_kIT {R : It → Hp → Prop} {a : Addr} {xs : List V} (s : SqT K H a xs) (h : R (Itt K a) H) : kIT K R (.ref a) H := ⟨a, rfl, ⟨xs, s⟩, h⟩
theorem i_kIR1 {R : It → Hp → Prop} {j : Int} (a : -(2 ^ 62) ≤ j) (b : j < 2 ^ 62) (h : R (Itr 0 j.toNat) H) : kIR1 R [.int j] H := ⟨j, rfl, a, b, h⟩
theorem i_kIR2 {R : It → Hp → Prop} {i j : Int} (a : -(2 ^ 62) ≤ i) (b : i < 2 ^ 62) (c : -(2 ^ 62) ≤ j) (d : j < 2 ^ 62) (h : R (Itr i (j - i).toNat) H) : kIR2 R [.int i, .int j] H := ⟨i, j, rfl, ⟨a, b, c, d⟩, h⟩
/-- for over a list that stands still -/
theorem i_forL {a : Addr} {g : TG} {tb : TS} (xs : List V) (Pv : Nat → St → Hp → Prop) (h0 : Pv 0 σ H) (hl : ∀ i σ H, i ≤ xs.length → Pv i σ H → SqL K H a xs)
    (hs : ∀ i x σ H, xs[i]? = some x → Pv i σ H → g x σ H (kBody tb ⟨Pv (i + 1), rt, nx, Pv (i + 1)⟩)) (hd : ∀ σ H, Pv xs.length σ H → nx σ H) : kFor g tb ⟨nx, rt, bk, ct⟩ σ (Itl K a) H :=
  for_list (D := ⟨nx, rt, bk, ct⟩) Pv h0 hl hs hd
theorem i_forT {a : Addr} {g : TG} {tb : TS} (xs : List V) (Pv : Nat → St → Hp → Prop) (h0 : Pv 0 σ H) (hl : ∀ i σ H, i ≤ xs.length → Pv i σ H → SqT K H a xs)
    (hs : ∀ i x σ H, xs[i]? = some x → Pv i σ H → g x σ H (kBody tb ⟨Pv (i + 1), rt, nx, Pv (i + 1)⟩)) (hd : ∀ σ H, Pv xs.length σ H → nx σ H) : kFor g tb ⟨nx, rt, bk, ct⟩ σ (Itt K a) H :=
  for_tup (D := ⟨nx, rt, bk, ct⟩) Pv h0 hl hs hd
theorem i_forR {lo : Int} {n : Nat} {g : TG} {tb : TS} (Pv : Nat → St → Hp → Prop) (h0 : Pv 0 σ H)
    (hs : ∀ i σ H, i < n → Pv i σ H → g (.int (lo + i)) σ H (kBody tb ⟨Pv (i + 1), rt, nx, Pv (i + 1)⟩)) (hd : ∀ σ H, Pv n σ H → nx σ H) : kFor g tb ⟨nx, rt, bk, ct⟩ σ (Itr lo n) H :=
  for_range (D := ⟨nx, rt, bk, ct⟩) Pv h0 hs hd
theorem i_forR0 {n : Nat} {g : TG} {tb : TS} (Pv : Nat → St → Hp → Prop) (h0 : Pv 0 σ H)
    (hs : ∀ (i : Nat) σ H, i < n → Pv i σ H → g (.int (i : Int)) σ H (kBody tb ⟨Pv (i + 1), rt, nx, Pv (i + 1)⟩)) (hd : ∀ σ H, Pv n σ H → nx σ H) : kFor g tb ⟨nx, rt, bk, ct⟩ σ (Itr 0 n) H :=
  i_forR Pv h0 (fun i σ H hi p => by rw [Int.zero_add]; exact hs i σ H hi p) hd
theorem i_body {tb : TS} {D : Ends} (h : tb D σ H) : kBody tb D σ H := h
theorem i_lcR {lo : Int} {n : Nat} {g : TG} {tt : TT} {te : TE} {vs : List Nat} (Pv : Addr → Nat → Hp → Prop) (h0 : ∀ D, H D = none → Pv D 0 (upd H D (.lst [])))
    (hs : ∀ D i H1, H D = none → i < n → Pv D i H1 → g (.int (lo + i)) (wipe σ vs) H1 (kLc1 tt te vs σ D (Pv D (i + 1)))) (hd : ∀ D H1, H D = none → Pv D n H1 → Q (.ref D) H1) : kLc g tt te vs σ Q (Itr lo n) H :=
  fun D hD => lc_range (Qd := Q (.ref D)) (Pv D) (h0 D hD) (fun i H1 hi p => hs D i H1 hD hi p) (fun H1 p => hd D H1 hD p)
theorem i_lcR0 {n : Nat} {g : TG} {tt : TT} {te : TE} {vs : List Nat} (Pv : Addr → Nat → Hp → Prop) (h0 : ∀ D, H D = none → Pv D 0 (upd H D (.lst [])))
    (hs : ∀ D (i : Nat) H1, H D = none → i < n → Pv D i H1 → g (.int (i : Int)) (wipe σ vs) H1 (kLc1 tt te vs σ D (Pv D (i + 1)))) (hd : ∀ D H1, H D = none → Pv D n H1 → Q (.ref D) H1) : kLc g tt te vs σ Q (Itr 0 n) H :=
  i_lcR Pv h0 (fun D i H1 hD hi p => by rw [Int.zero_add]; exact hs D i H1 hD hi p) hd
theorem i_lcL {a : Addr} {g : TG} {tt : TT} {te : TE} {vs : List Nat} (xs : List V) (Pv : Addr → Nat → Hp → Prop) (h0 : ∀ D, H D = none → Pv D 0 (upd H D (.lst []))) (hl : ∀ D i H1, H D = none → i ≤ xs.length → Pv D i H1 → SqL K H1 a xs)
    (hs : ∀ D i x H1, H D = none → xs[i]? = some x → Pv D i H1 → g x (wipe σ vs) H1 (kLc1 tt te vs σ D (Pv D (i + 1)))) (hd : ∀ D H1, H D = none → Pv D xs.length H1 → Q (.ref D) H1) : kLc g tt te vs σ Q (Itl K a) H :=
  fun D hD => lc_list (Qd := Q (.ref D)) (Pv D) (h0 D hD) (fun i H1 hi p => hl D i H1 hD hi p) (fun i x H1 hi p => hs D i x H1 hD hi p) (fun H1 p => hd D H1 hD p)
theorem i_lcT {a : Addr} {g : TG} {tt : TT} {te : TE} {vs : List Nat} (xs : List V) (Pv : Addr → Nat → Hp → Prop) (h0 : ∀ D, H D = none → Pv D 0 (upd H D (.lst []))) (hl : ∀ D i H1, H D = none → i ≤ xs.length → Pv D i H1 → SqT K H1 a xs)
    (hs : ∀ D i x H1, H D = none → xs[i]? = some x → Pv D i H1 → g x (wipe σ vs) H1 (kLc1 tt te vs σ D (Pv D (i + 1)))) (hd : ∀ D H1, H D = none → Pv D xs.length H1 → Q (.ref D) H1) : kLc g tt te vs σ Q (Itt K a) H :=
  fun D hD => lc_tup (Qd := Q (.ref D)) (Pv D) (h0 D hD) (fun i H1 hi p => hl D i H1 hD hi p) (fun i x H1 hi p => hs D i x H1 hD hi p) (fun H1 p => hd D H1 hD p)
theorem i_kLc1 {tt : TT} {te : TE} {vs : List Nat} {σ2 : St} {D : Addr} {N : Hp → Prop} (e : wipe σ2 vs = wipe σ vs) (h : tt σ2 H (kLc2 te σ2 D N)) : kLc1 tt te vs σ D N σ2 H := ⟨e, h⟩
theorem i_yes {Q : Bool → Hp → Prop} (h : Q true H) : tYes σ H Q := h
theorem i_kLc2T {te : TE} {D : Addr} {N : Hp → Prop} (h : te σ H (kLc3 D N)) : kLc2 te σ D N true H := h
theorem i_kLc2F {te : TE} {D : Addr} {N : Hp → Prop} (h : N H) : kLc2 te σ D N false H := by show if false = true then _ else _; rw [if_neg Bool.false_ne_true]; exact h
theorem i_kLc3 {D : Addr} {N : Hp → Prop} {acc : List V} {y : V} (e : H D = some (.lst acc)) (z : acc.length < sizeLine) (h : N (upd H D (.lst (acc ++ [y])))) : kLc3 D N y H := ⟨acc, e, z, h⟩
end steps

/-! ### readings by name, of rules whose own are raw -/
def rLen (K : PySem.W.Frag) : List V → Hp → VK → Prop := fun xs H Q => ∃ p ys, xs = [.ref p] ∧ (SqL K H p ys ∨ SqT K H p ys) ∧ Q (.int ys.length) H
def rLenS : List V → Hp → VK → Prop := fun xs H Q => ∃ z, xs = [.str z] ∧ z.length ≤ sizeLine ∧ Q (.int z.length) H
def rInt : List V → Hp → VK → Prop := fun xs H Q => (∃ i, xs = [.int i] ∧ Q (.int i) H) ∨ ∃ k, xs = [.bl k] ∧ Q (.int (if k then 1 else 0)) H
def rListOf (K : PySem.W.Frag) : List V → Hp → VK → Prop := fun xs H Q => ∃ p ys, xs = [.ref p] ∧ (SqL K H p ys ∨ SqT K H p ys) ∧ ∀ l, H l = none → Q (.ref l) (upd H l (.lst ys))
def rTupOf (K : PySem.W.Frag) : List V → Hp → VK → Prop := fun xs H Q => ∃ p ys, xs = [.ref p] ∧ ((SqL K H p ys ∧ ∀ l, H l = none → Q (.ref l) (upd H l (.tup ys))) ∨ (SqT K H p ys ∧ Q (.ref p) H))
def rIsN : R2 := fun x y H Q => y = .non ∧ Q (.bl (decide (x = .non))) H
def rNotN : R2 := fun x y H Q => y = .non ∧ Q (.bl (!decide (x = .non))) H
section
variable {X : Cx}
theorem c_len : CallR X (.builtin "len") (rLen X.K) := call_len_seq
theorem c_lenS : CallR X (.builtin "len") rLenS := call_len_str
theorem c_int : CallR X (.type "int") rInt := call_int1
theorem c_list : CallR X (.type "list") (rListOf X.K) := call_list_of
theorem c_tuple : CallR X (.type "tuple") (rTupOf X.K) := call_tuple_of
theorem o_isN : OpR X (compareOp .Is) rIsN := op_isN
theorem o_notN : OpR X (compareOp .IsNot) rNotN := op_notN
end
section
variable {σ : St} {H : Hp} {Q : VK} {K : PySem.W.Frag}
theorem i_lenL {p : Addr} {ys : List V} (s : SqL K H p ys) (h : Q (.int ys.length) H) : rLen K [.ref p] H Q := ⟨p, ys, rfl, .inl s, h⟩
theorem i_lenT {p : Addr} {ys : List V} (s : SqT K H p ys) (h : Q (.int ys.length) H) : rLen K [.ref p] H Q := ⟨p, ys, rfl, .inr s, h⟩
theorem i_lenS {z : Str} (l : z.length ≤ sizeLine) (h : Q (.int z.length) H) : rLenS [.str z] H Q := ⟨z, rfl, l, h⟩
theorem i_int {i : Int} (h : Q (.int i) H) : rInt [.int i] H Q := .inl ⟨i, rfl, h⟩
theorem i_listL {p : Addr} {ys : List V} (s : SqL K H p ys) (h : ∀ l, H l = none → Q (.ref l) (upd H l (.lst ys))) : rListOf K [.ref p] H Q := ⟨p, ys, rfl, .inl s, h⟩
theorem i_listT {p : Addr} {ys : List V} (s : SqT K H p ys) (h : ∀ l, H l = none → Q (.ref l) (upd H l (.lst ys))) : rListOf K [.ref p] H Q := ⟨p, ys, rfl, .inr s, h⟩
theorem i_tupL {p : Addr} {ys : List V} (s : SqL K H p ys) (h : ∀ l, H l = none → Q (.ref l) (upd H l (.tup ys))) : rTupOf K [.ref p] H Q := ⟨p, ys, rfl, .inl ⟨s, h⟩⟩
theorem i_tupT {p : Addr} {ys : List V} (s : SqT K H p ys) (h : Q (.ref p) H) : rTupOf K [.ref p] H Q := ⟨p, ys, rfl, .inr ⟨s, h⟩⟩
theorem i_isN {x : V} (h : Q (.bl (decide (x = .non))) H) : rIsN x .non H Q := ⟨rfl, h⟩
theorem i_notN {x : V} (h : Q (.bl (!decide (x = .non))) H) : rNotN x .non H Q := ⟨rfl, h⟩
theorem i_eqD {x y : V} {d e : PyData} (a : Dp K H x d) (b : Dp K H y e) (sd : SeqAt.shaped d = true) (se : SeqAt.shaped e = true) (h : Q (.bl (PyData.eqv d e)) H) : rEqD K x y H Q := ⟨d, e, a, b, sd, se, h⟩
theorem i_neD {x y : V} {d e : PyData} (a : Dp K H x d) (b : Dp K H y e) (sd : SeqAt.shaped d = true) (se : SeqAt.shaped e = true) (h : Q (.bl (!PyData.eqv d e)) H) : rNeD K x y H Q := ⟨d, e, a, b, sd, se, h⟩
end

/-! ### items of lists -/
theorem sz {n : Nat} (h : n ≤ 1000) : n ≤ sizeLine := Nat.le_of_lt (small1000 h)
theorem atI_map {α : Type} (f : α → V) (xs : List α) (j : Int) (d : α) (h0 : 0 ≤ j) (h1 : j < xs.length) : atI (xs.map f) j = some (f (xs.getD j.toNat d)) := by
  have e : j = ((j.toNat : Nat) : Int) := by omega
  rw [e]
  refine atI_nat ?_
  have hj : j.toNat < xs.length := by omega
  rw [List.getElem?_map, List.getElem?_eq_getElem hj, Int.toNat_natCast, List.getD_eq_getElem?_getD, List.getElem?_eq_getElem hj]
  rfl
theorem map_at {α : Type} {f : α → V} {l : List α} {i : Nat} {x : V} (h : (l.map f)[i]? = some x) : ∃ z, l[i]? = some z ∧ x = f z := by
  rw [List.getElem?_map] at h
  cases e : l[i]? with
  | none => rw [e] at h; cases h
  | some z => rw [e] at h; exact ⟨z, rfl, (Option.some.inj h).symm⟩
theorem getD_mem' {α : Type} (xs : List α) (j : Nat) (d : α) (h : j < xs.length) : xs.getD j d ∈ xs := by
  rw [List.getD_eq_getElem?_getD, List.getElem?_eq_getElem h]
  exact List.getElem_mem h
/-! ### states and heaps -/
theorem set_z {α : Type} {x y : α} {r : List α} : (x :: r).set 0 y = y :: r := rfl
theorem set_s {α : Type} {x y : α} {r r' : List α} {i : Nat} (h : r.set i y = r') : (x :: r).set (i + 1) y = x :: r' := by rw [List.set_cons_succ, h]
theorem get_z {α : Type} {x : α} {r : List α} : (x :: r)[0]? = some x := rfl
theorem get_s {α : Type} {x : α} {r : List α} {i : Nat} {y : α} (h : r[i]? = some y) : (x :: r)[i + 1]? = some y := by rw [List.getElem?_cons_succ]; exact h
theorem upd_get {H : Hp} {a p : Addr} {o u : HO} (n : a ≠ p) (h : H a = some u) : upd H p o a = some u := by rw [upd_ne n]; exact h
theorem upd_free {H : Hp} {a p : Addr} {o : HO} (n : a ≠ p) (h : H a = none) : upd H p o a = none := by rw [upd_ne n]; exact h
theorem free_upd {H : Hp} {a p : Addr} {o : HO} (h : upd H p o a = none) : a ≠ p ∧ H a = none := by
  have n : a ≠ p := fun e => by rw [e, upd_same] at h; cases h
  exact ⟨n, by rw [upd_ne n] at h; exact h⟩
theorem same_upd'  {H : Hp} {p : Addr} {o : HO} (h : H p = none) : Same H (upd H p o) := fun b x e => by rw [upd_ne (ne_of_none e h)]; exact e
theorem same_upd {H : Hp} {p : Addr} {o : HO} (h : H p = none) : Same H (upd H p o) := fun b x e => by rw [upd_ne (ne_of_none e h)]; exact e
theorem same_wr {H H1 : Hp} {x : Addr} {o : HO} (n : H x = none) (s : Same H H1) : Same H (upd H1 x o) := fun b u e => upd_get (ne_of_none e n) (s b u e)
theorem sqL_upd {K : PySem.W.Frag} {H : Hp} {a p : Addr} {o : HO} {xs : List V} (n : a ≠ p) (h : SqL K H a xs) : SqL K (upd H p o) a xs := by
  rcases h with (h | ⟨u, h⟩) | h
  · exact .inl (.inl (upd_get n h))
  · exact .inl (.inr ⟨u, upd_get n h⟩)
  · exact .inr h
theorem sqT_upd {K : PySem.W.Frag} {H : Hp} {a p : Addr} {o : HO} {xs : List V} (n : a ≠ p) (h : SqT K H a xs) : SqT K (upd H p o) a xs := by
  rcases h with (h | ⟨u, h⟩) | h
  · exact .inl (.inl (upd_get n h))
  · exact .inl (.inr ⟨u, upd_get n h⟩)
  · exact .inr h
theorem sqL_new {K : PySem.W.Frag} {H : Hp} {a p : Addr} {o : HO} {xs : List V} (n : H p = none) (h : SqL K H a xs) : SqL K (upd H p o) a xs := (same_upd n).seq h
theorem same_tup {K : PySem.W.Frag} {H H' : Hp} {a : Addr} {xs : List V} (e : Same H H') (h : SqT K H a xs) : SqT K H' a xs := by
  rcases h with (h | ⟨o, h⟩) | h
  · exact .inl (.inl (e _ _ h))
  · exact .inl (.inr ⟨o, e _ _ h⟩)
  · exact .inr h
theorem sqT_new {K : PySem.W.Frag} {H : Hp} {a p : Addr} {o : HO} {xs : List V} (n : H p = none) (h : SqT K H a xs) : SqT K (upd H p o) a xs := same_tup (same_upd n) h

/-! ### list(reversed(x)), x a list -/
def tLstRev (K : PySem.W.Frag) (te : TE) : TE := fun σ H Q => te σ H fun v H1 => ∃ (a : Addr) (xs : List V), v = .ref a ∧ SqL K H1 a xs ∧ ∀ q, H1 q = none → Q (.ref q) (upd H1 q (.lst xs.reverse))
def kLstRev (K : PySem.W.Frag) (Q : VK) : VK := fun v H1 => ∃ (a : Addr) (xs : List V), v = .ref a ∧ SqL K H1 a xs ∧ ∀ q, H1 q = none → Q (.ref q) (upd H1 q (.lst xs.reverse))
theorem i_lstRev {σ : St} {H : Hp} {Q : VK} {K : PySem.W.Frag} {te : TE} (h : te σ H (kLstRev K Q)) : tLstRev K te σ H Q := h
theorem i_kLstRev {H : Hp} {Q : VK} {K : PySem.W.Frag} {a : Addr} {xs : List V} (s : SqL K H a xs) (h : ∀ q, H q = none → Q (.ref q) (upd H q (.lst xs.reverse))) : kLstRev K Q (.ref a) H := ⟨a, xs, rfl, s, h⟩

/-! ### the rules with the written part by name -/
section
variable {X : Cx} {K : PySem.W.Frag} {tg e o a b c : Expr} {te to : TE} {ta : TA} {pos apos cpos p2 p : Pos} {es : List Expr}
theorem q_ixl (z : X.K = K := by rfl) : IxR X (rIxL K) := by subst z; exact ix_list
theorem q_ixt (z : X.K = K := by rfl) : IxR X (rIxT K) := by subst z; exact ix_tup
theorem q_len (z : X.K = K := by rfl) : CallR X (.builtin "len") (rLen K) := by subst z; exact c_len
theorem q_list (z : X.K = K := by rfl) : CallR X (.type "list") (rListOf K) := by subst z; exact c_list
theorem q_tuple (z : X.K = K := by rfl) : CallR X (.type "tuple") (rTupOf K) := by subst z; exact c_tuple
theorem q_eqD (hu : X.A.units + 64 < cLine) (z : X.K = K := by rfl) : OpR X (compareOp .Eq) (rEqD K) := by subst z; exact op_eqD hu
theorem q_neD (hu : X.A.units + 64 < cLine) (z : X.K = K := by rfl) : OpR X (compareOp .NotEq) (rNeD K) := by subst z; exact op_neD hu
theorem q_in (z : X.K = K := by rfl) : OpR X (compareOp .In) (rIn K false) := by subst z; exact op_in_seq
theorem q_notIn (z : X.K = K := by rfl) : OpR X (compareOp .NotIn) (rIn K true) := by subst z; exact op_notIn_seq
theorem q_sll (z : X.K = K := by rfl) : SlR X (rSlL K) := by subst z; exact sl_list
theorem q_all (hc : X.calm = true) (z : X.K = K := by rfl) : CallR X (.builtin "all") (rAll K) := by subst z; exact cr_all hc
theorem q_any (hc : X.calm = true) (z : X.K = K := by rfl) : CallR X (.builtin "any") (rAny K) := by subst z; exact cr_any hc
theorem q_sum (hc : X.calm = true) (z : X.K = K := by rfl) : CallR X (.builtin "sum") (rSum K) := by subst z; exact cr_sum hc
theorem q_sorted (z : X.K = K := by rfl) : CallR X (.builtin "sorted") (rSortedI K) := by subst z; exact cr_sortedI
theorem q_pil (he : PE X e te) (z : X.K = K := by rfl) : PI X tg e (iList K te) := by subst z; exact pi_list he
theorem q_pit (he : PE X e te) (z : X.K = K := by rfl) : PI X tg e (iTup K te) := by subst z; exact pi_tup he
theorem q_fld {f : Str} (he : PE X e te) (hb : attributeBase e f X.env (eval e X.env) = eval e X.env) (z : X.K = K := by rfl) : PE X (.Attribute e f pos) (tFld K te f) := by subst z; exact pe_fld he hb
end
end Tm

/-! Td: data compared at depth -/
namespace Tm
open PySem PySem.Spec PyProof.Rows L2
theorem eqvAll_ints : ∀ ns ms : List Int, PyData.eqvAll (ns.map PyData.int) (ms.map PyData.int) = decide (ns = ms)
  | [], [] => by simp [PyData.eqvAll]
  | [], _ :: _ => by simp [PyData.eqvAll]
  | _ :: _, [] => by simp [PyData.eqvAll]
  | x :: xs, y :: ys => by
    rw [List.map_cons, List.map_cons, PyData.eqvAll, eqvAll_ints xs ys, PyData.eqv]
    by_cases e : x = y <;> by_cases e2 : xs = ys <;> simp [e, e2]
theorem canLay_ints : ∀ ns : List Int, PyData.canLayAll0 (ns.map PyData.int) = true
  | [] => by simp [PyData.canLayAll0]
  | x :: xs => by rw [List.map_cons, PyData.canLayAll0, canLay_ints xs, PyData.canLay0]; rfl
theorem depth_ints : ∀ ns : List Int, PyData.depthAll (ns.map PyData.int) ≤ 1
  | [] => by simp [PyData.depthAll]
  | x :: xs => by
    have := depth_ints xs
    rw [List.map_cons, PyData.depthAll]
    have e : PyData.depth (PyData.int x) ≤ 1 := by simp [PyData.depth]
    omega
theorem dpAll_ints {K : PySem.W.Frag} {H : Hp} : ∀ ns : List Int, DpAll K H (ns.map V.int) (ns.map PyData.int)
  | [] => .nil
  | x :: xs => .cons (.int x) (dpAll_ints xs)
theorem dp_ints {K : PySem.W.Frag} {H : Hp} {p : Addr} {ns : List Int} (h : SqL K H p (ns.map V.int)) : Dp K H (.ref p) (.list (ns.map PyData.int)) := .lst h (dpAll_ints ns)
theorem dp_tints {K : PySem.W.Frag} {H : Hp} {p : Addr} {ns : List Int} (h : SqT K H p (ns.map V.int)) : Dp K H (.ref p) (.tuple (ns.map PyData.int)) := .tup h (dpAll_ints ns)
theorem shaped_of {d : PyData} (a : d.canLay0 = true) (b : d.depth ≤ 64) : SeqAt.shaped d = true := by
  unfold SeqAt.shaped
  rw [a, decide_eq_true b]; rfl
theorem shaped_ints (ns : List Int) : SeqAt.shaped (.list (ns.map PyData.int)) = true := shaped_of (by rw [PyData.canLay0]; exact canLay_ints ns) (by have := depth_ints ns; rw [PyData.depth]; omega)
theorem shaped_tints (ns : List Int) : SeqAt.shaped (.tuple (ns.map PyData.int)) = true := shaped_of (by rw [PyData.canLay0]; exact canLay_ints ns) (by have := depth_ints ns; rw [PyData.depth]; omega)
theorem eqv_ints (ns ms : List Int) : PyData.eqv (.list (ns.map PyData.int)) (.list (ms.map PyData.int)) = decide (ns = ms) := by rw [PyData.eqv]; exact eqvAll_ints ns ms
theorem eqv_tints (ns ms : List Int) : PyData.eqv (.tuple (ns.map PyData.int)) (.tuple (ms.map PyData.int)) = decide (ns = ms) := by rw [PyData.eqv]; exact eqvAll_ints ns ms
section
variable {H : Hp} {Q : VK} {K : PySem.W.Frag}
theorem i_eqLL {p q : Addr} {ns ms : List Int} (a : SqL K H p (ns.map V.int)) (b : SqL K H q (ms.map V.int)) (h : Q (.bl (decide (ns = ms))) H) : rEqD K (.ref p) (.ref q) H Q :=
  i_eqD (dp_ints a) (dp_ints b) (shaped_ints ns) (shaped_ints ms) (by rw [eqv_ints]; exact h)
theorem i_neLL {p q : Addr} {ns ms : List Int} (a : SqL K H p (ns.map V.int)) (b : SqL K H q (ms.map V.int)) (h : Q (.bl (!decide (ns = ms))) H) : rNeD K (.ref p) (.ref q) H Q :=
  i_neD (dp_ints a) (dp_ints b) (shaped_ints ns) (shaped_ints ms) (by rw [eqv_ints]; exact h)
theorem i_eqTT {p q : Addr} {ns ms : List Int} (a : SqT K H p (ns.map V.int)) (b : SqT K H q (ms.map V.int)) (h : Q (.bl (decide (ns = ms))) H) : rEqD K (.ref p) (.ref q) H Q :=
  i_eqD (dp_tints a) (dp_tints b) (shaped_tints ns) (shaped_tints ms) (by rw [eqv_tints]; exact h)
theorem i_eqT2 {p q : Addr} {a b c d : Int} (h1 : SqT K H p [.int a, .int b]) (h2 : SqT K H q [.int c, .int d]) (h : Q (.bl (decide (a = c ∧ b = d))) H) : rEqD K (.ref p) (.ref q) H Q := by
  refine i_eqTT (ns := [a, b]) (ms := [c, d]) h1 h2 ?_
  have e : decide ([a, b] = [c, d]) = decide (a = c ∧ b = d) := by by_cases x : a = c <;> by_cases y : b = d <;> simp [x, y]
  rw [e]; exact h
end
end Tm

/-! Tl: lists cut, written, repeated -/
namespace Tm
open PySem PySem.Spec PyProof.Rows L2
theorem sIx_n (n d k : Nat) : HT.sIx n d (some (k : Int)) = min k n := HT.sIx_nat n d k
theorem cut_from (xs : List V) (k : Nat) : cutV xs (some (k : Int)) none = xs.drop k := by
  show (xs.drop (HT.sIx xs.length 0 (some (k : Int)))).take (xs.length - HT.sIx xs.length 0 (some (k : Int))) = _
  rw [sIx_n]
  apply List.ext_getElem?
  intro i
  rw [List.getElem?_take, List.getElem?_drop, List.getElem?_drop]
  by_cases h : k ≤ xs.length
  · rw [Nat.min_eq_left h]
    by_cases h2 : i < xs.length - k
    · rw [if_pos h2]
    · rw [if_neg h2, List.getElem?_eq_none (by omega)]
  · rw [Nat.min_eq_right (by omega), if_neg (by omega), List.getElem?_eq_none (by omega)]
theorem cut_to (xs : List V) (k : Nat) : cutV xs none (some (k : Int)) = xs.take k := by
  show (xs.drop 0).take (HT.sIx xs.length xs.length (some (k : Int)) - 0) = _
  rw [sIx_n, List.drop_zero, Nat.sub_zero]
  apply List.ext_getElem?
  intro i
  rw [List.getElem?_take, List.getElem?_take]
  by_cases h : i < k
  · by_cases h2 : i < xs.length
    · rw [if_pos (by omega), if_pos h]
    · rw [if_neg (by omega), if_pos h, List.getElem?_eq_none (by omega)]
  · rw [if_neg (by omega), if_neg h]
theorem cut_both (xs : List V) (a b : Nat) : cutV xs (some (a : Int)) (some (b : Int)) = (xs.drop a).take (b - a) := by
  show (xs.drop (HT.sIx xs.length 0 (some (a : Int)))).take (HT.sIx xs.length xs.length (some (b : Int)) - HT.sIx xs.length 0 (some (a : Int))) = _
  rw [sIx_n, sIx_n]
  apply List.ext_getElem?
  intro i
  rw [List.getElem?_take, List.getElem?_take, List.getElem?_drop, List.getElem?_drop]
  by_cases h3 : a + i < xs.length
  · have e1 : min a xs.length = a := Nat.min_eq_left (by omega)
    rw [e1]
    by_cases h2 : i < b - a
    · rw [if_pos (by omega), if_pos h2]
    · rw [if_neg (by omega), if_neg h2]
  · have e2 : xs[a + i]? = none := List.getElem?_eq_none (by omega)
    rw [e2, if_neg (by omega)]
    split <;> rfl
theorem cut_all (xs : List V) : cutV xs none none = xs := by
  show (xs.drop 0).take (xs.length - 0) = _
  rw [List.drop_zero, Nat.sub_zero, List.take_length]
theorem flat_rep {α : Type} (x : α) (n : Nat) : (List.replicate n [x]).flatten = List.replicate n x := by
  induction n with
  | zero => rfl
  | succ n ih => rw [List.replicate_succ, List.flatten_cons, ih, List.replicate_succ]; rfl
theorem rep_map {α : Type} (f : α → V) (x : α) (n : Nat) : (List.replicate n [f x]).flatten = (List.replicate n x).map f := by rw [flat_rep, List.map_replicate]
theorem ixN_nat {n : Nat} {k : Int} {j : Nat} (e : k = (j : Int)) (h : j < n) : ixN n k = some j := by
  subst e
  unfold ixN
  rw [if_pos (by omega), if_pos (by omega), Int.toNat_natCast]
def kG2 (t : TSet) (o : V) (v : V) (σ : St) (nx : St → Hp → Prop) : VK := fun i H => t o i v H fun H3 => nx σ H3
def kG1 (ti : TE) (t : TSet) (v : V) (σ : St) (nx : St → Hp → Prop) : VK := fun o H => ti σ H (kG2 t o v σ nx)
section
variable {σ σ' : St} {H : Hp} {Q : VK} {nx : St → Hp → Prop} {K : PySem.W.Frag}
theorem i_gSub {to ti : TE} {t : TSet} {v : V} (h : to σ H (kG1 ti t v σ nx)) : gSub to ti t v σ H nx := h
theorem i_kG1 {ti : TE} {t : TSet} {v o : V} (h : ti σ H (kG2 t o v σ nx)) : kG1 ti t v σ nx o H := h
/-- xs[k] = v, the place told -/
theorem i_kG2 {p : Addr} {xs : List V} {k : Int} {v : V} (j : Nat) (hp : H p = some (.lst xs)) (e : k = (j : Int)) (l : j < xs.length) (h : nx σ (upd H p (.lst (xs.set j v)))) : kG2 rSetL (.ref p) v σ nx (.int k) H :=
  ⟨p, xs, k, j, rfl, rfl, hp, ixN_nat e l, h⟩
/-- an item of a list of ints, the place told -/
theorem i_ixI {p : Addr} {ds : List Int} {i : Int} {j : Nat} (s : SqL K H p (ds.map V.int)) (e : i.toNat = j) (h0 : 0 ≤ i) (l : i < ds.length) (h : Q (.int (ds.getD j 0)) H) : rIxL K (.ref p) (.int i) H Q := by
  refine i_ixL s (v := .int (ds.getD j 0)) ?_ h
  rw [atI_map V.int ds i 0 h0 l, e]
theorem i_slF {α : Type} {f : α → V} {b : Addr} {l : List α} {k : Int} (j : Nat) (s : SqL K H b (l.map f)) (h : ∀ p, H p = none → Q (.ref p) (upd H p (.lst ((l.drop j).map f)))) (e : k = (j : Int) := by first | rfl | omega) : rSlL K (.ref b) (some k) none H Q := by
  subst e; refine i_slL s fun p hp => ?_
  rw [cut_from, ← List.map_drop]; exact h p hp
theorem i_slT {α : Type} {f : α → V} {b : Addr} {l : List α} {k : Int} (j : Nat) (s : SqL K H b (l.map f)) (h : ∀ p, H p = none → Q (.ref p) (upd H p (.lst ((l.take j).map f)))) (e : k = (j : Int) := by first | rfl | omega) : rSlL K (.ref b) none (some k) H Q := by
  subst e; refine i_slL s fun p hp => ?_
  rw [cut_to, ← List.map_take]; exact h p hp
theorem i_slB {α : Type} {f : α → V} {b : Addr} {l : List α} {k k' : Int} (j j' : Nat) (s : SqL K H b (l.map f)) (h : ∀ p, H p = none → Q (.ref p) (upd H p (.lst (((l.drop j).take (j' - j)).map f)))) (e : k = (j : Int) := by first | rfl | omega) (e' : k' = (j' : Int) := by first | rfl | omega) : rSlL K (.ref b) (some k) (some k') H Q := by
  subst e; subst e'; refine i_slL s fun p hp => ?_
  rw [cut_both, ← List.map_drop, ← List.map_take]; exact h p hp
theorem getD_nn {ds : List Int} (h : ∀ d ∈ ds, 0 ≤ d) (k : Nat) : 0 ≤ ds.getD k 0 := by
  by_cases l : k < ds.length
  · exact h _ (getD_mem' ds k 0 l)
  · rw [List.getD_eq_getElem?_getD, List.getElem?_eq_none (by omega)]; exact Int.le_refl _
end
end Tm

/-! Tn: the octets of a number -/
namespace Tm
open PySem PySem.Spec PyProof.Rows L2
/-! the mathematics: the octets of a number -/
def lit (n : Nat) (r : Int) : List Int := (List.range n).map fun j => r / 256 ^ j % 256
def rowOf (n : Nat) (r : Int) : List Int := (lit n r).reverse
def numOf (l : List Int) : Int := l.foldl (fun n o => n * 256 + o) 0
theorem lit_succ (n : Nat) (r : Int) : lit (n + 1) r = lit n r ++ [r / 256 ^ n % 256] := by
  unfold lit; rw [List.range_succ, List.map_append]; rfl
theorem lit_len (n : Nat) (r : Int) : (lit n r).length = n := by unfold lit; rw [List.length_map, List.length_range]
theorem rowOf_succ (n : Nat) (r : Int) : rowOf (n + 1) r = (r / 256 ^ n % 256) :: rowOf n r := by
  unfold rowOf; rw [lit_succ, List.reverse_append]; rfl
theorem rowOf_len (n : Nat) (r : Int) : (rowOf n r).length = n := by unfold rowOf; rw [List.length_reverse, lit_len]
theorem foldl_from (l : List Int) : ∀ z : Int, l.foldl (fun n o => n * 256 + o) z = z * 256 ^ l.length + numOf l := by
  induction l with
  | nil => intro z; simp [numOf]
  | cons x xs ih =>
    intro z
    show xs.foldl _ (z * 256 + x) = _
    have e : numOf (x :: xs) = xs.foldl (fun n o => n * 256 + o) (0 * 256 + x) := rfl
    rw [ih, e, ih, List.length_cons, Int.pow_succ]
    grind
theorem numOf_cons (x : Int) (l : List Int) : numOf (x :: l) = x * 256 ^ l.length + numOf l := by
  show l.foldl _ (0 * 256 + x) = _
  rw [foldl_from]; grind
theorem pow_div_up (r : Int) (n : Nat) : r / 256 ^ (n + 1) = r / 256 ^ n / 256 := by
  rw [Int.pow_succ, Int.ediv_ediv_of_nonneg (Int.le_of_lt (Int.pow_pos (by decide)))]
theorem numOf_rowOf (r : Int) : ∀ n : Nat, numOf (rowOf n r) = r - 256 ^ n * (r / 256 ^ n)
  | 0 => by show (0 : Int) = r - 1 * (r / 1); rw [Int.ediv_one]; omega
  | n + 1 => by
    rw [rowOf_succ, numOf_cons, rowOf_len, numOf_rowOf r n, pow_div_up, Int.pow_succ]
    have e : r / 256 ^ n % 256 = r / 256 ^ n - 256 * (r / 256 ^ n / 256) := by omega
    rw [e]
    grind
theorem numOf_row (r : Int) (n : Nat) (h0 : 0 ≤ r) (h1 : r < 256 ^ n) : numOf (rowOf n r) = r := by
  rw [numOf_rowOf, Int.ediv_eq_zero_of_lt h0 h1]; omega
theorem numOf_take {l : List Int} {i : Nat} {z : Int} (h : l[i]? = some z) : numOf (l.take (i + 1)) = numOf (l.take i) * 256 + z := by
  unfold numOf
  rw [List.take_add_one, h, List.foldl_append]; rfl
end Tm

/-! Tc: contents of pages as data -/
namespace Tm
open PySem PySem.Spec PyProof.Rows L2
inductive Cont where
  | mark (n : Int)
  | node (lv : Int) (ch : List (Option (Int × Int)))
  | item (ep ix : Int) (la : Bool) (key : Int) (val : Option (List Int))
  | root (n ep : Int) (tr : Option (Int × Int)) (jr : List Int) (pl : List (Option Int)) (er bd : List Int)
def dAd : Option (Int × Int) → PyData
  | none => .none
  | some q => .tuple [.int q.1, .int q.2]
def dPl : Option Int → PyData
  | none => .none
  | some b => .int b
def dTi (l : List Int) : PyData := .tuple (l.map .int)
def dVal : Option (List Int) → PyData
  | none => .none
  | some l => dTi l
def dC : Cont → PyData
  | .mark n => .tuple [.str "mark", .int n]
  | .node lv ch => .tuple [.str "node", .int lv, .tuple (ch.map dAd)]
  | .item ep ix la key val => .tuple [.str "item", .int ep, .int ix, .bool la, .int key, dVal val]
  | .root n ep tr jr pl er bd => .tuple [.str "root", .int n, .int ep, dAd tr, dTi jr, .tuple (pl.map dPl), dTi er, dTi bd]
/-! what fits -/
def cLo (m n : Int) : Bool := decide (0 ≤ n ∧ n < m)
def below (m : Int) (l : List Int) : Bool := l.all (cLo m)
def fAd : Option (Int × Int) → Bool
  | none => true
  | some q => below 48 [q.1] && below 32 [q.2]
def fVal : Option (List Int) → Bool
  | none => true
  | some l => decide (l.length ≤ 448) && below 256 l
def named (pl : List (Option Int)) : List Int := pl.filterMap id
def fC : Cont → Bool
  | .mark n => below 4294967296 [n]
  | .node lv ch => below 256 [lv] && (decide (ch.length = 32) && ch.all fAd)
  | .item ep ix _ key val => below 4294967296 [ep, ix, key] && fVal val
  | .root n ep tr jr pl er bd => !(decide (48 < jr.length) || (decide (48 < pl.length) || (decide (48 < er.length) || decide (48 < bd.length)))) && (below 4294967296 (n :: ep :: er) && (fAd tr && below 48 (jr ++ (named pl ++ bd))))
/-! the bodies -/
def bAd : Option (Int × Int) → List Int
  | none => [255, 255]
  | some q => [q.1, q.2]
def bPl (p : Option Int) : Int := p.getD 255
def bVal : Option (List Int) → List Int
  | none => [0]
  | some l => [1] ++ rowOf 2 l.length ++ l
def bit (b : Bool) : Int := if b then 1 else 0
def body : Cont → List Int
  | .mark n => rowOf 4 n
  | .node lv ch => lv :: ch.flatMap bAd
  | .item ep ix la key val => rowOf 4 ep ++ rowOf 4 ix ++ [bit la] ++ rowOf 4 key ++ bVal val
  | .root n ep tr jr pl er bd => rowOf 4 n ++ rowOf 4 ep ++ bAd tr ++ ([(jr.length : Int)] ++ jr ++ [(pl.length : Int)] ++ pl.map bPl ++ [(er.length : Int)]) ++ er.flatMap (rowOf 4) ++ ([(bd.length : Int)] ++ bd)
/-! ### data in heaps -/
section
variable {K : PySem.W.Frag} {H H' : Hp}
mutual
theorem dp_same (e : Same H H') : ∀ (d : PyData) (v : V), Dp K H v d → Dp K H' v d
  | .none, _, h => by cases h; exact .non
  | .bool b, _, h => by cases h; exact .bl b
  | .int i, _, h => by cases h; exact .int i
  | .str x, _, h => by cases h; exact .str x
  | .list ds, _, h => by
    cases h with
    | lst hs ha => exact .lst (e.seq hs) (dpAll_same e ds _ ha)
  | .tuple ds, _, h => by
    cases h with
    | tup hs ha => exact .tup (same_tup e hs) (dpAll_same e ds _ ha)
  | .dict _, _, h => by cases h
theorem dpAll_same (e : Same H H') : ∀ (ds : List PyData) (vs : List V), DpAll K H vs ds → DpAll K H' vs ds
  | [], _, h => by cases h; exact .nil
  | d :: ds, _, h => by
    cases h with
    | cons h1 h2 => exact .cons (dp_same e d _ h1) (dpAll_same e ds _ h2)
end
theorem dp_int {v : V} {i : Int} (h : Dp K H v (.int i)) : v = .int i := by cases h; rfl
theorem dp_bool {v : V} {b : Bool} (h : Dp K H v (.bool b)) : v = .bl b := by cases h; rfl
theorem dp_str {v : V} {x : Str} (h : Dp K H v (.str x)) : v = .str x := by cases h; rfl
theorem dp_none {v : V} (h : Dp K H v .none) : v = .non := by cases h; rfl
theorem dp_tup {v : V} {ds : List PyData} (h : Dp K H v (.tuple ds)) : ∃ a xs, v = .ref a ∧ SqT K H a xs ∧ DpAll K H xs ds := by
  cases h with
  | tup hs ha => exact ⟨_, _, rfl, hs, ha⟩
theorem dpAll_ints' : ∀ {l : List Int} {vs : List V}, DpAll K H vs (l.map PyData.int) → vs = l.map V.int
  | [], _, h => by cases h; rfl
  | x :: r, _, h => by
    cases h with
    | cons h1 h2 => rw [dp_int h1, dpAll_ints' h2]; rfl
theorem dp_ti {v : V} {l : List Int} (h : Dp K H v (dTi l)) : ∃ a, v = .ref a ∧ SqT K H a (l.map V.int) := by
  obtain ⟨a, xs, rfl, hs, ha⟩ := dp_tup h
  rw [dpAll_ints' ha] at hs
  exact ⟨a, rfl, hs⟩
theorem ti_dp {a : Addr} {l : List Int} (h : SqT K H a (l.map V.int)) : Dp K H (.ref a) (dTi l) := dp_tints h
theorem dp_ad_some {v : V} {q : Int × Int} (h : Dp K H v (dAd (some q))) : ∃ a, v = .ref a ∧ SqT K H a [.int q.1, .int q.2] := dp_ti (l := [q.1, q.2]) h
theorem ad_dp {a : Addr} {b g : Int} (h : SqT K H a [.int b, .int g]) : Dp K H (.ref a) (dAd (some (b, g))) := dp_tints (ns := [b, g]) h
theorem ad_non {v : V} {q : Option (Int × Int)} (h : Dp K H v (dAd q)) : decide (v = .non) = q.isNone := by
  cases q with
  | none => rw [dp_none h]; rfl
  | some q =>
    obtain ⟨a, rfl, _⟩ := dp_ad_some h
    simp
theorem pl_dp : ∀ {p : Option Int} {v : V}, Dp K H v (dPl p) → v = (match p with | none => .non | some b => .int b)
  | none, _, h => dp_none h
  | some b, _, h => dp_int h
def vPl : Option Int → V
  | none => .non
  | some b => .int b
theorem dpAll_pl : ∀ {l : List (Option Int)} {vs : List V}, DpAll K H vs (l.map dPl) → vs = l.map vPl
  | [], _, h => by cases h; rfl
  | x :: r, _, h => by
    cases h with
    | cons h1 h2 =>
      rw [dpAll_pl h2]
      cases x with
      | none => rw [dp_none h1]; rfl
      | some b => rw [dp_int h1]; rfl
theorem pl_dpAll : ∀ (l : List (Option Int)), DpAll K H (l.map vPl) (l.map dPl)
  | [] => .nil
  | none :: r => .cons .non (pl_dpAll r)
  | some b :: r => .cons (.int b) (pl_dpAll r)
theorem dpAll_get : ∀ {ds : List PyData} {vs : List V} {i : Nat} {v : V}, DpAll K H vs ds → vs[i]? = some v → ∃ d, ds[i]? = some d ∧ Dp K H v d
  | [], _, i, v, h, e => by cases h; simp at e
  | d :: ds, _, 0, v, h, e => by
    cases h with
    | cons h1 h2 => obtain rfl := Option.some.inj e; exact ⟨d, rfl, h1⟩
  | d :: ds, _, i + 1, v, h, e => by
    cases h with
    | cons h1 h2 =>
      obtain ⟨d', h', q⟩ := dpAll_get (i := i) h2 (by simpa using e)
      exact ⟨d', by simpa using h', q⟩
theorem dpAll_len : ∀ {ds : List PyData} {vs : List V}, DpAll K H vs ds → vs.length = ds.length
  | [], _, h => by cases h; rfl
  | d :: ds, _, h => by
    cases h with
    | cons h1 h2 => rw [List.length_cons, List.length_cons, dpAll_len h2]
/-- a list that is no part of the data may change: data made of tuples alone -/
theorem dpAd_upd {D : Addr} {o : HO} {xs : List V} (hk : H D = some (.lst xs)) : ∀ {c : Option (Int × Int)} {v : V}, Dp K H v (dAd c) → Dp K (upd H D o) v (dAd c)
  | none, _, h => by rw [dp_none h]; exact .non
  | some q, _, h => by
    obtain ⟨a, rfl, hT⟩ := dp_ad_some h
    refine ad_dp ?_
    rcases hT with (z | ⟨u, z⟩) | z
    · exact .inl (.inl (upd_get (ne_of z hk (by intro e; cases e)) z))
    · exact .inl (.inr ⟨u, upd_get (ne_of z hk (by intro e; cases e)) z⟩)
    · exact .inr z
theorem dpAll_upd {D : Addr} {o : HO} {xs : List V} (hk : H D = some (.lst xs)) : ∀ {ch : List (Option (Int × Int))} {vs : List V}, DpAll K H vs (ch.map dAd) → DpAll K (upd H D o) vs (ch.map dAd)
  | [], _, h => by cases h; exact .nil
  | c :: ch, _, h => by
    cases h with
    | cons h1 h2 => exact .cons (dpAd_upd hk h1) (dpAll_upd hk h2)
theorem dpAll_snoc : ∀ {ds : List PyData} {vs : List V} {d : PyData} {v : V}, DpAll K H vs ds → Dp K H v d → DpAll K H (vs ++ [v]) (ds ++ [d])
  | [], _, d, v, h, q => by cases h; exact .cons q .nil
  | _ :: _, _, d, v, h, q => by
    cases h with
    | cons h1 h2 => exact .cons h1 (dpAll_snoc h2 q)
/-- a content's tuple, part by part -/
theorem c_mark {v : V} {n : Int} (h : Dp K H v (dC (.mark n))) : ∃ p, v = .ref p ∧ SqT K H p [.str "mark", .int n] := by
  obtain ⟨p, xs, rfl, hs, ha⟩ := dp_tup h
  cases ha with | cons a1 ha => cases ha with | cons a2 ha => cases ha; cases a1; cases a2; exact ⟨p, rfl, hs⟩
theorem c_node {v : V} {lv : Int} {ch : List (Option (Int × Int))} (h : Dp K H v (dC (.node lv ch))) : ∃ p c xs, v = .ref p ∧ SqT K H p [.str "node", .int lv, .ref c] ∧ SqT K H c xs ∧ DpAll K H xs (ch.map dAd) := by
  obtain ⟨p, xs, rfl, hs, ha⟩ := dp_tup h
  cases ha with | cons a1 ha => cases ha with | cons a2 ha => cases ha with | cons a3 ha =>
    cases ha; cases a1; cases a2
    obtain ⟨c, ys, rfl, hc, hd⟩ := dp_tup a3
    exact ⟨p, c, ys, rfl, hs, hc, hd⟩
theorem c_item {v : V} {ep ix key : Int} {la : Bool} {val : Option (List Int)} (h : Dp K H v (dC (.item ep ix la key val))) : ∃ p u, v = .ref p ∧ SqT K H p [.str "item", .int ep, .int ix, .bl la, .int key, u] ∧ Dp K H u (dVal val) := by
  obtain ⟨p, xs, rfl, hs, ha⟩ := dp_tup h
  cases ha with | cons a1 ha => cases ha with | cons a2 ha => cases ha with | cons a3 ha => cases ha with | cons a4 ha => cases ha with | cons a5 ha => cases ha with | cons a6 ha =>
    cases ha; cases a1; cases a2; cases a3; cases a4; cases a5
    exact ⟨p, _, rfl, hs, a6⟩
theorem c_root {v : V} {n ep : Int} {tr : Option (Int × Int)} {jr : List Int} {pl : List (Option Int)} {er bd : List Int} (h : Dp K H v (dC (.root n ep tr jr pl er bd))) :
    ∃ p t j q e d, v = .ref p ∧ SqT K H p [.str "root", .int n, .int ep, t, .ref j, .ref q, .ref e, .ref d] ∧ Dp K H t (dAd tr) ∧ SqT K H j (jr.map V.int) ∧ SqT K H q (pl.map vPl) ∧ SqT K H e (er.map V.int) ∧ SqT K H d (bd.map V.int) := by
  obtain ⟨p, xs, rfl, hs, ha⟩ := dp_tup h
  cases ha with | cons a1 ha => cases ha with | cons a2 ha => cases ha with | cons a3 ha => cases ha with | cons a4 ha => cases ha with | cons a5 ha => cases ha with | cons a6 ha => cases ha with | cons a7 ha => cases ha with | cons a8 ha =>
    cases ha; cases a1; cases a2; cases a3
    obtain ⟨j, rfl, hj⟩ := dp_ti a5
    obtain ⟨e, rfl, he⟩ := dp_ti a7
    obtain ⟨d, rfl, hd⟩ := dp_ti a8
    obtain ⟨q, ys, rfl, hq, hqa⟩ := dp_tup a6
    rw [dpAll_pl hqa] at hq
    exact ⟨p, _, j, q, e, d, rfl, hs, a4, hj, hq, he, hd⟩
theorem mark_c {p : Addr} {n : Int} (h : SqT K H p [.str "mark", .int n]) : Dp K H (.ref p) (dC (.mark n)) := .tup h (.cons (.str _) (.cons (.int _) .nil))
theorem node_c {p c : Addr} {lv : Int} {xs : List V} {ch : List (Option (Int × Int))} (h : SqT K H p [.str "node", .int lv, .ref c]) (hc : SqT K H c xs) (hd : DpAll K H xs (ch.map dAd)) : Dp K H (.ref p) (dC (.node lv ch)) :=
  .tup h (.cons (.str _) (.cons (.int _) (.cons (.tup hc hd) .nil)))
theorem item_c {p : Addr} {ep ix key : Int} {la : Bool} {u : V} {val : Option (List Int)} (h : SqT K H p [.str "item", .int ep, .int ix, .bl la, .int key, u]) (hu : Dp K H u (dVal val)) : Dp K H (.ref p) (dC (.item ep ix la key val)) :=
  .tup h (.cons (.str _) (.cons (.int _) (.cons (.int _) (.cons (.bl _) (.cons (.int _) (.cons hu .nil))))))
theorem root_c {p j q e d : Addr} {t : V} {n ep : Int} {tr : Option (Int × Int)} {jr : List Int} {pl : List (Option Int)} {er bd : List Int} (h : SqT K H p [.str "root", .int n, .int ep, t, .ref j, .ref q, .ref e, .ref d])
    (ht : Dp K H t (dAd tr)) (hj : SqT K H j (jr.map V.int)) (hq : SqT K H q (pl.map vPl)) (he : SqT K H e (er.map V.int)) (hd : SqT K H d (bd.map V.int)) : Dp K H (.ref p) (dC (.root n ep tr jr pl er bd)) :=
  .tup h (.cons (.str _) (.cons (.int _) (.cons (.int _) (.cons ht (.cons (ti_dp hj) (.cons (.tup hq (pl_dpAll pl)) (.cons (ti_dp he) (.cons (ti_dp hd) .nil))))))))
end
/-! ### further rules -/
section
variable {X : Cx} {K : PySem.W.Frag} {tg e : Expr} {te : TE} {t : TA} {p : Pos} {es : List Expr}
/-- what is walked is a list or a tuple -/
def iLT (K : PySem.W.Frag) (te : TE) : TI := fun σ H R => iList K te σ H R ∨ iTup K te σ H R
theorem q_pilt (he : PE X e te) (z : X.K = K := by rfl) : PI X tg e (iLT K te) :=
  ⟨fun pins s σ H R I h => h.elim (fun h => (q_pil (tg := tg) he z).run pins s σ H R I h) (fun h => (q_pit (tg := tg) he z).run pins s σ H R I h)⟩
def rdStar (K : PySem.W.Frag) (te : TE) (t : TA) : TA := fun σ H Q => te σ H fun x H1 => ∃ p xs, x = V.ref p ∧ (SqT K H1 p xs ∨ SqL K H1 p xs) ∧ t σ H1 fun ys H2 => Q (xs ++ ys) H2
theorem q_star (he : PE X e te) (hr : PA X es t) (hs : starEach (.Starred e p :: es) X.env = (true, eval e X.env) :: starEach es X.env := by rfl) (z : X.K = K := by rfl) : PA X (.Starred e p :: es) (rdStar K te t) := by
  subst z; exact StX.pa_star he hr hs
def kSt2 (xs : List V) (Q : List V → Hp → Prop) : List V → Hp → Prop := fun ys H2 => Q (xs ++ ys) H2
def kSt1 (K : PySem.W.Frag) (t : TA) (σ : St) (Q : List V → Hp → Prop) : VK := fun x H1 => ∃ p xs, x = V.ref p ∧ (SqT K H1 p xs ∨ SqL K H1 p xs) ∧ t σ H1 (kSt2 xs Q)
end
section
variable {σ : St} {H : Hp} {Q : VK} {K : PySem.W.Frag}
theorem i_star {te : TE} {t : TA} {Q : List V → Hp → Prop} (h : te σ H (kSt1 K t σ Q)) : rdStar K te t σ H Q := h
theorem i_kSt1L {t : TA} {Q : List V → Hp → Prop} {p : Addr} {xs : List V} (s : SqL K H p xs) (h : t σ H (kSt2 xs Q)) : kSt1 K t σ Q (.ref p) H := ⟨p, xs, rfl, .inr s, h⟩
theorem i_kSt1T {t : TA} {Q : List V → Hp → Prop} {p : Addr} {xs : List V} (s : SqT K H p xs) (h : t σ H (kSt2 xs Q)) : kSt1 K t σ Q (.ref p) H := ⟨p, xs, rfl, .inl s, h⟩
theorem i_kSt2 {xs ys : List V} {Q : List V → Hp → Prop} (h : Q (xs ++ ys) H) : kSt2 xs Q ys H := h
theorem i_all {a : Addr} {bs : List Bool} (s : SqL K H a (bs.map V.bl)) (h : Q (.bl (bs.all id)) H) : rAll K [.ref a] H Q := ⟨a, bs, rfl, s, h⟩
theorem i_any {a : Addr} {bs : List Bool} (s : SqL K H a (bs.map V.bl)) (h : Q (.bl (bs.any id)) H) : rAny K [.ref a] H Q := ⟨a, bs, rfl, s, h⟩
end
/-! ### both kinds walked by a comprehension; slices of tuples -/
section
variable {σ : St} {H : Hp} {Q : VK} {K : PySem.W.Frag} {X : Cx}
theorem i_lcLT {i : Nat} {a : Addr} {g : TG} {tt : TT} {te : TE} {vs : List Nat} (e : σ[i]? = some (some (.ref a))) (xs : List V) (Pv : Addr → Nat → Hp → Prop) (s : SqL K H a xs ∨ SqT K H a xs)
    (hsame : ∀ D i H1, Pv D i H1 → Same H H1) (h0 : ∀ D, H D = none → Pv D 0 (upd H D (.lst [])))
    (hs : ∀ D i x H1, H D = none → xs[i]? = some x → Pv D i H1 → g x (wipe σ vs) H1 (kLc1 tt te vs σ D (Pv D (i + 1)))) (hd : ∀ D H1, H D = none → Pv D xs.length H1 → Q (.ref D) H1) :
    iLT K (tVar i) σ H (kLc g tt te vs σ Q) := by
  rcases s with s | s
  · exact .inl (i_iList (i_var e (i_kIL s (i_lcL xs Pv h0 (fun D i H1 _ _ p => (hsame D i H1 p).seq s) hs hd))))
  · exact .inr (i_iTup (i_var e (i_kIT s (i_lcT xs Pv h0 (fun D i H1 _ _ p => same_tup (hsame D i H1 p) s) hs hd))))
theorem i_kLc2t {te : TE} {D : Addr} {N : Hp → Prop} {b : Bool} (e : b = true) (h : te σ H (kLc3 D N)) : kLc2 te σ D N b H := by subst e; exact i_kLc2T h
theorem i_kLc2f {te : TE} {D : Addr} {N : Hp → Prop} {b : Bool} (e : b = false) (h : N H) : kLc2 te σ D N b H := by subst e; exact i_kLc2F h
theorem get_map {α β : Type} {f : α → β} {l : List α} {i : Nat} {y : β} (h : (l.map f)[i]? = some y) : ∃ z, l[i]? = some z ∧ y = f z := by
  rw [List.getElem?_map] at h
  cases e : l[i]? with
  | none => rw [e] at h; cases h
  | some z => rw [e] at h; exact ⟨z, rfl, (Option.some.inj h).symm⟩
theorem tk_bind {α β : Type} {f : α → List β} {l : List α} {i : Nat} {z : α} (h : l[i]? = some z) : (l.take (i + 1)).flatMap f = (l.take i).flatMap f ++ f z := by
  rw [List.take_add_one, h, List.flatMap_append]; simp
theorem lt_of_get {α : Type} {l : List α} {i : Nat} {z : α} (h : l[i]? = some z) : i < l.length := (List.getElem?_eq_some_iff.mp h).1
theorem big {n : Nat} (h : n ≤ 100000) : n ≤ sizeLine := Nat.le_trans h (by decide)
theorem bigl {n : Nat} (h : n ≤ 100000) : n < sizeLine := Nat.lt_of_le_of_lt h (by decide)
theorem tk_map {α β : Type} {f : α → β} {l : List α} {i : Nat} {z : α} (h : l[i]? = some z) : (l.take (i + 1)).map f = (l.take i).map f ++ [f z] := by
  rw [List.take_add_one, h, List.map_append]; rfl
theorem q_slt (z : X.K = K := by rfl) : SlR X (rSlA K) := by subst z; exact sl_tupA
/-- t[k:], k within it -/
theorem i_slTF {b : Addr} {xs : List V} {k : Int} (j : Nat) (s : SqT K H b xs) (hj : 0 < j) (hl : j ≤ xs.length) (h : ∀ p, H p = none → Q (.ref p) (upd H p (.tup (xs.drop j)))) (e : k = (j : Int) := by first | rfl | omega) : rSlA K (.ref b) (some k) none H Q := by
  subst e
  refine ⟨b, xs, rfl, s, fun hw => ?_, fun _ p hp => ?_⟩
  · have := hw.1
    rw [sIx_n] at this
    omega
  · rw [cut_from]; exact h p hp
end
/-! ### steps that name the heap behind -/
section
variable {H H0 : Hp} {Q : VK} {K : PySem.W.Frag}
theorem same_mut {H' : Hp} {l : Addr} (n : H0 l = none) (s : Same H0 H) (k : ∀ b o, b ≠ l → H b = some o → H' b = some o) : Same H0 H' := fun b o e => k b o (ne_of_none e n) (s b o e)
theorem a_lst {xs : List V} (l : xs.length ≤ sizeLine) (h : ∀ p H', Same H H' → H p = none → H' p = some (.lst xs) → Q (.ref p) H') : kLst Q xs H := i_kLst l fun p hp => h p _ (same_upd hp) hp upd_same
theorem a_lstI {l : List Int} {xs : List V} (e : xs = l.map V.int) (z : l.length ≤ 100000) (h : ∀ p H', Same H H' → H p = none → H' p = some (.lst (l.map V.int)) → Q (.ref p) H') : kLst Q xs H := by
  subst e; exact a_lst (big (by rw [List.length_map]; exact z)) h
theorem a_tup {xs : List V} (l : xs.length ≤ sizeLine) (h : ∀ p H', Same H H' → H p = none → H' p = some (.tup xs) → Q (.ref p) H') : kTup Q xs H := i_kTup l fun p hp => h p _ (same_upd hp) hp upd_same
theorem a_cat {a b : Addr} {xs zs : List Int} (ha : H a = some (.lst (xs.map V.int))) (hb : H b = some (.lst (zs.map V.int))) (z : xs.length + zs.length ≤ 100000) (h : ∀ p H', Same H H' → H p = none → H' p = some (.lst ((xs ++ zs).map V.int)) → Q (.ref p) H') : rCat (.ref a) (.ref b) H Q :=
  i_cat ha hb (big (by rw [List.length_map, List.length_map]; exact z)) fun p hp => h p _ (same_upd hp) hp (by rw [upd_same, List.map_append])
theorem a_append {a : Addr} {xs : List Int} {y : Int} (ha : H a = some (.lst (xs.map V.int))) (z : xs.length < 100000) (h : ∀ H', (∀ b o, b ≠ a → H b = some o → H' b = some o) → H' a = some (.lst ((xs ++ [y]).map V.int)) → Q .non H') : rAppend (.ref a) [.int y] H Q :=
  i_append ha (bigl (by rw [List.length_map]; omega)) (h _ (fun b o n e => upd_get n e) (by rw [upd_same, List.map_append]; rfl))
theorem a_extend {a b : Addr} {xs zs : List Int} (ha : H a = some (.lst (xs.map V.int))) (hb : H b = some (.lst (zs.map V.int))) (z : xs.length + zs.length ≤ 100000) (h : ∀ H', (∀ b o, b ≠ a → H b = some o → H' b = some o) → H' a = some (.lst ((xs ++ zs).map V.int)) → Q .non H') : rExtend (.ref a) [.ref b] H Q :=
  i_extend ha hb (big (by rw [List.length_map, List.length_map]; exact z)) (h _ (fun b o n e => upd_get n e) (by rw [upd_same, List.map_append]))
theorem a_listT {p : Addr} {ys : List V} (s : SqT K H p ys) (h : ∀ l H', Same H H' → H l = none → H' l = some (.lst ys) → Q (.ref l) H') : rListOf K [.ref p] H Q := i_listT s fun l hl => h l _ (same_upd hl) hl upd_same
theorem a_listL {p : Addr} {ys : List V} (s : SqL K H p ys) (h : ∀ l H', Same H H' → H l = none → H' l = some (.lst ys) → Q (.ref l) H') : rListOf K [.ref p] H Q := i_listL s fun l hl => h l _ (same_upd hl) hl upd_same
theorem a_tupL {p : Addr} {ys : List V} (s : SqL K H p ys) (h : ∀ l H', Same H H' → H l = none → H' l = some (.tup ys) → Q (.ref l) H') : rTupOf K [.ref p] H Q := i_tupL s fun l hl => h l _ (same_upd hl) hl upd_same
theorem a_rep {a : Addr} {x : Int} {k : Int} (ha : H a = some (.lst [.int x])) (k0 : 0 ≤ k) (k1 : k ≤ 100000) (h : ∀ p H', Same H H' → H p = none → H' p = some (.lst ((List.replicate k.toNat x).map V.int)) → Q (.ref p) H') : rRep (.ref a) (.int k) H Q :=
  i_rep ha (by omega) (by omega) (big (by simp; omega)) fun p hp => h p _ (same_upd hp) hp (by rw [upd_same, rep_map V.int])
end
end Tm

/-! Te: what raises; tuples cut, joined, repeated -/
namespace Tm
open PySem PySem.Spec PyProof.Rows L2
/-- an exception of the class is the handler's -/
theorem exm_own {K : PySem.W.Frag} {C : Addr} (b : PySem.W.subIn K (.ref C) (.type "BaseException") = some true) (i : PySem.W.isClsIn K C = true) (t : PySem.W.typeIn K (.ref C) = some (.type "type")) (s : PySem.W.subIn K (.ref C) (.ref C) = some true) :
    PySem.W.exmOne K (.ref C) (.ref C) = some true := by
  have i' : (PySem.W.clsIn K C).isSome = true := i
  unfold PySem.W.exmOne PySem.W.kitCls
  simp [b, i', t, s]
def kCallS (sp : Sp) (E : XK) (Q : VK) : List V → Hp → Prop := fun vs H => sp vs H Q E
def rIsNotB : R2 := fun x y H Q => ∃ a b, x = .bl a ∧ y = .bl b ∧ Q (.bl (!decide (a = b))) H
theorem o_isnotB {X : Cx} : OpR X (compareOp .IsNot) rIsNotB := op_isnot_bl
section
variable {σ : St} {H : Hp} {Q : VK} {K : PySem.W.Frag} {X : Cx}
theorem i_callS {sp : Sp} {E : St → XK} {t : TA} (h : t σ H (kCall sp (E σ) Q)) : tCallS sp E t σ H Q := h
theorem i_isnotB {a b : Bool} (h : Q (.bl (!decide (a = b))) H) : rIsNotB (.bl a) (.bl b) H Q := ⟨a, b, rfl, rfl, h⟩
/-- an exception of the class c comes to the handler of c -/
theorem i_wOnly {C : Addr} {ts : Addr → Value → Option Addr → TS} {Wout : WX} {D : Ends} {d : Option Addr} (e : PySem.W.exmOne K (.ref C) (.ref C) = some true) (h : ∀ a, H a = none → ts a (.ref C) d D σ H) : wOnly K (.ref C) ts Wout D (.ref C) d σ H :=
  ⟨true, e, fun _ => h, fun q => Bool.noConfusion q⟩
theorem q_repT (z : X.K = K := by rfl) : OpR X (binaryOp .Mult) (rRepT K) := by subst z; exact op_repT
theorem q_catT (z : X.K = K := by rfl) : OpR X (binaryOp .Add) (rCatA K) := by subst z; exact op_catA
theorem a_repT {l : Addr} {x k : Int} (hT : SqT K H l [.int x]) (k0 : 2 ≤ k) (k1 : k ≤ 1000) (h : ∀ p H', Same H H' → H p = none → H' p = some (.tup ((List.replicate k.toNat x).map V.int)) → Q (.ref p) H') : rRepT K (.ref l) (.int k) H Q :=
  ⟨l, k, _, rfl, rfl, hT, by simp, k0, k1, by simp, fun p hp => h p _ (same_upd hp) hp (by rw [upd_same, rep_map V.int])⟩
theorem a_catT {l b : Addr} {xs ys : List V} (hx : SqT K H l xs) (hy : SqT K H b ys) (nx : xs ≠ []) (ny : ys ≠ []) (z : xs.length + ys.length ≤ 1000) (h : ∀ p H', Same H H' → H p = none → H' p = some (.tup (xs ++ ys)) → Q (.ref p) H') : rCatA K (.ref l) (.ref b) H Q :=
  ⟨l, b, xs, ys, rfl, rfl, hx, hy, sz z, fun e => absurd e nx, fun _ e => absurd e ny, fun _ _ p hp => h p _ (same_upd hp) hp upd_same⟩
/-- t[:k] -/
theorem a_slTT {b : Addr} {xs : List V} {k : Int} (j : Nat) (s : SqT K H b xs) (e : k = (j : Int)) (h : ∀ p H', Same H H' → SqT K H' p (xs.take j) → Q (.ref p) H') : rSlA K (.ref b) none (some k) H Q := by
  subst e
  refine ⟨b, xs, rfl, s, fun hw => ?_, fun _ p hp => ?_⟩
  · have w2 := hw.2
    rw [sIx_n] at w2
    refine h b H (Same.refl H) ?_
    rw [List.take_of_length_le (by omega)]; exact s
  · refine h p _ (same_upd hp) (SqT.of ?_)
    rw [upd_same, cut_to]
/-- an item of a list of anything is written -/
theorem a_setV {nx : St → Hp → Prop} {p : Addr} {l : List V} {k : Int} {v : V} (j : Nat) (hp : H p = some (.lst l)) (e : k = (j : Int)) (lt : j < l.length)
    (h : ∀ H', (∀ b o, b ≠ p → H b = some o → H' b = some o) → H' p = some (.lst (l.set j v)) → nx σ H') : kG2 rSetL (.ref p) v σ nx (.int k) H :=
  i_kG2 j hp e lt (h _ (fun b o n q => upd_get n q) upd_same)
end
end Tm

set_option maxHeartbeats 1000000
/-! Tk: dicts of the written part, read and walked; a part of a list written -/
namespace Tm
open PySem PySem.Spec PyProof.Rows L2
/-- what a written dict holds, pair by pair -/
structure KTab (K : PySem.W.Frag) (w : World) (d : Addr) (ps : List (Str × V)) : Prop where
  ex : ∃ (es : Array DictEntry) (n : Nat), K.lookup d = some ⟨.type "dict", none, .dict es n, #[]⟩ ∧ PySem.W.KeysLit w.params es.toList ∧
    Paired (fun (p : Str × V) (e : DictEntry) => (∃ t, e.key = .str p.1 t) ∧ RelV p.2 e.val) ps es.toList
  nd : (ps.map (·.1)).Nodup
  low : (d == sysModules) = false
  get : ∀ p ∈ ps, ∃ u, PySem.W.nsIn K d p.1 = some (some u) ∧ RelV p.2 u
theorem KTab.at_ {K : PySem.W.Frag} {w : World} {d : Addr} {ps : List (Str × V)} (T : KTab K w d ps) {x : Str} {v : V} (h : (x, v) ∈ ps) : KDct K w d x v := by
  obtain ⟨es, n, l, k, _⟩ := T.ex
  obtain ⟨u, e, r⟩ := T.get _ h
  exact ⟨es, n, u, l, k, e, r⟩
def pairsOf (ps : List (Str × V)) : List (Key × V) := ps.map fun p => (Sum.inr p.1, p.2)
theorem tab_vals {P : Program} {w : World} : ∀ {ps : List (Str × V)} {l : List DictEntry}, PySem.W.KeysLit w.params l → Paired (fun (p : Str × V) (e : DictEntry) => (∃ t, e.key = .str p.1 t) ∧ RelV p.2 e.val) ps l →
    ∃ vs : List (Key × Value), KV (pairsOf ps) vs ∧ Pairs (mixKind P w) l vs ∧ vs.map (·.1) = ps.map (fun p => Sum.inr p.1) ∧ ∀ e ∈ l, ∃ k, (mixKind P w).is k e.key = true ∧ e.hash = (mixKind P w).hash k
  | _, _, _, .nil => ⟨[], .nil, .nil, rfl, fun _ h => by cases h⟩
  | p :: ps, e :: l, hk, .cons h t => by
    obtain ⟨⟨tk, e1⟩, r⟩ := h
    obtain ⟨⟨x, t0, e2, e3⟩, hk2⟩ := hk
    obtain ⟨vs, a, b, c, dd⟩ := tab_vals hk2 t
    have ex : x = p.1 := by rw [e1] at e2; injection e2 with z _; exact z.symm
    refine ⟨(Sum.inr p.1, e.val) :: vs, .cons ⟨rfl, r⟩ a, .cons ?_ rfl b, by rw [List.map_cons, List.map_cons, c], fun q hq => ?_⟩
    · rw [e1]; exact keyIs_str p.1 tk
    · rcases List.mem_cons.mp hq with rfl | hq
      · exact ⟨Sum.inr p.1, by rw [e1]; exact keyIs_str p.1 tk, by rw [e3, ex]; rfl⟩
      · exact dd q hq
theorem KTab.dictAt {K : PySem.W.Frag} {P : Program} {w : World} {d : Addr} {ps : List (Str × V)} (T : KTab K w d ps) {h : Heap} (X : K.In h) :
    ∃ (es : Array DictEntry) (ep : Nat) (vs : List (Key × Value)), h.get? d = some ⟨.type "dict", none, .dict es ep, #[]⟩ ∧ KV (pairsOf ps) vs ∧ h.DictAt (mixKind P w) d vs ep := by
  obtain ⟨es, n, l, k, pr⟩ := T.ex
  obtain ⟨vs, a, b, c, dd⟩ := tab_vals (P := P) k pr
  refine ⟨es, n, vs, X d _ l, a, _, es, X d _ l, ⟨rfl, rfl, rfl⟩, rfl, fun e he => dd e (Array.mem_toList_iff.mpr he), b, ?_⟩
  rw [c]
  have nd := T.nd
  generalize ps = qs at nd
  induction qs with
  | nil => exact List.nodup_nil
  | cons q qs ih =>
    rw [List.map_cons, List.nodup_cons] at nd ⊢
    refine ⟨fun hm => nd.1 ?_, ih nd.2⟩
    obtain ⟨y, hy, ey⟩ := List.mem_map.mp hm
    exact List.mem_map.mpr ⟨y, hy, Sum.inr.inj ey⟩
/-- the walk: at turn i a new pair (key, value) -/
def ItK (ps : List (Str × V)) : It := ⟨fun i _ => i < ps.length, fun i H x H' => ∃ t k v, ps[i]? = some (k, v) ∧ x = .ref t ∧ H t = none ∧ H' = upd H t (.tup [.str k, v]), fun i _ => ps.length ≤ i⟩
section
variable {P : Program} {w : World} {K : PySem.W.Frag} {d : Addr} {ps : List (Str × V)}
theorem turn_tab {elts : List Expr} {kk : Nat} {tpos : Pos} (T : KTab K w d ps) (it : Addr) (ep0 : Nat) (hep : ∀ h es ep, K.In h → h.get? d = some ⟨.type "dict", none, .dict es ep, #[]⟩ → ep = ep0) :
    Turn P w K (.Tuple elts kk tpos) (ItK ps) [it] it (fun i h => ∃ x y, IsItemIter h it d i ps.length ep0 x y) where
  mem := List.mem_singleton.mpr rfl
  obj := by
    rintro i h ⟨x, y, st⟩ b hb
    obtain rfl := List.mem_singleton.mp hb
    exact ⟨_, st, fun v z => nomatch z⟩
  keep := by
    rintro i h h' ⟨x, y, st⟩ k
    exact ⟨x, y, k it (List.mem_singleton.mpr rfl) _ st⟩
  item := by
    intro X e1 e2 e3 hc i pins s σ H E I hf st hg
    subst e1 e2 e3
    have hi : i < ps.length := hg
    obtain ⟨es, ep, vs, hgd, kv, hm⟩ := T.dictAt (P := X.prog) I.kIn
    obtain rfl := hep _ _ _ I.kIn hgd
    have hkv : (pairsOf ps)[i]? = some (Sum.inr ps[i].1, ps[i].2) := by unfold pairsOf; rw [List.getElem?_map, List.getElem?_eq_getElem hi]; rfl
    obtain ⟨u, hu, ru⟩ := kv_get kv hkv
    have hl : ps.length = vs.length := by have := Paired.length kv; unfold pairsOf at this; rw [List.length_map] at this; exact this
    obtain ⟨x, y, he⟩ := st
    rw [hl] at he
    have hlt : it < s.heap.objs.size := Heap.lt_size he
    refine wpAny_pyNext_items_item he hm hu fun key g hkey go gT gz gk => ?_
    refine ⟨_, rfl, wpAny_letOwnedTupleGo_items (s := { s with heap := g }) go fun g2 he' sb => ?_⟩
    have hT2 : g2.get? s.heap.objs.size = some { cls := .type "tuple", data := .seq #[key, u] } := (sb.2 _ (Nat.ne_of_gt hlt)).trans gT
    have rk : RelV (.str ps[i].1) key := relV_key (k := Sum.inr ps[i].1) hkey
    have fresh : ObjOk X.prog X.w (upd H s.heap.objs.size (.tup [.str ps[i].1, ps[i].2])) g2 s.heap.objs.size (.tup [.str ps[i].1, ps[i].2]) := by
      refine ⟨sz (by simp), [key, u], .cons rk (.cons ru .nil), ⟨_, hT2, rfl, _, rfl⟩⟩
    have J := I.turnedNew (h' := g2) (t' := s.toks) (ch := [it]) (fun b ob hb e => (sb.2 b (fun z => hb (List.mem_singleton.mpr z))).trans (gk b ob (fun z => hb (List.mem_singleton.mpr z)) e)) hf (Nat.le_refl _) fresh
    refine ⟨.ref s.heap.objs.size, _, J, rfl, ⟨_, ps[i].1, ps[i].2, List.getElem?_eq_getElem hi, rfl, I.hok.fresh (Nat.le_refl _), rfl⟩, ⟨key, u, by rw [hl]; exact he'⟩, fun b hb => ?_⟩
    obtain rfl := List.mem_singleton.mp hb
    exact upd_free (Nat.ne_of_lt hlt) (hf b hb).1
  done := by
    intro X e1 e2 e3 hc i pins s σ H E I hf st hg
    subst e1 e2 e3
    have hi : ps.length ≤ i := hg
    obtain ⟨f0, f1, f2, f3, f4, f5⟩ := hf it (List.mem_singleton.mpr rfl)
    obtain ⟨es, ep, vs, hgd, kv, hm⟩ := T.dictAt (P := X.prog) I.kIn
    obtain rfl := hep _ _ _ I.kIn hgd
    have hl : ps.length = vs.length := by have := Paired.length kv; unfold pairsOf at this; rw [List.length_map] at this; exact this
    obtain ⟨x, y, he⟩ := st
    rw [hl] at he
    exact wpAny_pyNext_items_end (I.ok.hd hc) he hm (List.getElem?_eq_none (by omega)) fun g eb => ⟨rfl, I.turned (t' := s.toks) (fun b ob hb e => eb b ob hb e) f0 f1 f3 f4 f5⟩
  self := by
    rintro A i s Q E ⟨x, y, st⟩ h
    exact PySem.W.kcp_self st h
end
def iTab (ps : List (Str × V)) (d : Addr) (te : TE) : TI := fun σ H R => te σ H fun x H1 => x = .ref d ∧ R (ItK ps) H1
section
variable {X : Cx} {e : Expr} {te : TE} {d : Addr} {ps : List (Str × V)} {apos cpos : Pos}
theorem pi_tab {elts : List Expr} {kk : Nat} {tpos : Pos} (T : KTab X.K X.w d ps) (he : PE X e te) (hb : attributeBase e "items" X.env (eval e X.env) = eval e X.env := by rfl) (hline : (apos.endLine == cpos.line) = true := by rfl) :
    PI X (.Tuple elts kk tpos) (.Call (.Attribute e "items" apos) [] [] cpos) (iTab ps d te) := by
  refine ⟨fun pins s σ H R I h => ?_⟩
  refine wpAny_Call_method (T := "dict") (id := "dict.items") hb rfl hline F.plainAttrs_dict F.slot_dict_items F.type_dict_items ?_
  refine thn (he.run pins s σ H _ I h) fun u s1 hh => ?_
  obtain ⟨x, H1, I1, rx, ex, q⟩ := hh
  subst ex
  obtain rfl : u = Value.ref d := rx
  obtain ⟨es, ep, vs, hgd, kv, hm⟩ := T.dictAt (P := X.prog) I1.kIn
  have hep : ∀ g es' ep', X.K.In g → g.get? d = some ⟨.type "dict", none, .dict es' ep', #[]⟩ → ep' = ep := by
    intro g es' ep' kg eg
    obtain ⟨es0, n0, l0, _, _⟩ := T.ex
    have z1 := (kg d _ l0).symm.trans eg
    have z2 := (I1.kIn d _ l0).symm.trans hgd
    cases z1; cases z2; rfl
  have hl : ps.length = vs.length := by have := Paired.length kv; unfold pairsOf at this; rw [List.length_map] at this; exact this
  refine ⟨hm.dictOf.typeIs, hm.dictOf.mapOf.noDict, ?_⟩
  have I2 : Inv X pins σ H1 { s1 with heap := s1.heap.push { cls := .type "dict_items", data := .fields #[.ref d] } } := I1.kept (t' := s1.toks) fun b ob z => Heap.get?_push_of_some _ z
  have walk : wpAny (model X.prog X.w) X.A (pyIter (.ref s1.heap.objs.size)) (PIE X pins σ (.Tuple elts kk tpos) R) X.xe { s1 with heap := s1.heap.push { cls := .type "dict_items", data := .fields #[.ref d] } } := by
    refine wpAny_pyIter_items (d := d) (knd := mixKind X.prog X.w) ⟨_, Heap.get?_push_size _ rfl, rfl, rfl⟩ (hm.push _) ?_
    refine pi_one (tk := s1.toks) I2 _ (turn_tab T _ ep hep) ⟨.none, .none, ?_⟩ q
    rw [hl]
    exact Heap.get?_push_size _ rfl
  show wpAny _ _ (callWith cpos (.builtin "dict.items") [.ref d] [] []) _ X.xe s1
  refine method_meetsIn F.slot_dict_items F.entry_dict_items rfl ?_
  exact PySem.evalArgs_none ⟨rfl, hm.dictOf.typeIs, F.args_dict_items_1 _, _, meets_dict_items (mixKind X.prog X.w) d T.low, ⟨vs, hm.dictOf⟩, walk⟩
/-! ### o[lo:hi] = a list -/
def kSl3 (v x : V) (a : V) (σ : St) (nx : St → Hp → Prop) : VK := fun c H3 => ∃ l b xs ys i j, x = .ref l ∧ v = .ref b ∧ a = .int i ∧ c = .int j ∧ H3 l = some (.lst xs) ∧ H3 b = some (.lst ys) ∧ l ≠ b ∧ 0 ≤ i ∧ i ≤ j ∧ j ≤ xs.length ∧ xs.length + ys.length ≤ sizeLine ∧ nx σ (upd H3 l (.lst (xs.take i.toNat ++ ys ++ xs.drop j.toNat)))
def kSl2 (th : TE) (v x : V) (σ : St) (nx : St → Hp → Prop) : VK := fun a H2 => th σ H2 (kSl3 v x a σ nx)
def kSl1 (tl th : TE) (v : V) (σ : St) (nx : St → Hp → Prop) : VK := fun x H1 => tl σ H1 (kSl2 th v x σ nx)
def gSlc (to tl th : TE) : TG := fun v σ H nx => to σ H (kSl1 tl th v σ nx)
theorem pg_slc {o lo hi : Expr} {to tl th : TE} {pos p2 : Pos} (ho : PE X o to) (hl : PE X lo tl) (hu : PE X hi th)
    (ha : ∀ v, assign (.Subscript o (.Slice (some lo) (some hi) none p2) pos) X.env v = (holding [v] (eval o X.env) >>= fun ov => holding [v, ov] (eval (.Slice (some lo) (some hi) none p2) X.env) >>= fun iv => standAt pos >>= fun _ => holding [v, ov, iv] (setItem ov iv v) >>= fun _ => release [iv, v, ov] []) := by intro _; rfl) :
    PG X (.Subscript o (.Slice (some lo) (some hi) none p2) pos) (gSlc to tl th) := by
  refine ⟨fun pins s σ H v u Q I r h => ?_⟩
  rw [ha]
  refine wpAny_bind (wpAny_holding ?_)
  refine thn (ho.run pins s σ H _ I h) fun ov s1 hh => ?_
  obtain ⟨x, H1, I1, r1, q1⟩ := hh
  refine wpAny_bind (wpAny_holding ?_)
  refine wpAny_Slice ?_
  refine thn (hl.run pins s1 σ H1 _ I1 q1) fun vl s2 hh2 => ?_
  obtain ⟨a, H2, I2, r2, q2⟩ := hh2
  refine thn (hu.run pins s2 σ H2 _ I2 q2) fun vu s3 hh3 => ?_
  obtain ⟨c, H3, I3, r3, q3⟩ := hh3
  rw [evalPart_none]
  refine wpAny_pure ?_
  have I4 : Inv X pins σ H3 { s3 with heap := s3.heap.push { cls := .type "slice", data := .fields #[vl, vu, .none] } } := I3.kept (t' := s3.toks) fun b ob z => Heap.get?_push_of_some _ z
  obtain ⟨l, b, xs, ys, i, j, rfl, rfl, rfl, rfl, hL, hB, ne, i0, ij, jl, hz, q⟩ := q3
  obtain rfl : ov = Value.ref l := r1
  obtain rfl : u = Value.ref b := r
  refine wpAny_bind (wpAny_standAt (wpAny_bind (wpAny_holding ?_)))
  refine set_slice I4 hL hB ne (Heap.IsSliceOf.new ..) r2 r3 i0 ij jl hz fun s5 I5 => ?_
  exact wpAny_release ⟨σ, _, I5, q⟩
end
section
variable {σ : St} {H : Hp} {Q : VK} {K : PySem.W.Frag} {nx bk ct : St → Hp → Prop} {rt : VK}
theorem i_gSlc {to tl th : TE} {v : V} (h : to σ H (kSl1 tl th v σ nx)) : gSlc to tl th v σ H nx := h
theorem i_kSl1 {tl th : TE} {v x : V} (h : tl σ H (kSl2 th v x σ nx)) : kSl1 tl th v σ nx x H := h
theorem i_kSl2 {th : TE} {v x a : V} (h : th σ H (kSl3 v x a σ nx)) : kSl2 th v x σ nx a H := h
theorem a_slc {l b : Addr} {xs ys : List Int} {i j : Int} (hL : H l = some (.lst (xs.map V.int))) (hB : H b = some (.lst (ys.map V.int))) (ne : l ≠ b) (i0 : 0 ≤ i) (ij : i ≤ j) (jl : j ≤ xs.length) (z : xs.length + ys.length ≤ 100000)
    (h : ∀ H', (∀ b o, b ≠ l → H b = some o → H' b = some o) → H' l = some (.lst ((xs.take i.toNat ++ ys ++ xs.drop j.toNat).map V.int)) → nx σ H') : kSl3 (.ref b) (.ref l) (.int i) σ nx (.int j) H :=
  ⟨l, b, _, _, i, j, rfl, rfl, rfl, rfl, hL, hB, ne, i0, ij, by rw [List.length_map]; exact jl, big (by rw [List.length_map, List.length_map]; exact z), h _ (fun b o n e => upd_get n e) (by rw [upd_same, List.map_append, List.map_append, List.map_take, List.map_drop])⟩
def kTab (ps : List (Str × V)) (d : Addr) (R : It → Hp → Prop) : VK := fun x H1 => x = .ref d ∧ R (ItK ps) H1
theorem i_iTab {ps : List (Str × V)} {d : Addr} {te : TE} {R : It → Hp → Prop} (h : te σ H (kTab ps d R)) : iTab ps d te σ H R := h
theorem i_kTab {ps : List (Str × V)} {d : Addr} {R : It → Hp → Prop} (h : R (ItK ps) H) : kTab ps d R (.ref d) H := ⟨rfl, h⟩
theorem i_forK {ps : List (Str × V)} {g : TG} {tb : TS} (Pv : Nat → St → Hp → Prop) (h0 : Pv 0 σ H)
    (hs : ∀ i k v t σ H, ps[i]? = some (k, v) → Pv i σ H → H t = none → g (.ref t) σ (upd H t (.tup [.str k, v])) (kBody tb ⟨Pv (i + 1), rt, nx, Pv (i + 1)⟩)) (hd : ∀ σ H, Pv ps.length σ H → nx σ H) : kFor g tb ⟨nx, rt, bk, ct⟩ σ (ItK ps) H := by
  refine ⟨fun i m σ H => m = ps.length - i ∧ i ≤ ps.length ∧ Pv i σ H, ⟨ps.length, rfl, Nat.zero_le _, h0⟩, ?_⟩
  rintro i m σ H ⟨rfl, hi, p⟩
  by_cases hlt : i < ps.length
  · refine .inr ⟨hlt, Pv (i + 1), fun σ' H' p' => ⟨ps.length - (i + 1), by omega, rfl, hlt, p'⟩, ?_⟩
    rintro x H' ⟨t, k, v, e, rfl, nt, rfl⟩
    exact hs i k v t σ H e p nt
  · obtain rfl : i = ps.length := by omega
    exact .inl ⟨Nat.le_refl _, hd σ H p⟩
def rKD (K : PySem.W.Frag) (w : World) : R2 := rIxD K w
theorem q_kd {X : Cx} {w : World} (z : X.K = K := by rfl) (zw : X.w = w := by rfl) : IxR X (rKD K w) := by subst z; subst zw; exact ix_kdict
theorem i_kd {w : World} {p : Addr} {x : Str} {v : V} (D : KDct K w p x v) (h : Q v H) : rKD K w (.ref p) (.str x) H Q := ⟨p, x, v, rfl, rfl, D, h⟩
end
end Tm

/-! Tp: pages, written and read -/
namespace Tm
open PySem PySem.Spec PyProof.Rows L2
/-! the two sums -/
def wsum (m : Int) : List Int → Int
  | [] => 0
  | x :: r => x * m + wsum (m - 1) r
theorem wsum_up (l : List Int) : ∀ m : Int, wsum (m + 1) l = wsum m l + l.sum := by
  induction l with
  | nil => intro m; rfl
  | cons x r ih =>
    intro m
    have e : m + 1 - 1 = (m - 1) + 1 := by omega
    rw [wsum, e, ih (m - 1), wsum, List.sum_cons, Int.mul_add]
    omega
theorem wsum_snoc (l : List Int) (z : Int) : ∀ m : Int, wsum m (l ++ [z]) = wsum m l + z * (m - l.length) := by
  induction l with
  | nil => intro m; simp [wsum]
  | cons x r ih =>
    intro m
    rw [List.cons_append, wsum, ih, wsum, List.length_cons]
    have e : m - 1 - (r.length : Int) = m - ((r.length + 1 : Nat) : Int) := by omega
    rw [e]; omega
theorem take_succ_get {l : List Int} {i : Nat} {z : Int} (h : l[i]? = some z) : l.take (i + 1) = l.take i ++ [z] := by rw [List.take_add_one, h]; rfl
theorem sum_step {l : List Int} {i : Nat} {z : Int} (h : l[i]? = some z) : (l.take (i + 1)).sum = (l.take i).sum + z := by rw [take_succ_get h, List.sum_append]; simp
theorem sec_step {l : List Int} {i : Nat} {z : Int} (hi : i < l.length) (h : l[i]? = some z) : wsum ((i + 1 : Nat) : Int) (l.take (i + 1)) = wsum (i : Int) (l.take i) + ((l.take i).sum + z) := by
  have e : (((i + 1 : Nat) : Int)) = (i : Int) + 1 := by omega
  rw [take_succ_get h, wsum_snoc, e, wsum_up, List.length_take, Nat.min_eq_left (by omega)]
  have e2 : ((i : Int) + 1 - (i : Int)) = 1 := by omega
  rw [e2, Int.mul_one]; omega
def osOf (pg : List Int) : List Int := pg.getD 0 0 :: pg.drop 5
theorem osOf_len {pg : List Int} (h : pg.length = 512) : (osOf pg).length = 508 := by unfold osOf; rw [List.length_cons, List.length_drop, h]
def sum1 (pg : List Int) : Int := (osOf pg).sum % 65521
def sum2 (pg : List Int) : Int := wsum 508 (osOf pg) % 65521
/-! a page written -/
def ckind : Cont → Int
  | .root .. => 1
  | .item .. => 2
  | .node .. => 3
  | .mark _ => 4
def nmOf : Cont → Str
  | .root .. => "root"
  | .item .. => "item"
  | .node .. => "node"
  | .mark _ => "mark"
def padOf (c : Cont) : List Int := ([ckind c, 0, 0, 0, 0] ++ body c) ++ List.replicate (512 - (5 + (body c).length)) 0
def sumsRow (pg : List Int) : List Int := rowOf 2 (sum1 pg) ++ rowOf 2 (sum2 pg)
def fixP (pg : List Int) : List Int := pg.take 1 ++ sumsRow pg ++ pg.drop 5
def pageOf (c : Cont) : List Int := fixP (padOf c)
theorem sumsRow_len (pg : List Int) : (sumsRow pg).length = 4 := by unfold sumsRow; rw [List.length_append, rowOf_len, rowOf_len]
theorem c_nm {K : PySem.W.Frag} {H : Hp} {v : V} {c : Cont} (h : Dp K H v (dC c)) : ∃ p xs, v = .ref p ∧ SqT K H p (.str (nmOf c) :: xs) := by
  cases c with
  | mark n => obtain ⟨p, rfl, hs⟩ := c_mark h; exact ⟨p, _, rfl, hs⟩
  | node lv ch => obtain ⟨p, c, xs, rfl, hs, _⟩ := c_node h; exact ⟨p, _, rfl, hs⟩
  | item ep ix la key val => obtain ⟨p, u, rfl, hs, _⟩ := c_item h; exact ⟨p, _, rfl, hs⟩
  | root n ep tr jr pl er bd => obtain ⟨p, t, j, q, e, d, rfl, hs, _⟩ := c_root h; exact ⟨p, _, rfl, hs⟩
theorem bAd_len' (q : Option (Int × Int)) : (bAd q).length = 2 := by cases q <;> rfl
theorem flat_len' {α : Type} (f : α → List Int) (k : Nat) (h : ∀ x, (f x).length = k) : ∀ l : List α, (l.flatMap f).length = l.length * k
  | [] => by simp
  | x :: r => by rw [List.flatMap_cons, List.length_append, h, flat_len' f k h r, List.length_cons, Nat.succ_mul]; omega
/-- a content that fits leaves room -/
theorem body_len {c : Cont} (h : fC c = true) : (body c).length ≤ 507 := by
  cases c with
  | mark n => simp [body, rowOf_len]
  | node lv ch =>
    simp only [fC, Bool.and_eq_true, decide_eq_true_eq] at h
    simp only [body, List.length_cons, flat_len' bAd 2 bAd_len', h.2.1]
    omega
  | item ep ix la key val =>
    simp only [fC, Bool.and_eq_true] at h
    cases val with
    | none => simp [body, bVal, rowOf_len]
    | some l =>
      simp only [fVal, Bool.and_eq_true, decide_eq_true_eq] at h
      simp only [body, bVal, List.length_append, List.length_cons, List.length_nil, rowOf_len]
      omega
  | root n ep tr jr pl er bd =>
    simp only [fC, Bool.and_eq_true, Bool.not_eq_true', Bool.or_eq_false_iff, decide_eq_false_iff_not] at h
    obtain ⟨⟨a1, a2, a3, a4⟩, _⟩ := h
    simp only [body, List.length_append, List.length_cons, List.length_nil, rowOf_len, bAd_len', List.length_map, flat_len' (rowOf 4) 4 (rowOf_len 4)]
    omega
theorem padOf_len {c : Cont} (h : fC c = true) : (padOf c).length = 512 := by
  have := body_len h
  unfold padOf
  simp only [List.length_append, List.length_cons, List.length_nil, List.length_replicate]
  omega
theorem fixP_len {pg : List Int} (h : pg.length = 512) : (fixP pg).length = 512 := by
  unfold fixP
  rw [List.length_append, List.length_append, sumsRow_len, List.length_take, List.length_drop, h]
  omega
theorem pageOf_len {c : Cont} (h : fC c = true) : (pageOf c).length = 512 := fixP_len (padOf_len h)
/-! a body read -/
def tRow (o : List Int) (p n : Nat) : List Int := (o.drop p).take n
def tNum (o : List Int) (p n : Nat) : Int := numOf (tRow o p n)
def tNums (o : List Int) (p w : Nat) : List Int := (List.range (tNum o p 1).toNat).map fun i => tNum o (p + 1 + i * w) w
def eNums (o : List Int) (p w : Nat) : Nat := p + 1 + (tNum o p 1).toNat * w
def tAdr (o : List Int) (p : Nat) : Option (Int × Int) := if tNum o p 1 = 255 ∧ tNum o (p + 1) 1 = 255 then none else some (tNum o p 1, tNum o (p + 1) 1)
def tVal (o : List Int) (p : Nat) : Option (List Int) := if tNum o p 1 = 0 then none else some (tRow o (p + 3) (tNum o (p + 1) 2).toNat)
def unPl (z : Int) : Option Int := if z = 255 then none else some z
def rdRoot (o : List Int) : Cont :=
  .root (tNum o 0 4) (tNum o 4 4) (tAdr o 8) (tNums o 10 1) ((tNums o (eNums o 10 1) 1).map unPl) (tNums o (eNums o (eNums o 10 1) 1) 4) (tNums o (eNums o (eNums o (eNums o 10 1) 1) 4) 1)
def rdItem (o : List Int) : Cont := .item (tNum o 0 4) (tNum o 4 4) (decide (tNum o 8 1 = 1)) (tNum o 9 4) (tVal o 13)
def rdNode (o : List Int) : Cont := .node (tNum o 0 1) ((List.range 32).map fun i => tAdr o (1 + i * 2))
def rdMark (o : List Int) : Cont := .mark (tNum o 0 4)
/-- what the kind's word says -/
def rdC (k : Str) (o : List Int) : Cont := if k = "root" then rdRoot o else if k = "item" then rdItem o else if k = "node" then rdNode o else rdMark o
def toldC (pg : List Int) : Option Cont :=
  if pg.getD 0 0 = 1 then some (rdRoot (pg.drop 5)) else if pg.getD 0 0 = 2 then some (rdItem (pg.drop 5)) else if pg.getD 0 0 = 3 then some (rdNode (pg.drop 5)) else if pg.getD 0 0 = 4 then some (rdMark (pg.drop 5)) else none
def isRight (pg : List Int) (c : Cont) : Bool := fC c && decide (pageOf c = pg)
def readD (pg : List Int) : PyData :=
  if pg = List.replicate 512 255 then .tuple [.str "blank"] else
    match toldC pg with
    | none => .tuple [.str "damaged"]
    | some c => if isRight pg c then .tuple [.str "right", dC c] else .tuple [.str "damaged"]
/-! octets -/
def Oct (l : List Int) : Prop := ∀ z ∈ l, 0 ≤ z ∧ z < 256
theorem oct_row {o : List Int} (h : Oct o) (p n : Nat) : Oct (tRow o p n) := fun z hz => h z (List.mem_of_mem_drop (List.mem_of_mem_take hz))
theorem tRow_len (o : List Int) (p n : Nat) : (tRow o p n).length ≤ n ∧ (tRow o p n).length ≤ o.length := by unfold tRow; rw [List.length_take, List.length_drop]; omega
theorem numOf_bd : ∀ {l : List Int}, Oct l → 0 ≤ numOf l ∧ numOf l < 256 ^ l.length
  | [], _ => by simp [numOf]
  | x :: r, h => by
    have hx := h x List.mem_cons_self
    have hr := numOf_bd (l := r) fun z hz => h z (List.mem_cons_of_mem _ hz)
    rw [numOf_cons, List.length_cons, Int.pow_succ]
    have hp : (0 : Int) < 256 ^ r.length := Int.pow_pos (by decide)
    have h1 : 0 ≤ x * 256 ^ r.length := Int.mul_nonneg hx.1 (Int.le_of_lt hp)
    have h2 : x * 256 ^ r.length ≤ 255 * 256 ^ r.length := Int.mul_le_mul_of_nonneg_right (by omega) (Int.le_of_lt hp)
    omega
theorem tNum_bd {o : List Int} (h : Oct o) (p n : Nat) : 0 ≤ tNum o p n ∧ tNum o p n < 256 ^ n := by
  have b := numOf_bd (oct_row h p n)
  have l := (tRow_len o p n).1
  refine ⟨b.1, Int.lt_of_lt_of_le b.2 ?_⟩
  have e : (256 : Int) ^ n = 256 ^ (tRow o p n).length * 256 ^ (n - (tRow o p n).length) := by rw [← Int.pow_add]; congr 1; omega
  rw [e]
  have h1 : (0 : Int) < 256 ^ (tRow o p n).length := Int.pow_pos (by decide)
  have h2 : (0 : Int) < 256 ^ (n - (tRow o p n).length) := Int.pow_pos (by decide)
  have h3 := Int.mul_le_mul_of_nonneg_left (show (1 : Int) ≤ 256 ^ (n - (tRow o p n).length) by omega) (Int.le_of_lt h1)
  omega
theorem tNum1 {o : List Int} (h : Oct o) (p : Nat) : 0 ≤ tNum o p 1 ∧ tNum o p 1 < 256 := tNum_bd h p 1
theorem tNum2 {o : List Int} (h : Oct o) (p : Nat) : 0 ≤ tNum o p 2 ∧ tNum o p 2 < 65536 := tNum_bd h p 2
/-! fields -/
theorem pf1 {p l : V} : putF "_position" p [(("_octets" : Str), l)] = ([("_octets", l), ("_position", p)] : List (Str × V)) := by
  have e : ¬ (("_octets" : Str) = "_position") := by decide +kernel
  show (if ("_octets" : Str) = "_position" then _ else (("_octets" : Str), l) :: [(("_position" : Str), p)]) = ([("_octets", l), ("_position", p)] : List (Str × V))
  rw [if_neg e]
theorem pf2 {p q l : V} : putF "_position" q ([("_octets", l), ("_position", p)] : List (Str × V)) = ([("_octets", l), ("_position", q)] : List (Str × V)) := by
  have e : ¬ (("_octets" : Str) = "_position") := by decide +kernel
  show (if ("_octets" : Str) = "_position" then _ else (("_octets" : Str), l) :: (if ("_position" : Str) = "_position" then [(("_position" : Str), q)] else _)) = ([("_octets", l), ("_position", q)] : List (Str × V))
  rw [if_neg e, if_pos rfl]
theorem lf1 {p l : V} : List.lookup ("_octets" : Str) [(("_octets" : Str), l), (("_position" : Str), p)] = some l := by simp [List.lookup]
theorem lf2 {p l : V} : List.lookup ("_position" : Str) [(("_octets" : Str), l), (("_position" : Str), p)] = some p := by
  have e : (("_position" : Str) == "_octets") = false := by decide +kernel
  simp [List.lookup, e]
theorem lf_none {p l : V} {m : Str} (h1 : (m == ("_octets" : Str)) = false) (h2 : (m == ("_position" : Str)) = false) : List.lookup m [(("_octets" : Str), l), (("_position" : Str), p)] = none := by simp [List.lookup, h1, h2]
/-- a reader at r, of the octets o, at the place p -/
structure RdAt (C : Addr) (H : Hp) (r l : Addr) (o : List Int) (p : Nat) : Prop where
  ex : ∃ dx, H r = some (.ins C dx [("_octets", .ref l), ("_position", .int p)]) ∧ H l = some (.lst (o.map V.int))
def Keep (r : Addr) (H H' : Hp) : Prop := ∀ b u, b ≠ r → H b = some u → H' b = some u
theorem Keep.refl (r : Addr) (H : Hp) : Keep r H H := fun _ _ _ h => h
theorem Keep.trans {r : Addr} {H H1 H2 : Hp} (a : Keep r H H1) (b : Keep r H1 H2) : Keep r H H2 := fun c u n h => b c u n (a c u n h)
theorem Keep.of {r : Addr} {H H' : Hp} (s : Same H H') : Keep r H H' := fun b u _ h => s b u h
theorem keep_same {r : Addr} {H0 H H' : Hp} (n : H0 r = none) (s : Same H0 H) (k : Keep r H H') : Same H0 H' := fun b u h => k b u (ne_of_none h n) (s b u h)
theorem keep_free {r p : Addr} {H H' : Hp} (k : Keep r H H') (ne : p ≠ r) (h : H' p = none) : H p = none := by
  cases e : H p with
  | none => rfl
  | some u => rw [k p u ne e] at h; cases h
theorem rdAt_same {C : Addr} {H H' : Hp} {r l : Addr} {o : List Int} {p : Nat} (s : Same H H') (h : RdAt C H r l o p) : RdAt C H' r l o p := by
  obtain ⟨dx, h1, h2⟩ := h.ex
  exact ⟨dx, s _ _ h1, s _ _ h2⟩
theorem rdAt_ne {C : Addr} {H : Hp} {r l q : Addr} {o : List Int} {p : Nat} (h : RdAt C H r l o p) (n : H q = none) : q ≠ r := by
  obtain ⟨dx, h1, h2⟩ := h.ex
  exact (ne_of_none h1 n).symm
theorem rdAt_nl {C : Addr} {H : Hp} {r l q : Addr} {o : List Int} {p : Nat} (h : RdAt C H r l o p) (n : H q = none) : l ≠ q := by
  obtain ⟨dx, h1, h2⟩ := h.ex
  exact ne_of_none h2 n
/-! data and readers -/
section
variable {K : PySem.W.Frag} {H H' : Hp} {r C dx : Addr} {fs : List (Str × V)}
theorem sqT_keep (k : Keep r H H') (hr : H r = some (.ins C dx fs)) {a : Addr} {xs : List V} (h : SqT K H a xs) : SqT K H' a xs := by
  rcases h with (h | ⟨u, h⟩) | h
  · exact .inl (.inl (k a _ (ne_of h hr (by intro e; cases e)) h))
  · exact .inl (.inr ⟨u, k a _ (ne_of h hr (by intro e; cases e)) h⟩)
  · exact .inr h
theorem sqL_keep (k : Keep r H H') (hr : H r = some (.ins C dx fs)) {a : Addr} {xs : List V} (h : SqL K H a xs) : SqL K H' a xs := by
  rcases h with (h | ⟨u, h⟩) | h
  · exact .inl (.inl (k a _ (ne_of h hr (by intro e; cases e)) h))
  · exact .inl (.inr ⟨u, k a _ (ne_of h hr (by intro e; cases e)) h⟩)
  · exact .inr h
mutual
theorem dp_keep (k : Keep r H H') (hr : H r = some (.ins C dx fs)) : ∀ (d : PyData) (v : V), Dp K H v d → Dp K H' v d
  | .none, _, h => by cases h; exact .non
  | .bool b, _, h => by cases h; exact .bl b
  | .int i, _, h => by cases h; exact .int i
  | .str x, _, h => by cases h; exact .str x
  | .list ds, _, h => by
    cases h with
    | lst hs ha => exact .lst (sqL_keep k hr hs) (dpAll_keep k hr ds _ ha)
  | .tuple ds, _, h => by
    cases h with
    | tup hs ha => exact .tup (sqT_keep k hr hs) (dpAll_keep k hr ds _ ha)
  | .dict _, _, h => by cases h
theorem dpAll_keep (k : Keep r H H') (hr : H r = some (.ins C dx fs)) : ∀ (ds : List PyData) (vs : List V), DpAll K H vs ds → DpAll K H' vs ds
  | [], _, h => by cases h; exact .nil
  | d :: ds, _, h => by
    cases h with
    | cons h1 h2 => exact .cons (dp_keep k hr d _ h1) (dpAll_keep k hr ds _ h2)
end
end
theorem unPl_v (z : Int) : (if z = 255 then V.non else V.int z) = vPl (unPl z) := by
  unfold unPl
  by_cases h : z = 255
  · rw [if_pos h, if_pos h]; rfl
  · rw [if_neg h, if_neg h]; rfl
theorem tNums_len {o : List Int} (h : Oct o) (p w : Nat) : (tNums o p w).length ≤ 255 := by
  have := tNum1 h p
  unfold tNums
  rw [List.length_map, List.length_range]
  omega
theorem oct_drop {pg : List Int} (h : Oct pg) (k : Nat) : Oct (pg.drop k) := fun z hz => h z (List.mem_of_mem_drop hz)
end Tm

/-! Tf: fields by their names; texts put together; a class whose making may raise -/
namespace Tm
open PySem PySem.Spec PyProof.Rows L2
theorem putF_new {f : Str} {v : V} : ∀ (fs : List (Str × V)) (ks : List Str), fs.map (·.1) = ks → ks.contains f = false → putF f v fs = fs ++ [(f, v)]
  | [], _, _, _ => rfl
  | (g, x) :: r, ks, hk, hn => by
    subst hk
    rw [List.map_cons, List.contains_cons, Bool.or_eq_false_iff] at hn
    have ne : ¬ g = f := fun e => by
      have := hn.1
      rw [e] at this
      simp at this
    show (if g = f then _ else (g, x) :: putF f v r) = _
    rw [if_neg ne, putF_new r _ rfl hn.2]; rfl
theorem lookup_at {f : Str} {v : V} : ∀ (fs : List (Str × V)) (ks : List Str) (i : Nat), fs.map (·.1) = ks → (ks.take i).contains f = false → fs[i]? = some (f, v) → List.lookup f fs = some v
  | [], _, i, _, _, h => by simp at h
  | (g, x) :: r, ks, 0, _, _, h => by
    cases Option.some.inj h
    simp [List.lookup]
  | (g, x) :: r, ks, i + 1, hk, hn, h => by
    subst hk
    rw [List.map_cons, List.take_succ_cons, List.contains_cons, Bool.or_eq_false_iff] at hn
    have e : (f == g) = false := hn.1
    rw [List.lookup_cons, e]
    exact lookup_at r _ i rfl hn.2 (by simpa using h)
theorem lookup_no {f : Str} : ∀ (fs : List (Str × V)) (ks : List Str), fs.map (·.1) = ks → ks.contains f = false → List.lookup f fs = none
  | [], _, _, _ => rfl
  | (g, x) :: r, ks, hk, hn => by
    subst hk
    rw [List.map_cons, List.contains_cons, Bool.or_eq_false_iff] at hn
    rw [List.lookup_cons, hn.1]
    exact lookup_no r _ rfl hn.2
/-! a class whose making may raise -/
def tMakeS (C : Addr) (sp : Sp) (E : St → XK) (t : TA) : TE := fun σ H Q => t σ H fun vs H1 => ∀ x dx, H1 x = none → H1 dx = none → dx ≠ x →
  sp (.ref x :: vs) (upd (upd H1 dx (.own x)) x (.ins C dx [])) (fun v H2 => v = .non ∧ Q (.ref x) H2) (E σ)
section
variable {X : Cx} {CX : CXT} {k : Nat} {f C : Addr} {fd : FuncData} {ps : List Str} {sp : Sp} {E : St → XK} {x : Str} {p pos : Pos} {e : Expr} {es : List Expr} {t : TA}
theorem made_runs {pins : List (Addr × Obj)} {σ : St} {H : Hp} {s : Shared} {Q : VK} {us : List Value} {vs : List V} (M : Mk X.K C f) (F : FnOk X.prog X.w X.K X.mg X.base CX k f fd ps sp) (hr : Room (k + 1) X.A) (hb : Binds X.K fd ps [])
    (hx : PassesAt CX X σ (E σ)) (I : Inv X pins σ H s) (r : Vals vs us)
    (h : ∀ x dx, H x = none → H dx = none → dx ≠ x → sp (.ref x :: vs) (upd (upd H dx (.own x)) x (.ins C dx [])) (fun v H2 => v = .non ∧ Q (.ref x) H2) (E σ)) :
    wpAny (model X.prog X.w) X.A (call (.ref C) us) (EP X pins σ Q) X.xe s := by
  have room := I.hok
  have I2 := Inv.made (C := C) I
  have go := h _ _ (room.fresh (Nat.le_succ _)) (room.fresh (Nat.le_refl _)) (Nat.ne_of_lt (Nat.lt_succ_self _))
  have vals : Vals (V.ref (s.heap.objs.size + 1) :: vs) (Value.ref (s.heap.objs.size + 1) :: us) := .cons rfl r
  have len := vals.length
  rw [F.len _ _ _ _ go] at len
  have bnd := hb _ (Value.ref (s.heap.objs.size + 1) :: us) I2.kIn (by rw [List.append_nil]; exact len.symm)
  rw [List.append_nil] at bnd
  refine wpAny_call (make_map I.kIn M.makes M.init (beq_iff_eq.mp M.fn) (codeAny_mono (F.run _ _ _ _ _ _ _ _ _ (hr.make C us []) (I2.env0.make C us []) bnd vals go) fun res s' out => ?_))
  cases res with
  | error u => exact hx pins _ _ u s' I2 out
  | ok fl =>
    cases fl with
    | ret u =>
      obtain ⟨v, H', I3, rv, ev, q3⟩ := I2.after out
      cases ev
      exact ⟨rv, ⟨V.ref (s.heap.objs.size + 1), H', I3, rfl, q3⟩⟩
    | next => cases out
    | brk => cases out
    | cont => cases out
theorem pe_makeS (M : Mk X.K C f) (F : FnOk X.prog X.w X.K X.mg X.base CX k f fd ps sp) (hr : Room (k + 1) X.A) (hg : Gl X x) (hm : X.mg x = some (.ref C)) (hb : Binds X.K fd ps []) (hx : ∀ σ, PassesAt CX X σ (E σ)) (ha : PA X (e :: es) t)
    (hdb : (x == ("__debug__" : Str)) = false := by decide) (he : starEach (e :: es) X.env = (false, eval e X.env) :: starEach es X.env := by rfl) (hpl : (backTo pos (starEach es X.env)).any (·.1) = false := by rfl) :
    PE X (.Call (.Name x p) (e :: es) [] pos) (tMakeS C sp E t) :=
  ⟨fun pins s σ H Q I h => wpAny_Call_Name_kw (ld_glob I hg hm (PySem.W.callWith_K (h₀ := X.base) I.ok.mod.kin M.kp (thn (ha.run pos pins s σ H _ I h) fun us s1 ⟨vs, H1, I1, r, q⟩ => ⟨I1.kIn, made_runs M F hr hb (hx σ) I1 r q⟩) he hpl) hdb)⟩
end
def kMkS (C : Addr) (sp : Sp) (E : XK) (Q : VK) : List V → Hp → Prop := fun vs H1 => ∀ x dx, H1 x = none → H1 dx = none → dx ≠ x →
  sp (.ref x :: vs) (upd (upd H1 dx (.own x)) x (.ins C dx [])) (fun v H2 => v = .non ∧ Q (.ref x) H2) E
section
variable {σ : St} {H : Hp} {Q : VK} {K : PySem.W.Frag}
theorem i_makeS {C : Addr} {sp : Sp} {E : St → XK} {t : TA} (h : t σ H (kMkS C sp (E σ) Q)) : tMakeS C sp E t σ H Q := h
/-! texts put together -/
theorem i_jsS {s acc : Str} {ts : List TE} {Q : Str → Hp → Prop} (z : (acc ++ s).length ≤ sizeLine) (h : tJs ts (acc ++ s) σ H Q) : tJs (tC (.str s) :: ts) acc σ H Q := ⟨s, rfl, z, h⟩
theorem i_jsI {i : Nat} {n : Int} {acc : Str} {ts : List TE} {Q : Str → Hp → Prop} (e : σ[i]? = some (some (.int n))) (l : n.natAbs.log2 < 1920) (z : (acc ++ (toString n : Str)).length ≤ sizeLine) (h : tJs ts (acc ++ (toString n : Str)) σ H Q) : tJs (tFmt (tVar i) :: ts) acc σ H Q :=
  ⟨_, e, .inr ⟨n, rfl, l, _, rfl, z, h⟩⟩
theorem i_jsN {acc : Str} {Q : Str → Hp → Prop} (h : Q acc H) : tJs [] acc σ H Q := h
theorem str_small : ∀ n : Fin 64, (toString ((n.val : Nat) : Int) : Str).length ≤ 20 := by decide +kernel
theorem str_sm {n : Int} (h0 : 0 ≤ n) (h1 : n < 64) : (toString n : Str).length ≤ 20 := by
  obtain ⟨k, rfl⟩ : ∃ k : Nat, n = (k : Int) := ⟨n.toNat, by omega⟩
  exact str_small ⟨k, by omega⟩
end
section
variable {σ : St} {H : Hp} {Q : VK} {K : PySem.W.Frag} {nx : St → Hp → Prop}
theorem a_kSF2 {f : Str} {y : V} {a C dx : Addr} {fs : List (Str × V)} (hp : H a = some (.ins C dx fs)) (c : Cls K C) (n : NoAttr K C f) (l : fs.length < 1000) (h : ∀ H', Keep a H H' → H' a = some (.ins C dx (putF f y fs)) → nx σ H') : kSF2 K f y σ nx (.ref a) H :=
  i_kSF2 hp c n l (h _ (fun b u nb e => upd_get nb e) upd_same)
end
section
variable {H : Hp} {Q : VK} {K : PySem.W.Frag}
theorem i_neTT {p q : Addr} {ns ms : List Int} (a : SqT K H p (ns.map V.int)) (b : SqT K H q (ms.map V.int)) (h : Q (.bl (!decide (ns = ms))) H) : rNeD K (.ref p) (.ref q) H Q :=
  i_neD (dp_tints a) (dp_tints b) (shaped_tints ns) (shaped_tints ms) (by rw [eqv_tints]; exact h)
theorem shaped_wd (x : Str) (h : PyData.strOk x = true) : SeqAt.shaped (.tuple [.str x]) = true := shaped_of (by simp [PyData.canLay0, PyData.canLayAll0, h]) (by simp [PyData.depth, PyData.depthAll])
/-- the same word on both sides of != -/
theorem i_neWd {p q : Addr} {x : Str} (h0 : PyData.strOk x = true) (a : SqT K H p [.str x]) (b : SqT K H q [.str x]) (h : Q (.bl false) H) : rNeD K (.ref p) (.ref q) H Q :=
  i_neD (.tup a (.cons (.str _) .nil)) (.tup b (.cons (.str _) .nil)) (shaped_wd x h0) (shaped_wd x h0) (by rw [show PyData.eqv (.tuple [.str x]) (.tuple [.str x]) = true by simp [PyData.eqv, PyData.eqvAll]]; exact h)
end
end Tm

/-! Tg: membership in a written dict; a method that may raise; lists of texts and of truth values compared; fields replaced -/
namespace Tm
open PySem PySem.Spec PyProof.Rows L2
/-! x in D, x not in D, D written out -/
def rTabIn (d : Addr) (ps : List (Str × V)) (neg : Bool) : R2 := fun x y H Q => ∃ z, x = .str z ∧ y = .ref d ∧ Q (.bl (neg ^^ (ps.map (·.1)).contains z)) H
theorem val_pairs (z : Str) : ∀ ps : List (Str × V), (valV (pairsOf ps) (Sum.inr z)).isSome = (ps.map (·.1)).contains z
  | [] => rfl
  | p :: r => by
    have e : pairsOf (p :: r) = (Sum.inr p.1, p.2) :: pairsOf r := rfl
    rw [e, List.map_cons, List.contains_cons]
    by_cases h : p.1 = z
    · rw [valV_pos (by simp [h])]
      simp [h]
    · rw [valV_neg (by simp [h]), val_pairs z r]
      have h' : (z == p.1) = false := by simpa using fun e => h e.symm
      rw [h', Bool.false_or]
section
variable {X : Cx} {d : Addr} {ps : List (Str × V)}
theorem op_inTab (T : KTab X.K X.w d ps) : OpR X (compareOp .In) (rTabIn d ps false) := by
  intro pins s σ H x y v u Q I rx ry h
  obtain ⟨z, rfl, rfl, q⟩ := h
  obtain rfl : u = Value.ref d := ry
  obtain ⟨es, ep, vs, _, kv, hm⟩ := T.dictAt (P := X.prog) I.kIn
  refine wpAny_in_of (kV_is (k := Sum.inr z) rx) T.low hm.dictOf.mapOf ?_
  rw [← (KV.val kv (Sum.inr z)).isSome_eq, val_pairs]
  rw [Bool.false_xor] at q
  exact ⟨.bl _, H, I.tok _, rfl, q⟩
theorem op_notInTab (T : KTab X.K X.w d ps) : OpR X (compareOp .NotIn) (rTabIn d ps true) := by
  intro pins s σ H x y v u Q I rx ry h
  obtain ⟨z, rfl, rfl, q⟩ := h
  obtain rfl : u = Value.ref d := ry
  obtain ⟨es, ep, vs, _, kv, hm⟩ := T.dictAt (P := X.prog) I.kIn
  refine wpAny_notIn_of (kV_is (k := Sum.inr z) rx) T.low hm.dictOf.mapOf ?_
  rw [← (KV.val kv (Sum.inr z)).isSome_eq, val_pairs]
  rw [Bool.true_xor] at q
  exact ⟨.bl _, H, I.tok _, rfl, q⟩
end
section
variable {H : Hp} {Q : VK} {d : Addr} {ps : List (Str × V)} {neg : Bool}
theorem i_tabIn {z : Str} (h : Q (.bl (neg ^^ (ps.map (·.1)).contains z)) H) : rTabIn d ps neg (.str z) (.ref d) H Q := ⟨z, rfl, rfl, h⟩
end
/-! a method that may raise -/
def kM2E (sp : Sp) (x : V) (E : XK) (Q : VK) : List V → Hp → Prop := fun vs H2 => sp (x :: vs) H2 Q E
def kM1E (m : Str) (C : Addr) (sp : Sp) (E : XK) (t : TA) (σ : St) (Q : VK) : VK := fun x H1 => ∃ a dx fs, x = .ref a ∧ H1 a = some (.ins C dx fs) ∧ fs.lookup m = none ∧ t σ H1 (kM2E sp x E Q)
def tMethE (C : Addr) (m : Str) (sp : Sp) (E : St → XK) (ta : TE) (t : TA) : TE := fun σ H Q => ta σ H (kM1E m C sp (E σ) t σ Q)
section
variable {X : Cx} {CX : CXT} {k : Nat} {f C : Addr} {fd : FuncData} {ps : List Str} {sp : Sp} {E : St → XK} {m : Str} {apos pos : Pos} {e o : Expr} {es : List Expr} {ta : TE} {t : TA}
theorem pe_methE {pl : Sem Bool} (ho : PE X o ta) (c : Cls X.K C) (hm : Meth X.K C m f) (F : FnOk X.prog X.w X.K X.mg X.base CX k f fd ps sp) (hr : Room k X.A) (hb : Binds X.K fd ps []) (hx : ∀ σ, PassesAt CX X σ (E σ)) (ha : PA X (e :: es) t)
    (hst : starEach (e :: es) X.env = (false, eval e X.env) :: starEach es X.env := by rfl) (hpl : (backTo pos (starEach es X.env)).any (·.1) = false := by rfl)
    (ht : eval (.Call (.Attribute o m apos) (e :: es) [] pos) X.env = (do
      let ov ← eval o X.env
      standAt apos.atName
      let (f, first) ← holding [ov] (getMethod ov m pl)
      callWith pos f first (backTo pos (starEach (e :: es) X.env)) (backToKw pos (keywordEach [] X.env))) := by rfl) :
    PE X (.Call (.Attribute o m apos) (e :: es) [] pos) (tMethE C m sp E ta t) := by
  constructor
  intro pins s σ H Q I h
  apply PySem.W.methodCall_KW (pl := pl) _ ht
  refine thn (ho.run pins s σ H _ I h) fun u s1 hh => ?_
  obtain ⟨x, H1, I1, rx, a, dx, fs, ex, ea, l, q⟩ := hh
  subst ex
  obtain rfl : u = Value.ref a := rx
  refine getmeth_ok I1 ea c hm l (PySem.W.callWith_K (first := [.ref a]) (h₀ := X.base) I.ok.mod.kin hm.kp (thn (ha.run pos pins s1 σ H1 _ I1 q) fun us s2 hh2 => ?_) hst hpl)
  obtain ⟨vs, H2, I2, r, q2⟩ := hh2
  exact ⟨I2.kIn, run_fnS (us := .ref a :: us) (vs := .ref a :: vs) F hr hb (hx σ) I2 (.cons rfl r) q2⟩
end
section
variable {σ : St} {H : Hp} {Q : VK}
theorem i_methE {C : Addr} {m : Str} {sp : Sp} {E : St → XK} {ta : TE} {t : TA} (h : ta σ H (kM1E m C sp (E σ) t σ Q)) : tMethE C m sp E ta t σ H Q := h
theorem i_kM1E {C : Addr} {m : Str} {sp : Sp} {E : XK} {t : TA} {a dx : Addr} {fs : List (Str × V)} (hp : H a = some (.ins C dx fs)) (l : fs.lookup m = none) (h : t σ H (kM2E sp (.ref a) E Q)) : kM1E m C sp E t σ Q (.ref a) H := ⟨a, dx, fs, rfl, hp, l, h⟩
theorem i_kM2E {sp : Sp} {E : XK} {x : V} {vs : List V} (h : sp (x :: vs) H Q E) : kM2E sp x E Q vs H := h
end
/-! a field replaced -/
theorem putF_at {f : Str} {v x : V} : ∀ (fs : List (Str × V)) (ks : List Str) (i : Nat), fs.map (·.1) = ks → (ks.take i).contains f = false → fs[i]? = some (f, x) → putF f v fs = fs.set i (f, v)
  | [], _, i, _, _, h => by simp at h
  | (g, y) :: r, ks, 0, _, _, h => by
    cases Option.some.inj h
    show (if f = f then _ else _) = _
    rw [if_pos rfl]; rfl
  | (g, y) :: r, ks, i + 1, hk, hn, h => by
    subst hk
    rw [List.map_cons, List.take_succ_cons, List.contains_cons, Bool.or_eq_false_iff] at hn
    have ne : ¬ g = f := fun e => by
      have := hn.1
      rw [e] at this
      simp at this
    show (if g = f then _ else (g, y) :: putF f v r) = _
    rw [if_neg ne, putF_at r _ i rfl hn.2 (by simpa using h)]; rfl
/-! lists of texts, of truth values -/
theorem dpAll_map {K : PySem.W.Frag} {H : Hp} {α : Type} {f : α → V} {g : α → PyData} (h : ∀ x, Dp K H (f x) (g x)) : ∀ l : List α, DpAll K H (l.map f) (l.map g)
  | [] => .nil
  | x :: r => .cons (h x) (dpAll_map h r)
theorem dp_strs {K : PySem.W.Frag} {H : Hp} {p : Addr} {l : List Str} (h : SqL K H p (l.map V.str)) : Dp K H (.ref p) (.list (l.map PyData.str)) := .lst h (dpAll_map (fun x => .str x) l)
theorem dp_bools {K : PySem.W.Frag} {H : Hp} {p : Addr} {l : List Bool} (h : SqL K H p (l.map V.bl)) : Dp K H (.ref p) (.list (l.map PyData.bool)) := .lst h (dpAll_map (fun x => .bl x) l)
theorem eqvAll_map {α : Type} [DecidableEq α] {g : α → PyData} (h : ∀ x y, PyData.eqv (g x) (g y) = decide (x = y)) : ∀ l r : List α, PyData.eqvAll (l.map g) (r.map g) = decide (l = r)
  | [], [] => by simp [PyData.eqvAll]
  | [], _ :: _ => by simp [PyData.eqvAll]
  | _ :: _, [] => by simp [PyData.eqvAll]
  | x :: l, y :: r => by
    rw [List.map_cons, List.map_cons, PyData.eqvAll, eqvAll_map h l r, h]
    by_cases e : x = y <;> by_cases e2 : l = r <;> simp [e, e2]
theorem eqv_plan (a c : List Str) (b d : List Bool) : PyData.eqv (.tuple [.list (a.map .str), .list (b.map .bool)]) (.tuple [.list (c.map .str), .list (d.map .bool)]) = decide (a = c ∧ b = d) := by
  rw [PyData.eqv, PyData.eqvAll, PyData.eqvAll, PyData.eqvAll, PyData.eqv, PyData.eqv, eqvAll_map (fun x y => by rw [PyData.eqv, Bool.eq_iff_iff]; simp), eqvAll_map (fun x y => by rw [PyData.eqv, Bool.eq_iff_iff]; simp)]
  by_cases e : a = c <;> by_cases e2 : b = d <;> simp [e, e2]
theorem lay_strs : ∀ l : List Str, (∀ x ∈ l, PyData.strOk x = true) → PyData.canLayAll0 (l.map .str) = true
  | [], _ => by simp [PyData.canLayAll0]
  | x :: r, h => by
    rw [List.map_cons, PyData.canLayAll0, lay_strs r fun y hy => h y (List.mem_cons_of_mem _ hy)]
    simp [PyData.canLay0, h x List.mem_cons_self]
theorem lay_bools : ∀ l : List Bool, PyData.canLayAll0 (l.map .bool) = true
  | [] => by simp [PyData.canLayAll0]
  | x :: r => by
    rw [List.map_cons, PyData.canLayAll0, lay_bools r]
    simp [PyData.canLay0]
theorem dep_leaf {α : Type} {g : α → PyData} (h : ∀ x, (g x).depth = 0) : ∀ l : List α, PyData.depthAll (l.map g) = 0
  | [] => by simp [PyData.depthAll]
  | x :: r => by rw [List.map_cons, PyData.depthAll, dep_leaf h r, h]; rfl
theorem shaped_plan {a : List Str} {b : List Bool} (h : ∀ x ∈ a, PyData.strOk x = true) : SeqAt.shaped (.tuple [.list (a.map .str), .list (b.map .bool)]) = true := by
  have e1 := dep_leaf (g := PyData.str) (fun x => by simp [PyData.depth]) a
  have e2 := dep_leaf (g := PyData.bool) (fun x => by simp [PyData.depth]) b
  refine shaped_of ?_ ?_
  · simp [PyData.canLay0, PyData.canLayAll0, lay_strs a h, lay_bools b]
  · simp [PyData.depth, PyData.depthAll, e1, e2]
/-- an exception of another class is not the handler's -/
theorem exm_not {K : PySem.W.Frag} {C D : Addr} (b : PySem.W.subIn K (.ref D) (.type "BaseException") = some true) (i : PySem.W.isClsIn K D = true) (t : PySem.W.typeIn K (.ref D) = some (.type "type")) (s : PySem.W.subIn K (.ref C) (.ref D) = some false) :
    PySem.W.exmOne K (.ref C) (.ref D) = some false := by
  have i' : (PySem.W.clsIn K D).isSome = true := i
  unfold PySem.W.exmOne PySem.W.kitCls
  simp [b, i', t, s]
section
variable {σ : St} {H : Hp} {K : PySem.W.Frag} {ts : Addr → Value → Option Addr → TS} {Wout : WX} {D : Ends} {d : Option Addr} {C C' : Addr} {r : List (Value × (Addr → Value → Option Addr → TS))}
theorem i_wMany1 (e : PySem.W.exmOne K (.ref C) (.ref C) = some true) (h : ∀ a, H a = none → ts a (.ref C) d D σ H) : wMany K Wout D ((.ref C, ts) :: r) (.ref C) d σ H := ⟨true, e, fun _ => h, fun q => Bool.noConfusion q⟩
theorem i_wMany2 (e : PySem.W.exmOne K (.ref C) (.ref C') = some false) (h : wMany K Wout D r (.ref C) d σ H) : wMany K Wout D ((.ref C', ts) :: r) (.ref C) d σ H := ⟨false, e, fun q => Bool.noConfusion q, fun _ => h⟩
end
section
variable {H : Hp} {Q : VK}
theorem a_repB {a : Addr} {b : Bool} {k : Int} (ha : H a = some (.lst [.bl b])) (k0 : 0 ≤ k) (k1 : k ≤ 100000) (h : ∀ p H', Same H H' → H p = none → H' p = some (.lst ((List.replicate k.toNat b).map V.bl)) → Q (.ref p) H') : rRep (.ref a) (.int k) H Q :=
  i_rep ha (by omega) (by omega) (big (by simp; omega)) fun p hp => h p _ (same_upd hp) hp (by rw [upd_same, rep_map V.bl])
theorem a_appV {a : Addr} {xs : List V} {y : V} (ha : H a = some (.lst xs)) (z : xs.length < 100000) (h : ∀ H', (∀ b o, b ≠ a → H b = some o → H' b = some o) → Q .non H') : rAppend (.ref a) [y] H Q :=
  i_append ha (bigl (Nat.le_of_lt z)) (h _ (fun b o n e => upd_get n e))
end
end Tm

/-! Th: texts, sign by sign -/
namespace L2
open PySem PySem.Spec PyProof.Rows Tm
section
variable {X : Cx}
def rLtS : R2 := fun x y H Q => ∃ i j, x = .str i ∧ y = .str j ∧ Q (.bl (decide (i.cps.toList < j.cps.toList))) H
def rLeS : R2 := fun x y H Q => ∃ i j, x = .str i ∧ y = .str j ∧ Q (.bl (!decide (j.cps.toList < i.cps.toList))) H
def rGtS : R2 := fun x y H Q => ∃ i j, x = .str i ∧ y = .str j ∧ Q (.bl (decide (j.cps.toList < i.cps.toList))) H
def rGeS : R2 := fun x y H Q => ∃ i j, x = .str i ∧ y = .str j ∧ Q (.bl (!decide (i.cps.toList < j.cps.toList))) H
def rInSg : R2 := fun x y H Q => ∃ (c : Nat) (z : Str), x = .str ⟨#[c]⟩ ∧ y = .str z ∧ Q (.bl (decide (c ∈ z.cps.toList))) H
def rNiSg : R2 := fun x y H Q => ∃ (c : Nat) (z : Str), x = .str ⟨#[c]⟩ ∧ y = .str z ∧ Q (.bl (!decide (c ∈ z.cps.toList))) H
def rAddS : R2 := fun x y H Q => ∃ i j, x = .str i ∧ y = .str j ∧ i.length + j.length ≤ sizeLine ∧ Q (.str (i ++ j)) H
def rIsB : R2 := fun x y H Q => ∃ a b, x = .bl a ∧ y = .bl b ∧ Q (.bl (decide (a = b))) H
/-- a text, repeated -/
def repS (z : Str) (k : Int) : Str := ⟨(List.replicate k.toNat z.cps.toList).flatten.toArray⟩
def rMulS : R2 := fun x y H Q => ∃ (z : Str) (k : Int), x = .str z ∧ y = .int k ∧ 1 ≤ z.length ∧ z.length * k.toNat ≤ 100000 ∧ k < 100000 ∧ -100000 < k ∧ Q (.str (repS z k)) H
def rMax2 : List V → Hp → VK → Prop := fun xs H Q => ∃ i j, xs = [.int i, .int j] ∧ Q (.int (if j > i then j else i)) H
def rMin2 : List V → Hp → VK → Prop := fun xs H Q => ∃ i j, xs = [.int i, .int j] ∧ Q (.int (if j < i then j else i)) H
theorem q_ltS : OpR X (compareOp .Lt) rLtS := op_lt_str
theorem q_leS : OpR X (compareOp .LtE) rLeS := op_le_str
theorem q_gtS : OpR X (compareOp .Gt) rGtS := op_gt_str
theorem q_geS : OpR X (compareOp .GtE) rGeS := op_ge_str
theorem q_inSg : OpR X (compareOp .In) rInSg := op_in_sign
theorem q_niSg : OpR X (compareOp .NotIn) rNiSg := op_notIn_sign
theorem q_addS : OpR X (binaryOp .Add) rAddS := op_add_str
theorem q_isB : OpR X (compareOp .Is) rIsB := op_is_bl
theorem q_max2 (hc : X.calm = true) : CallR X (.builtin "max") rMax2 := call_max2 hc
theorem q_min2 (hc : X.calm = true) : CallR X (.builtin "min") rMin2 := call_min2 hc
theorem foldl_app (l : List (Array Nat)) : ∀ acc : Array Nat, (l.foldl (· ++ ·) acc).toList = acc.toList ++ (l.map Array.toList).flatten := by
  induction l with
  | nil => intro acc; simp
  | cons x r ih => intro acc; rw [List.foldl_cons, ih, Array.toList_append, List.map_cons, List.flatten_cons, List.append_assoc]
theorem op_mulS : OpR X (binaryOp .Mult) rMulS := by
  intro pins s σ H x y v u Q I rx ry h
  obtain ⟨z, k, rfl, rfl, z1, hz, k1, k0, q⟩ := h
  obtain ⟨t, rfl⟩ := rx
  obtain ⟨t', rfl⟩ := ry
  have hzl : z.cps.toList.length = z.length := by simp [Str.length]
  have zb : ¬ k < 1 → (z.length : Int) * k ≤ 100000 := fun h => by
    have e : (z.length : Int) * k = ((z.length * k.toNat : Nat) : Int) := by rw [Int.natCast_mul, Int.toNat_of_nonneg (by omega)]
    rw [e]; omega
  refine PySem.P.mul_str (by rw [decide_eq_false (by omega), decide_eq_false (by omega)]; rfl) (fun h _ => ?_) (fun h _ => ?_) ?_
  · have := zb h
    have h2 : (z.length : Int) ≤ (2 ^ 63 - 1) / k := (Int.le_ediv_iff_mul_le (by omega)).mpr (by omega)
    omega
  · unfold Builtin.Str.tooLong
    have : sizeLine ≥ 100000 := by decide
    exact decide_eq_false (by omega)
  · have fin : ∀ (y : Str) (t' : Tok) (s' : Shared), y = repS z k → Inv X pins σ H s' → EP X pins σ Q (.str y t') s' := fun y t' s' e I' => by
      rw [e]; exact ⟨.str (repS z k), H, I', ⟨_, rfl⟩, q⟩
    split
    · next h =>
      refine ⟨by decide, fin _ _ _ ?_ (I.tok _)⟩
      unfold repS
      rw [show k.toNat = 0 by omega]; rfl
    · next h =>
      split
      · next h2 =>
        have e1 : k = 1 := by
          rcases Bool.or_eq_true_iff.mp h2 with h3 | h3
          · exact eq_of_beq h3
          · have := eq_of_beq h3
            omega
        refine fin _ _ _ ?_ I
        subst e1
        unfold repS
        simp
      · next h2 =>
        have e : (⟨(List.replicate k.toNat z.cps).foldl (· ++ ·) #[]⟩ : Str) = repS z k := by
          unfold repS
          have := foldl_app (List.replicate k.toNat z.cps) #[]
          rw [List.map_replicate] at this
          congr 1
          apply Array.ext'
          rw [this]; simp
        refine ⟨?_, fin _ _ _ e (I.tok _)⟩
        rw [e]
        unfold repS Str.length
        rw [List.size_toArray, List.length_flatten, List.map_replicate, List.sum_replicate_nat, hzl, Nat.mul_comm]
        have : sizeLine ≥ 100000 := by decide
        omega
/-! ### methods of texts -/
def kT2 (r : V → List V → Hp → VK → Prop) (x : V) (Q : VK) : VK := fun y H => r x [y] H Q
def kT1 (r : V → List V → Hp → VK → Prop) (te : TE) (σ : St) (Q : VK) : VK := fun x H => (∃ a, x = .str a) ∧ te σ H (kT2 r x Q)
def kT0 (r : V → List V → Hp → VK → Prop) (Q : VK) : VK := fun x H => (∃ a, x = .str a) ∧ r x [] H Q
def rSplit : V → List V → Hp → VK → Prop := fun x xs H Q => ∃ a b, x = .str a ∧ xs = [.str b] ∧ (b.length == 0) = false ∧ a.length + 2 ≤ sizeLine ∧ rNewStrs (Txt.split a b) H Q
def rJoin (K : PySem.W.Frag) : V → List V → Hp → VK → Prop := fun x xs H Q => ∃ a p, ∃ ys : List Str, x = .str a ∧ xs = [.ref p] ∧ (SqL K H p (ys.map V.str) ∨ SqT K H p (ys.map V.str)) ∧
      (ys.map (·.length)).sum + ys.length * a.length ≤ 16777216 ∧ Q (.str (Txt.join a ys)) H
def rStarts : V → List V → Hp → VK → Prop := fun x xs H Q => ∃ a b, x = .str a ∧ xs = [.str b] ∧ Q (.bl (Txt.startswith a b)) H
def rStripC : V → List V → Hp → VK → Prop := fun x xs H Q => ∃ a b, x = .str a ∧ xs = [.str b] ∧ a.length ≤ sizeLine ∧ Q (.str (Txt.stripChars a b)) H
theorem q_split : MtR X "str.split" rSplit := mt_split
theorem q_join {K : PySem.W.Frag} (z : X.K = K := by rfl) : MtR X "str.join" (rJoin K) := by subst z; exact mt_join
theorem q_starts : MtR X "str.startswith" rStarts := mt_startswith
theorem q_stripC : MtR X "str.strip" rStripC := mt_stripChars
end
end L2
namespace Tm
open PySem PySem.Spec PyProof.Rows L2
section
variable {σ σ' : St} {H : Hp} {Q : VK} {nx bk ct : St → Hp → Prop} {rt : VK} {K : PySem.W.Frag}
theorem i_rLtS {i j : Str} (h : Q (.bl (decide (i.cps.toList < j.cps.toList))) H) : rLtS (.str i) (.str j) H Q := ⟨i, j, rfl, rfl, h⟩
theorem i_rLeS {i j : Str} (h : Q (.bl (!decide (j.cps.toList < i.cps.toList))) H) : rLeS (.str i) (.str j) H Q := ⟨i, j, rfl, rfl, h⟩
theorem i_rGtS {i j : Str} (h : Q (.bl (decide (j.cps.toList < i.cps.toList))) H) : rGtS (.str i) (.str j) H Q := ⟨i, j, rfl, rfl, h⟩
theorem i_rGeS {i j : Str} (h : Q (.bl (!decide (i.cps.toList < j.cps.toList))) H) : rGeS (.str i) (.str j) H Q := ⟨i, j, rfl, rfl, h⟩
theorem i_inSg {c : Nat} {z : Str} (h : Q (.bl (decide (c ∈ z.cps.toList))) H) : rInSg (.str ⟨#[c]⟩) (.str z) H Q := ⟨c, z, rfl, rfl, h⟩
theorem i_niSg {c : Nat} {z : Str} (h : Q (.bl (!decide (c ∈ z.cps.toList))) H) : rNiSg (.str ⟨#[c]⟩) (.str z) H Q := ⟨c, z, rfl, rfl, h⟩
theorem i_addS {i j : Str} (l : i.length + j.length ≤ sizeLine) (h : Q (.str (i ++ j)) H) : rAddS (.str i) (.str j) H Q := ⟨i, j, rfl, rfl, l, h⟩
theorem i_isB {a b : Bool} (h : Q (.bl (decide (a = b))) H) : rIsB (.bl a) (.bl b) H Q := ⟨a, b, rfl, rfl, h⟩
theorem i_mulS {z : Str} {k : Int} (z1 : 1 ≤ z.length) (hz : z.length * k.toNat ≤ 100000) (k1 : k < 100000) (k0 : -100000 < k) (h : Q (.str (repS z k)) H) : rMulS (.str z) (.int k) H Q := ⟨z, k, rfl, rfl, z1, hz, k1, k0, h⟩
theorem i_max2 {i j : Int} (h : Q (.int (if j > i then j else i)) H) : rMax2 [.int i, .int j] H Q := ⟨i, j, rfl, h⟩
theorem i_min2 {i j : Int} (h : Q (.int (if j < i then j else i)) H) : rMin2 [.int i, .int j] H Q := ⟨i, j, rfl, h⟩
theorem i_tM1 {r : V → List V → Hp → VK → Prop} {to te : TE} (h : to σ H (kT1 r te σ Q)) : tM1 r to te σ H Q := h
theorem i_tM0 {r : V → List V → Hp → VK → Prop} {to : TE} (h : to σ H (kT0 r Q)) : tM0 r to σ H Q := h
theorem i_kT1 {r : V → List V → Hp → VK → Prop} {te : TE} {a : Str} (h : te σ H (kT2 r (.str a) Q)) : kT1 r te σ Q (.str a) H := ⟨⟨a, rfl⟩, h⟩
theorem i_kT0 {r : V → List V → Hp → VK → Prop} {a : Str} (h : r (.str a) [] H Q) : kT0 r Q (.str a) H := ⟨⟨a, rfl⟩, h⟩
theorem i_kT2 {r : V → List V → Hp → VK → Prop} {x y : V} (h : r x [y] H Q) : kT2 r x Q y H := h
theorem i_split {a b : Str} (hb : (b.length == 0) = false) (l : a.length + 2 ≤ sizeLine) (h : ∀ p, H p = none → Q (.ref p) (upd H p (.lst ((Txt.split a b).map V.str)))) : rSplit (.str a) [.str b] H Q := ⟨a, b, rfl, rfl, hb, l, h⟩
theorem i_joinL {a : Str} {p : Addr} (ys : List Str) (s : SqL K H p (ys.map V.str)) (l : (ys.map (·.length)).sum + ys.length * a.length ≤ 16777216) (h : Q (.str (Txt.join a ys)) H) : rJoin K (.str a) [.ref p] H Q := ⟨a, p, ys, rfl, rfl, .inl s, l, h⟩
theorem i_joinT {a : Str} {p : Addr} (ys : List Str) (s : SqT K H p (ys.map V.str)) (l : (ys.map (·.length)).sum + ys.length * a.length ≤ 16777216) (h : Q (.str (Txt.join a ys)) H) : rJoin K (.str a) [.ref p] H Q := ⟨a, p, ys, rfl, rfl, .inr s, l, h⟩
theorem i_starts {a b : Str} (h : Q (.bl (Txt.startswith a b)) H) : rStarts (.str a) [.str b] H Q := ⟨a, b, rfl, rfl, h⟩
theorem i_stripC {a b : Str} (l : a.length ≤ sizeLine) (h : Q (.str (Txt.stripChars a b)) H) : rStripC (.str a) [.str b] H Q := ⟨a, b, rfl, rfl, l, h⟩
theorem i_ixS {z : Str} {i : Int} {c : Nat} (l : z.length ≤ sizeLine) (e : atI z.cps.toList i = some c) (h : Q (.str ⟨#[c]⟩) H) : rIxS (.str z) (.int i) H Q := ⟨z, i, c, rfl, rfl, l, e, h⟩
theorem i_slS {z : Str} {lo hi : Option Int} (l : z.length ≤ sizeLine) (h : Q (.str (cutS z lo hi)) H) : rSlS (.str z) lo hi H Q := ⟨z, rfl, l, h⟩
/-! ### walking through a text -/
def kIS (R : It → Hp → Prop) : VK := fun v H1 => ∃ x, v = .str x ∧ R (Its x) H1
theorem i_iStr {tl : TE} {R : It → Hp → Prop} (h : tl σ H (kIS R)) : iStr tl σ H R := h
theorem i_kIS {R : It → Hp → Prop} {z : Str} (h : R (Its z) H) : kIS R (.str z) H := ⟨z, rfl, h⟩
theorem i_forS {z : Str} {g : TG} {tb : TS} (Pv : Nat → St → Hp → Prop) (h0 : Pv 0 σ H)
    (hs : ∀ (i c : Nat) σ H, z.cps.toList[i]? = some c → Pv i σ H → g (.str ⟨#[c]⟩) σ H (kBody tb ⟨Pv (i + 1), rt, nx, Pv (i + 1)⟩)) (hd : ∀ σ H, Pv z.cps.toList.length σ H → nx σ H) : kFor g tb ⟨nx, rt, bk, ct⟩ σ (Its z) H := by
  refine ⟨fun i m σ H => m = z.cps.size - i ∧ i ≤ z.cps.size ∧ Pv i σ H, ⟨z.cps.size, by simp, Nat.zero_le _, h0⟩, ?_⟩
  rintro i m σ H ⟨rfl, hi, p⟩
  by_cases hlt : i < z.cps.size
  · refine .inr ⟨hlt, Pv (i + 1), fun σ' H' p' => ⟨z.cps.size - (i + 1), by omega, rfl, hlt, p'⟩, fun x H' y => ?_⟩
    obtain ⟨e, c, hc, rfl⟩ := y
    subst e
    exact hs i c σ _ (by rw [Array.getElem?_toList]; exact hc) p
  · have e : i = z.cps.size := by omega
    subst e
    exact .inl ⟨Nat.le_refl _, hd σ H (by rw [Array.length_toList]; exact p)⟩
theorem i_lcS {z : Str} {g : TG} {tt : TT} {te : TE} {vs : List Nat} (Pv : Addr → Nat → Hp → Prop) (h0 : ∀ D, H D = none → Pv D 0 (upd H D (.lst [])))
    (hs : ∀ D (i c : Nat) H1, H D = none → z.cps.toList[i]? = some c → Pv D i H1 → g (.str ⟨#[c]⟩) (wipe σ vs) H1 (kLc1 tt te vs σ D (Pv D (i + 1)))) (hd : ∀ D H1, H D = none → Pv D z.cps.toList.length H1 → Q (.ref D) H1) : kLc g tt te vs σ Q (Its z) H := by
  intro D hD
  refine ⟨fun i m H => m = z.cps.size - i ∧ i ≤ z.cps.size ∧ Pv D i H, ⟨z.cps.size, by simp, Nat.zero_le _, h0 D hD⟩, ?_⟩
  rintro i m H ⟨rfl, hi, p⟩
  by_cases hlt : i < z.cps.size
  · refine .inr ⟨hlt, Pv D (i + 1), fun H' p' => ⟨z.cps.size - (i + 1), by omega, rfl, hlt, p'⟩, fun x H' y => ?_⟩
    obtain ⟨e, c, hc, rfl⟩ := y
    subst e
    exact hs D i c _ hD (by rw [Array.getElem?_toList]; exact hc) p
  · have e : i = z.cps.size := by omega
    subst e
    exact .inl ⟨Nat.le_refl _, hd D H hD (by rw [Array.length_toList]; exact p)⟩
end
end Tm

/-! Ti: what texts of few signs say -/
namespace Tm
open PySem PySem.Spec PyProof.Rows L2
section
variable {σ σ' : St} {H : Hp} {Q : VK} {nx bk ct : St → Hp → Prop} {rt : VK} {K : PySem.W.Frag}
theorem sg_inj {c k : Nat} : ((⟨#[c]⟩ : Str) = ⟨#[k]⟩) ↔ c = k := ⟨fun h => by injection h with h; injection h with h; injection h, fun h => by rw [h]⟩
theorem sg_eq (c k : Nat) : decide ((⟨#[c]⟩ : Str) = ⟨#[k]⟩) = decide (c = k) := decide_eq_decide.mpr sg_inj
theorem one_lt {c k : Nat} : ([c] < [k]) ↔ c < k := by
  constructor
  · intro h
    cases h with
    | rel h => exact h
    | cons h => cases h
  · intro h; exact List.Lex.rel h
theorem sg_le (c k : Nat) : (!decide ((⟨#[c]⟩ : Str).cps.toList < (⟨#[k]⟩ : Str).cps.toList)) = decide (k ≤ c) := by
  show (!decide ([c] < [k])) = _
  by_cases h : c < k
  · rw [decide_eq_true (one_lt.mpr h), decide_eq_false (by omega)]; rfl
  · rw [decide_eq_false (fun z => h (one_lt.mp z)), decide_eq_true (by omega)]; rfl
theorem sg_lt (c k : Nat) : (decide ((⟨#[c]⟩ : Str).cps.toList < (⟨#[k]⟩ : Str).cps.toList)) = decide (c < k) := decide_eq_decide.mpr one_lt
theorem len_cps (z : Str) : z.cps.toList.length = z.length := by simp [Str.length]
theorem str_ext {x y : Str} (h : x.cps.toList = y.cps.toList) : x = y := by
  cases x with | mk x => cases y with | mk y => congr 1; exact Array.ext' h
theorem repS_one (k : Nat) (n : Int) : (repS ⟨#[k]⟩ n).cps.toList = List.replicate n.toNat k := by
  unfold repS
  show (List.replicate n.toNat [k]).flatten = _
  induction n.toNat with
  | zero => rfl
  | succ m ih => rw [List.replicate_succ, List.replicate_succ, List.flatten_cons, ih]; rfl
theorem cat_cps (a b : Str) : (a ++ b).cps.toList = a.cps.toList ++ b.cps.toList := TL.tl_append a b
theorem cat_len (a b : Str) : (a ++ b).length = a.length + b.length := by rw [← len_cps, cat_cps, List.length_append, len_cps, len_cps]
theorem joinL_len (s : List Nat) : ∀ l : List (List Nat), (TL.joinL s l).length ≤ (l.map List.length).sum + l.length * s.length
  | [] => by simp [TL.joinL]
  | [p] => by simp [TL.joinL]
  | p :: q :: r => by
    have ih := joinL_len s (q :: r)
    show (p ++ (s ++ TL.joinL s (q :: r))).length ≤ _
    rw [List.length_append, List.length_append, List.map_cons, List.sum_cons, List.length_cons, Nat.succ_mul]
    omega
theorem join_len (a : Str) (ys : List Str) : (Txt.join a ys).length ≤ (ys.map (·.length)).sum + ys.length * a.length := by
  have h := joinL_len (TL.tl a) (ys.map TL.tl)
  rw [← TL.tl_join, ← TL.join_eq, List.map_map, List.length_map] at h
  have e1 : (TL.tl (Txt.join a ys)).length = (Txt.join a ys).length := len_cps _
  have e2 : (TL.tl a).length = a.length := len_cps _
  have e3 : ys.map (List.length ∘ TL.tl) = ys.map (·.length) := List.map_congr_left fun y _ => len_cps y
  rw [e1, e2, e3] at h
  exact h
theorem sum_le {ys : List Str} {m : Nat} (h : ∀ y ∈ ys, y.length ≤ m) : (ys.map (·.length)).sum ≤ ys.length * m := by
  induction ys with
  | nil => simp
  | cons y r ih =>
    rw [List.map_cons, List.sum_cons, List.length_cons, Nat.succ_mul]
    have h1 := h y (List.mem_cons_self ..)
    have h2 := ih fun z hz => h z (List.mem_cons_of_mem _ hz)
    omega
theorem i_ixSx {z : Str} {i : Int} (l : z.length ≤ sizeLine) (h0 : 0 ≤ i) (h1 : i < z.length) (h : ∀ c, z.cps.toList[i.toNat]? = some c → Q (.str ⟨#[c]⟩) H) : rIxS (.str z) (.int i) H Q := by
  have hl : z.cps.toList.length = z.length := len_cps z
  have e : z.cps.toList[i.toNat]? = some (z.cps.toList.getD i.toNat 0) := by
    rw [List.getD_eq_getElem?_getD, List.getElem?_eq_getElem (by omega)]; rfl
  refine i_ixS l ?_ (h _ e)
  unfold atI ixN
  rw [if_pos h0, hl, if_pos (by omega)]
  exact e
theorem i_between {i c lo hi : Nat} (hv : σ[i]? = some (some (.str ⟨#[c]⟩))) (h : Q (.bl (decide (lo ≤ c ∧ c ≤ hi))) H) : tChain rLeS rLeS (tC (.str ⟨#[lo]⟩)) (tVar i) (tC (.str ⟨#[hi]⟩)) σ H Q := by
  refine i_chain (i_c (i_kC1 (i_var hv (i_kC2 (i_rLeS ?_)))))
  rw [sg_le]
  refine i_kC2' (fun h1 => i_c (i_kC3 (i_rLeS ?_))) (fun h1 => ?_)
  · rw [sg_le]
    have h1 := of_decide_eq_true h1
    rw [decide_eq_decide.mpr (show c ≤ hi ↔ (lo ≤ c ∧ c ≤ hi) from ⟨fun z => ⟨h1, z⟩, fun z => z.2⟩)]
    exact h
  · have h1 := of_decide_eq_false h1
    rw [decide_eq_false (fun z => h1 z.1)] at h
    exact h
theorem getD_all {α : Type} {p : α → Prop} {l : List α} {d : α} (h : ∀ x ∈ l, p x) (hd : p d) (n : Nat) : p (l.getD n d) := by
  rw [List.getD_eq_getElem?_getD]
  cases e : l[n]? with
  | none => exact hd
  | some x => exact h x (List.mem_of_getElem? e)
end
end Tm

/-! Tu: texts cut at a sign -/
namespace Tm
open PySem PySem.Spec PyProof.Rows L2
theorem spl_cons (s : Nat) (acc r : List Nat) (c : Nat) : TL.spl [s] 0 acc (c :: r) = if c = s then acc :: TL.spl [s] 0 [] r else TL.spl [s] 0 (acc ++ [c]) r := by
  have e : TL.pre [s] (c :: r) = decide (c = s) := by
    unfold TL.pre
    show ([c] == [s]) = _
    by_cases h : c = s
    · rw [h, decide_eq_true rfl]; simp
    · rw [decide_eq_false h]; simp [h]
  by_cases h : c = s
  · rw [TL.spl_hit (by rw [e]; exact decide_eq_true h), if_pos h]; rfl
  · rw [TL.spl_miss (by rw [e]; exact decide_eq_false h), if_neg h]
theorem spl_count (s : Nat) : ∀ (l acc : List Nat), (TL.spl [s] 0 acc l).length ≤ l.length + 1
  | [], acc => by rw [TL.spl_nil]; exact Nat.le_refl _
  | c :: r, acc => by
    rw [spl_cons]
    split
    · rw [List.length_cons, List.length_cons]; have := spl_count s r []; omega
    · rw [List.length_cons]; have := spl_count s r (acc ++ [c]); omega
theorem spl_part_len (s : Nat) : ∀ (l acc : List Nat), ∀ p ∈ TL.spl [s] 0 acc l, p.length ≤ acc.length + l.length
  | [], acc, p, h => by rw [TL.spl_nil] at h; rw [List.mem_singleton.mp h]; omega
  | c :: r, acc, p, h => by
    rw [spl_cons] at h
    split at h
    · rcases List.mem_cons.mp h with rfl | h
      · omega
      · have := spl_part_len s r [] p h; rw [List.length_nil] at this; rw [List.length_cons]; omega
    · have := spl_part_len s r (acc ++ [c]) p h; rw [List.length_append, List.length_singleton] at this; rw [List.length_cons]; omega
theorem split_at (z : Str) {s : Nat} (hs : s < 256) : Txt.split z ⟨#[s]⟩ = (TL.spl [s] 0 [] z.cps.toList).map SX.S := by
  have h := SX.split_S (a := z.cps.toList) (b := [s]) (by simp) (by simp [hs])
  rw [SX.S_tl] at h
  exact h
theorem split_count (z : Str) {s : Nat} (hs : s < 256) : (Txt.split z ⟨#[s]⟩).length ≤ z.length + 1 := by
  rw [split_at z hs, List.length_map]
  have := spl_count s z.cps.toList []
  rw [len_cps] at this
  exact this
theorem split_part_len (z : Str) {s : Nat} (hs : s < 256) : ∀ y ∈ Txt.split z ⟨#[s]⟩, y.length ≤ z.length := by
  rw [split_at z hs]
  intro y hy
  obtain ⟨p, hp, rfl⟩ := List.mem_map.mp hy
  have := spl_part_len s _ _ p hp
  rw [List.length_nil, len_cps] at this
  rw [SX.S_len]; omega
theorem cut_tail (z : Str) : (cutS z (some 1) none).cps.toList = z.cps.toList.drop 1 := by
  unfold cutS
  show (z.cps.toList.drop (HT.sIx z.length 0 (some 1))).take (HT.sIx z.length z.length none - HT.sIx z.length 0 (some 1)) = _
  have e1 : HT.sIx z.length 0 (some 1) = min 1 z.length := rfl
  have e2 : HT.sIx z.length z.length none = z.length := rfl
  rw [e1, e2]
  have hl := len_cps z
  by_cases h : z.length = 0
  · have : z.cps.toList = [] := List.length_eq_zero_iff.mp (by omega)
    rw [this]; simp
  · rw [Nat.min_eq_left (by omega), List.take_of_length_le (by rw [List.length_drop, hl]; omega)]
theorem cut_head (z : Str) : (cutS z none (some 1)).cps.toList = z.cps.toList.take 1 := by
  unfold cutS
  show (z.cps.toList.drop (HT.sIx z.length 0 none)).take (HT.sIx z.length z.length (some 1) - HT.sIx z.length 0 none) = _
  have e1 : HT.sIx z.length 0 none = 0 := rfl
  have e2 : HT.sIx z.length z.length (some 1) = min 1 z.length := rfl
  rw [e1, e2, List.drop_zero, Nat.sub_zero]
  have hl := len_cps z
  by_cases h : z.length = 0
  · have : z.cps.toList = [] := List.length_eq_zero_iff.mp (by omega)
    rw [this]; simp
  · rw [Nat.min_eq_left (by omega)]
theorem starts_sg (z : Str) (s : Nat) : Txt.startswith z ⟨#[s]⟩ = decide (z.cps.toList.take 1 = [s]) := by
  have h := TL.at_iff (x := z) (y := ⟨#[s]⟩) (by show ([s] : List Nat) ≠ []; simp) 0
  have hl := len_cps z
  rw [List.drop_zero] at h
  have e : TL.pre (TL.tl ⟨#[s]⟩) (TL.tl z) = decide (z.cps.toList.take 1 = [s]) := by
    unfold TL.pre
    show (z.cps.toList.take 1 == [s]) = _
    by_cases hz : z.cps.toList.take 1 = [s]
    · rw [hz, decide_eq_true rfl]; simp
    · rw [decide_eq_false hz]; simp [hz]
  rw [e] at h
  unfold Txt.startswith
  by_cases hz : z.cps.toList.take 1 = [s]
  · rw [decide_eq_true hz]
    obtain ⟨h1, h2⟩ := h.mpr (decide_eq_true hz)
    rw [h2, decide_eq_true h1]; rfl
  · rw [decide_eq_false hz]
    cases hb : (decide (0 + (⟨#[s]⟩ : Str).length ≤ z.length) && Builtin.Str.subAt z ⟨#[s]⟩ 0)
    · rfl
    · rw [Bool.and_eq_true] at hb
      exact absurd (of_decide_eq_true (h.mp ⟨of_decide_eq_true hb.1, hb.2⟩)) hz
theorem head_eq (z : Str) (s : Nat) : decide (cutS z none (some 1) = ⟨#[s]⟩) = decide (z.cps.toList.take 1 = [s]) :=
  decide_eq_decide.mpr ⟨fun h => by rw [← cut_head, h], fun h => str_ext (by rw [cut_head, h])⟩
theorem split_head {z : Str} {s : Nat} (hs : s < 256) (h : z.cps.toList.take 1 = [s]) : Txt.split z ⟨#[s]⟩ = ⟨#[]⟩ :: Txt.split (cutS z (some 1) none) ⟨#[s]⟩ := by
  rw [split_at z hs, split_at _ hs, cut_tail]
  cases e : z.cps.toList with
  | nil => rw [e] at h; simp at h
  | cons c r =>
    rw [e] at h
    have hc : c = s := by simpa using h
    rw [spl_cons, if_pos hc]; rfl
theorem i_neLS {p q : Addr} {K : PySem.W.Frag} {H : Hp} {Q : VK} {ys zs : List Str} (a : SqL K H p (ys.map V.str)) (b : SqL K H q (zs.map V.str)) (h1 : ∀ y ∈ ys, PyData.strOk y = true) (h2 : ∀ y ∈ zs, PyData.strOk y = true) (h : Q (.bl (!decide (ys = zs))) H) : rNeD K (.ref p) (.ref q) H Q := by
  have sh : ∀ l : List Str, (∀ y ∈ l, PyData.strOk y = true) → SeqAt.shaped (.list (l.map PyData.str)) = true := fun l hl => shaped_of (by simp [PyData.canLay0, lay_strs l hl]) (by simp only [PyData.depth, dep_leaf (g := PyData.str) (fun _ => rfl)]; omega)
  refine i_neD (dp_strs a) (dp_strs b) (sh _ h1) (sh _ h2) ?_
  have e : PyData.eqv (.list (ys.map PyData.str)) (.list (zs.map PyData.str)) = decide (ys = zs) := eqvAll_map (fun x y => by show (x == y) = _; by_cases z : x = y <;> simp [z]) _ _
  rw [e]; exact h
end Tm

/-! the steps as one word -/
local macro_rules | `(tactic| walk_at "set") => `(tactic| ((repeat (with_reducible apply Tm.set_s)); exact Tm.set_z))
local macro_rules | `(tactic| walk_at "sc") => `(tactic| first | omega | (with_reducible assumption) | (dsimp only; first | omega | (with_reducible assumption)) | exact ⟨by omega, by omega⟩ | exact Or.inl ⟨by omega, by omega⟩ | exact Or.inr ⟨by omega, by omega⟩)
local macro_rules | `(tactic| walk_at "ne") => `(tactic| first | assumption | (apply Ne.symm; assumption) | (refine' L2.ne_of_none ?h ?n; (case n => assumption); (case h => walk_at "hp")) | (apply Ne.symm; refine' L2.ne_of_none ?h ?n; (case n => assumption); (case h => walk_at "hp")))
local macro_rules | `(tactic| walk_at "hp") => `(tactic| first | assumption | with_reducible exact L2.upd_same | ((with_reducible refine' Tm.upd_get ?n ?h); (case n => walk_at "ne"); (case h => walk_at "hp")) | (refine' (show L2.Same _ _ by assumption) _ _ ?h; (case h => walk_at "hp")))
local macro_rules | `(tactic| walk_at "sq") => `(tactic| first | assumption | ((with_reducible refine' L2.SqL.of ?h); (case h => walk_at "hp")) | ((with_reducible refine' L2.SqT.of ?h); (case h => walk_at "hp")) | ((with_reducible refine' Tm.sqL_new ?n ?h); (case n => assumption); (case h => walk_at "sq")) | ((with_reducible refine' Tm.sqT_new ?n ?h); (case n => assumption); (case h => walk_at "sq")) | ((with_reducible refine' Tm.sqL_upd ?n ?h); (case n => walk_at "ne"); (case h => walk_at "sq")) | ((with_reducible refine' Tm.sqT_upd ?n ?h); (case n => walk_at "ne"); (case h => walk_at "sq")) | (refine' L2.Same.seq (by assumption) ?h; (case h => walk_at "sq")) | (refine' Tm.same_tup (by assumption) ?h; (case h => walk_at "sq")))
local macro_rules | `(tactic| walk_at "s") => `(tactic| first
  | with_reducible refine' Tm.i_seq ?_
  | ((with_reducible refine' Tm.i_var ?k ?_); (case k => exact rfl))
  | with_reducible refine' Tm.i_c ?_
  | with_reducible refine' Tm.i_op ?_
  | with_reducible refine' Tm.i_kO1 ?_
  | with_reducible refine' Tm.i_kO2 ?_
  | with_reducible refine' Tm.i_asg ?_
  | with_reducible refine' Tm.i_kAsg ?_
  | ((with_reducible refine' Tm.i_gName ?k ?_); (case k => walk_at "set"))
  | with_reducible refine' Tm.i_rI0 ?_
  | ((with_reducible refine' Tm.i_rI ?k ?_); (case k => walk_at "sc"))
  | with_reducible refine' Tm.i_rU ?_
  | with_reducible refine' Tm.i_rEqI ?_
  | with_reducible refine' Tm.i_rNeI ?_
  | with_reducible refine' Tm.i_rEqS ?_
  | with_reducible refine' Tm.i_rNeS ?_
  | with_reducible refine' Tm.i_rEqB ?_
  | with_reducible refine' Tm.i_rNeB ?_
  | with_reducible refine' Tm.i_test ?_
  | with_reducible refine' Tm.i_tB ?_
  | with_reducible refine' Tm.i_kB ?_
  | with_reducible refine' Tm.i_ifS ?_
  | with_reducible refine' Tm.i_kIfT ?_
  | with_reducible refine' Tm.i_kIfF ?_
  | with_reducible refine' Tm.i_kIfn ?_
  | with_reducible refine' Tm.i_and ?_
  | with_reducible refine' Tm.i_or ?_
  | with_reducible refine' Tm.i_not ?_
  | with_reducible refine' Tm.i_kNot ?_
  | with_reducible refine' Tm.i_kAndT ?_
  | with_reducible refine' Tm.i_kAndF ?_
  | with_reducible refine' Tm.i_kOrT ?_
  | with_reducible refine' Tm.i_kOrF ?_
  | with_reducible refine' Tm.i_andV ?_
  | with_reducible refine' Tm.i_orV ?_
  | with_reducible refine' Tm.i_notV ?_
  | with_reducible refine' Tm.i_kNotV ?_
  | with_reducible refine' Tm.i_ifE ?_
  | with_reducible refine' Tm.i_kIfET ?_
  | with_reducible refine' Tm.i_kIfEF ?_
  | with_reducible refine' Tm.i_cons ?_
  | with_reducible refine' Tm.i_nil ?_
  | with_reducible refine' Tm.i_kA1 ?_
  | with_reducible refine' Tm.i_kA2 ?_
  | with_reducible refine' Tm.i_drop ?_
  | with_reducible refine' Tm.i_kDrop ?_
  | with_reducible refine' Tm.i_ret ?_
  | with_reducible refine' Tm.i_retN ?_
  | with_reducible refine' Tm.i_next ?_
  | with_reducible refine' Tm.i_brk ?_
  | with_reducible refine' Tm.i_cnt ?_
  | with_reducible refine' Tm.i_body ?_
  | ((with_reducible refine' Tm.i_aug ?k ?_); (case k => exact rfl))
  | with_reducible refine' Tm.i_kAug1 ?_
  | ((with_reducible refine' Tm.i_kAug2 ?k ?_); (case k => walk_at "set"))
  | with_reducible refine' Tm.i_ipI ?_
  | with_reducible refine' Tm.i_un ?_
  | with_reducible refine' Tm.i_kU ?_
  | with_reducible refine' Tm.i_cb ?_
  | with_reducible refine' Tm.i_kCB ?_
  | with_reducible refine' Tm.i_call ?_
  | with_reducible refine' Tm.i_kCall ?_
  | with_reducible refine' Tm.i_bm ?_
  | with_reducible refine' Tm.i_bm0 ?_
  | ((with_reducible refine' Tm.i_kBMl ?k ?_); (case k => walk_at "sq"))
  | ((with_reducible refine' Tm.i_kBM0l ?k ?_); (case k => walk_at "sq"))
  | with_reducible refine' Tm.i_kBM2 ?_
  | with_reducible refine' Tm.i_int ?_
  | ((with_reducible refine' Tm.i_lenL ?k ?_); (case k => walk_at "sq"))
  | ((with_reducible refine' Tm.i_lenT ?k ?_); (case k => walk_at "sq"))
  | with_reducible refine' Tm.i_isN ?_
  | with_reducible refine' Tm.i_notN ?_
  | with_reducible refine' Tm.i_tup ?_
  | with_reducible refine' Tm.i_lst ?_
  | with_reducible refine' Tm.i_sl ?_
  | with_reducible refine' Tm.i_kS1 ?_
  | with_reducible refine' Tm.i_kS2 ?_
  | with_reducible refine' Tm.i_kS3 ?_
  | with_reducible refine' Tm.i_noPart ?_
  | with_reducible refine' Tm.i_part ?_
  | with_reducible refine' Tm.i_kPart ?_
  | with_reducible refine' Tm.i_chain ?_
  | with_reducible refine' Tm.i_kC1 ?_
  | with_reducible refine' Tm.i_kC2 ?_
  | with_reducible refine' Tm.i_kC3 ?_
  | with_reducible refine' Tm.i_for ?_
  | with_reducible refine' Tm.i_lc ?_
  | with_reducible refine' Tm.i_iList ?_
  | with_reducible refine' Tm.i_iTup ?_
  | with_reducible refine' Tm.i_iRng1 ?_
  | with_reducible refine' Tm.i_iRng2 ?_
  | ((with_reducible refine' Tm.i_kIL ?k ?_); (case k => walk_at "sq"))
  | ((with_reducible refine' Tm.i_kIT ?k ?_); (case k => walk_at "sq"))
  | ((with_reducible refine' Tm.i_kIR1 ?k1 ?k2 ?_); (case k1 => walk_at "sc"); (case k2 => walk_at "sc"))
  | ((with_reducible refine' Tm.i_kIR2 ?k1 ?k2 ?k3 ?k4 ?_); (case k1 => walk_at "sc"); (case k2 => walk_at "sc"); (case k3 => walk_at "sc"); (case k4 => walk_at "sc"))
  | with_reducible refine' Tm.i_fld ?_
  | with_reducible refine' Tm.i_sFld ?_
  | with_reducible refine' Tm.i_kSF1 ?_
  | with_reducible refine' Tm.i_meth ?_
  | with_reducible refine' Tm.i_kM2 ?_
  | with_reducible refine' Tm.i_make ?_
  | with_reducible refine' Tm.i_yes ?_
  | with_reducible refine' Tm.i_gCons ?_
  | with_reducible refine' Tm.i_gNil ?_
  | ((with_reducible refine' Tm.i_gTup ?k1 ?k2 ?_); (case k1 => walk_at "sq"); (case k2 => exact rfl))
  | with_reducible refine' Tm.i_star ?_
  | ((with_reducible refine' Tm.i_kSt1T ?k1 ?_); (case k1 => walk_at "sq"))
  | ((with_reducible refine' Tm.i_kSt1L ?k1 ?_); (case k1 => walk_at "sq"))
  | with_reducible refine' Tm.i_kSt2 ?_
  | with_reducible refine' Tm.i_gSub ?_
  | with_reducible refine' Tm.i_kG1 ?_
  | ((with_reducible refine' Tm.i_gNameW ?k1 ?k2 ?k3 ?_); (case k1 => exact rfl); (case k2 => walk_at "set"); (case k3 => walk_at "set"))
  | ((with_reducible refine' Tm.i_kLc1 ?k ?_); (case k => exact rfl))
  | ((with_reducible refine' Tm.i_ixL ?k ?e ?_); (case k => walk_at "sq"); (case e => exact rfl))
  | ((with_reducible refine' Tm.i_ixI ?k ?e ?l1 ?l2 ?_); (case k => walk_at "sq"); (case e => first | exact Int.toNat_zero | exact Int.toNat_one | exact Int.toNat_ofNat _ | exact Int.toNat_natCast _); (case l1 => omega); (case l2 => omega))
  | ((with_reducible refine' Tm.i_ixT ?k ?e ?_); (case k => walk_at "sq"); (case e => exact rfl))
  | ((with_reducible refine' Tm.i_eqLL ?k1 ?k2 ?_); (case k1 => walk_at "sq"); (case k2 => walk_at "sq"))
  | ((with_reducible refine' Tm.i_neLL ?k1 ?k2 ?_); (case k1 => walk_at "sq"); (case k2 => walk_at "sq"))
  | ((with_reducible refine' Tm.i_eqTT ?k1 ?k2 ?_); (case k1 => walk_at "sq"); (case k2 => walk_at "sq"))
  | with_reducible refine' Tm.i_lstRev ?_
  | with_reducible refine' Tm.i_kLc2T ?_
  | with_reducible refine' Tm.i_kLc2F ?_
  | ((with_reducible refine' Tm.i_kIfdF ?k ?_); (case k => decide))
  | ((with_reducible refine' Tm.i_kIfdT ?k ?_); (case k => decide))
  | ((with_reducible refine' Tm.i_kIfdF ?k ?_); (case k => (intro hh; cases hh; done)))
  | ((with_reducible refine' Tm.i_kIfEdT ?k ?_); (case k => exact rfl))
  | ((with_reducible refine' Tm.i_kIfEdF ?k ?_); (case k => (intro hh; cases hh; done))))
local macro_rules | `(tactic| walk_at "go") => `(tactic| repeat walk_at "s")
local macro_rules | `(tactic| walk_at "s") => `(tactic| first
  | with_reducible refine' Tm.i_rLtS ?_
  | with_reducible refine' Tm.i_rLeS ?_
  | with_reducible refine' Tm.i_rGtS ?_
  | with_reducible refine' Tm.i_rGeS ?_
  | with_reducible refine' Tm.i_inSg ?_
  | with_reducible refine' Tm.i_niSg ?_
  | with_reducible refine' Tm.i_isB ?_
  | with_reducible refine' Tm.i_max2 ?_
  | with_reducible refine' Tm.i_min2 ?_
  | with_reducible refine' Tm.i_tM1 ?_
  | with_reducible refine' Tm.i_tM0 ?_
  | with_reducible refine' Tm.i_kT1 ?_
  | with_reducible refine' Tm.i_kT0 ?_
  | with_reducible refine' Tm.i_kT2 ?_
  | with_reducible refine' Tm.i_starts ?_
  | with_reducible refine' Tm.i_iStr ?_
  | with_reducible refine' Tm.i_kIS ?_)
local macro_rules | `(tactic| walk_at "s") => `(tactic| first
  | ((with_reducible refine' Tm.i_lenS ?l ?_); (case l => first | assumption | decide | (apply L2.sz; first | assumption | omega)))
  | ((with_reducible refine' Tm.i_between ?k ?_); (case k => exact rfl))
  | ((with_reducible refine' Tm.i_all ?k ?_); (case k => walk_at "sq")))
namespace P46
open PySem PySem.Spec PyProof.Rows L2 Tm
abbrev St := L2.St
def topS (i : Nat) : Stmt := PySem.Challenge.pw_tidemark_k46_paths_and_targets.main.body.getD i (.Pass ⟨0, 0, 0, 0⟩)
abbrev s_is_name : Stmt := topS 5
abbrev N_is_name : List Str := ["text", "character"]
theorem sc_is_name : FnScope N_is_name ["text"] (defScope s_is_name) := ⟨rfl, rfl, rfl, by decide +kernel, rfl, by decide +kernel, by decide +kernel⟩
abbrev s_is_path : Stmt := topS 6
abbrev N_is_path : List Str := ["text"]
theorem sc_is_path : FnScope N_is_path ["text"] (defScope s_is_path) := ⟨rfl, rfl, rfl, by decide +kernel, rfl, by decide +kernel, by decide +kernel⟩
abbrev s_is_target : Stmt := topS 7
abbrev N_is_target : List Str := ["text"]
theorem sc_is_target : FnScope N_is_target ["text"] (defScope s_is_target) := ⟨rfl, rfl, rfl, by decide +kernel, rfl, by decide +kernel, by decide +kernel⟩
abbrev s_names_of : Stmt := topS 8
abbrev N_names_of : List Str := ["path", "name"]
theorem sc_names_of : FnScope N_names_of ["path"] (defScope s_names_of) := ⟨rfl, rfl, rfl, by decide +kernel, rfl, by decide +kernel, by decide +kernel⟩
abbrev s__are_names : Stmt := topS 9
abbrev N__are_names : List Str := ["texts", "text"]
theorem sc__are_names : FnScope N__are_names ["texts"] (defScope s__are_names) := ⟨rfl, rfl, rfl, by decide +kernel, rfl, by decide +kernel, by decide +kernel⟩
abbrev s__law_draws : Stmt := topS 11
abbrev N__law_draws : List Str := ["script", "count", "draws", "k", "cell"]
theorem sc__law_draws : FnScope N__law_draws ["script", "count"] (defScope s__law_draws) := ⟨rfl, rfl, rfl, by decide +kernel, rfl, by decide +kernel, by decide +kernel⟩
abbrev s__law_name : Stmt := topS 12
abbrev N__law_name : List Str := ["draw", "chars", "count", "name", "j"]
theorem sc__law_name : FnScope N__law_name ["draw"] (defScope s__law_name) := ⟨rfl, rfl, rfl, by decide +kernel, rfl, by decide +kernel, by decide +kernel⟩
abbrev s__law_text : Stmt := topS 13
abbrev N__law_text : List Str := ["draw", "count", "rest", "names", "mode", "text", "j"]
theorem sc__law_text : FnScope N__law_text ["draw"] (defScope s__law_text) := ⟨rfl, rfl, rfl, by decide +kernel, rfl, by decide +kernel, by decide +kernel⟩
abbrev s__law_is_name : Stmt := topS 14
abbrev N__law_is_name : List Str := ["name", "char"]
theorem sc__law_is_name : FnScope N__law_is_name ["name"] (defScope s__law_is_name) := ⟨rfl, rfl, rfl, by decide +kernel, rfl, by decide +kernel, by decide +kernel⟩
abbrev s__law_row : Stmt := topS 15
abbrev N__law_row : List Str := ["text", "names", "name"]
theorem sc__law_row : FnScope N__law_row ["text"] (defScope s__law_row) := ⟨rfl, rfl, rfl, by decide +kernel, rfl, by decide +kernel, by decide +kernel⟩
abbrev s__law_flag : Stmt := topS 16
abbrev N__law_flag : List Str := ["actual", "due"]
theorem sc__law_flag : FnScope N__law_flag ["actual", "due"] (defScope s__law_flag) := ⟨rfl, rfl, rfl, by decide +kernel, rfl, by decide +kernel, by decide +kernel⟩
abbrev s_law : Stmt := topS 17
abbrev N_law : List Str := ["script", "draw", "text", "absolute", "relative"]
theorem sc_law : FnScope N_law ["script"] (defScope s_law) := ⟨rfl, rfl, rfl, by decide +kernel, rfl, by decide +kernel, by decide +kernel⟩
/-- where the text's things stand -/
structure Ad where
  f_is_name : Addr
  d_is_name : FuncData
  f_is_path : Addr
  d_is_path : FuncData
  f_is_target : Addr
  d_is_target : FuncData
  f_names_of : Addr
  d_names_of : FuncData
  f__are_names : Addr
  d__are_names : FuncData
  f__law_draws : Addr
  d__law_draws : FuncData
  f__law_name : Addr
  d__law_name : FuncData
  f__law_text : Addr
  d__law_text : FuncData
  f__law_is_name : Addr
  d__law_is_name : FuncData
  f__law_row : Addr
  d__law_row : FuncData
  f__law_flag : Addr
  d__law_flag : FuncData
  f_law : Addr
  d_law : FuncData
  v_NAME_CHARACTERS : Value
  v_LONGEST_NAME : Value
  v_LONGEST_PATH : Value
  v_MOST_NAMES : Value
/-- what the top has written -/
structure Txt (w : World) (K : PySem.W.Frag) (mg : Str → Option Value) (a : Ad) : Prop where
  F_is_name : Fun K "is_name" "is_name" s_is_name a.f_is_name a.d_is_name
  b_is_name : Binds K a.d_is_name ["text"] []
  g_is_name : mg "is_name" = some (.ref a.f_is_name)
  F_is_path : Fun K "is_path" "is_path" s_is_path a.f_is_path a.d_is_path
  b_is_path : Binds K a.d_is_path ["text"] []
  g_is_path : mg "is_path" = some (.ref a.f_is_path)
  F_is_target : Fun K "is_target" "is_target" s_is_target a.f_is_target a.d_is_target
  b_is_target : Binds K a.d_is_target ["text"] []
  g_is_target : mg "is_target" = some (.ref a.f_is_target)
  F_names_of : Fun K "names_of" "names_of" s_names_of a.f_names_of a.d_names_of
  b_names_of : Binds K a.d_names_of ["path"] []
  g_names_of : mg "names_of" = some (.ref a.f_names_of)
  F__are_names : Fun K "_are_names" "_are_names" s__are_names a.f__are_names a.d__are_names
  b__are_names : Binds K a.d__are_names ["texts"] []
  g__are_names : mg "_are_names" = some (.ref a.f__are_names)
  F__law_draws : Fun K "_law_draws" "_law_draws" s__law_draws a.f__law_draws a.d__law_draws
  b__law_draws : Binds K a.d__law_draws ["script", "count"] []
  g__law_draws : mg "_law_draws" = some (.ref a.f__law_draws)
  F__law_name : Fun K "_law_name" "_law_name" s__law_name a.f__law_name a.d__law_name
  b__law_name : Binds K a.d__law_name ["draw"] []
  g__law_name : mg "_law_name" = some (.ref a.f__law_name)
  F__law_text : Fun K "_law_text" "_law_text" s__law_text a.f__law_text a.d__law_text
  b__law_text : Binds K a.d__law_text ["draw"] []
  g__law_text : mg "_law_text" = some (.ref a.f__law_text)
  F__law_is_name : Fun K "_law_is_name" "_law_is_name" s__law_is_name a.f__law_is_name a.d__law_is_name
  b__law_is_name : Binds K a.d__law_is_name ["name"] []
  g__law_is_name : mg "_law_is_name" = some (.ref a.f__law_is_name)
  F__law_row : Fun K "_law_row" "_law_row" s__law_row a.f__law_row a.d__law_row
  b__law_row : Binds K a.d__law_row ["text"] []
  g__law_row : mg "_law_row" = some (.ref a.f__law_row)
  F__law_flag : Fun K "_law_flag" "_law_flag" s__law_flag a.f__law_flag a.d__law_flag
  b__law_flag : Binds K a.d__law_flag ["actual", "due"] []
  g__law_flag : mg "_law_flag" = some (.ref a.f__law_flag)
  F_law : Fun K "law" "law" s_law a.f_law a.d_law
  b_law : Binds K a.d_law ["script"] []
  g_law : mg "law" = some (.ref a.f_law)
  z_all : mg "all" = none
  z_len : mg "len" = none
  z_range : mg "range" = none
  z_int : mg "int" = none
  c_NAME_CHARACTERS : mg "NAME_CHARACTERS" = some a.v_NAME_CHARACTERS ∧ RelV (V.str "ABCDEFGHIJKLMNOPQRSTUVWXYZabcdefghijklmnopqrstuvwxyz0123456789_-.") a.v_NAME_CHARACTERS
  c_LONGEST_NAME : mg "LONGEST_NAME" = some a.v_LONGEST_NAME ∧ RelV (V.int 32) a.v_LONGEST_NAME
  c_LONGEST_PATH : mg "LONGEST_PATH" = some a.v_LONGEST_PATH ∧ RelV (V.int 256) a.v_LONGEST_PATH
  c_MOST_NAMES : mg "MOST_NAMES" = some a.v_MOST_NAMES ∧ RelV (V.int 16) a.v_MOST_NAMES

/-! names: what the program's test and the law's test both say -/
def isCh (c : Nat) : Bool := decide (c = 46 ∨ (97 ≤ c ∧ c ≤ 122) ∨ (65 ≤ c ∧ c ≤ 90) ∨ (48 ≤ c ∧ c ≤ 57) ∨ c = 95 ∨ c = 45)
def dots (l : List Nat) : Bool := l.all fun c => decide (c = 46)
def nmL (l : List Nat) : Bool := decide (1 ≤ l.length ∧ l.length ≤ 32) && !dots l && l.all isCh
def nm (z : Str) : Bool := nmL z.cps.toList
def NC : Str := "ABCDEFGHIJKLMNOPQRSTUVWXYZabcdefghijklmnopqrstuvwxyz0123456789_-."
theorem nc_small : ∀ c : Fin 128, decide (c.val ∈ NC.cps.toList) = isCh c.val := by decide +kernel
theorem nc_all : NC.cps.toList.all (fun c => decide (c < 128)) = true := by decide +kernel
theorem nc_iff (c : Nat) : decide (c ∈ NC.cps.toList) = isCh c := by
  by_cases h : c < 128
  · exact nc_small ⟨c, h⟩
  · have h1 : c ∉ NC.cps.toList := fun hm => h (of_decide_eq_true (List.all_eq_true.mp nc_all c hm))
    rw [decide_eq_false h1]
    symm
    unfold isCh
    exact decide_eq_false (by omega)
theorem dot_lit : ("." : Str) = ⟨#[46]⟩ := by decide +kernel
theorem dots_rep (z : Str) : decide (z = repS "." (z.length : Int)) = dots z.cps.toList := by
  rw [dot_lit]
  have e : (repS ⟨#[46]⟩ (z.length : Int)).cps.toList = List.replicate z.cps.toList.length 46 := by rw [repS_one, Int.toNat_natCast, len_cps]
  by_cases h : z.cps.toList = List.replicate z.cps.toList.length 46
  · have h2 : z = repS ⟨#[46]⟩ (z.length : Int) := str_ext (by rw [e]; exact h)
    rw [decide_eq_true h2]
    symm
    refine List.all_eq_true.mpr fun c hc => decide_eq_true ?_
    rw [h] at hc
    exact List.eq_of_mem_replicate hc
  · rw [decide_eq_false (fun h2 => h (by rw [← e, ← h2]))]
    cases hd : dots z.cps.toList
    · rfl
    · refine absurd (List.eq_replicate_iff.mpr ⟨rfl, fun c hc => of_decide_eq_true (List.all_eq_true.mp hd c hc)⟩) h
theorem nm_eq (z : Str) : nm z = (decide (1 ≤ z.length ∧ z.length ≤ 32) && !dots z.cps.toList && z.cps.toList.all isCh) := by
  unfold nm nmL; rw [len_cps]
theorem all_map_id (f : Nat → Bool) (l : List Nat) : (l.map f).all id = l.all f := by rw [List.all_map]; rfl

theorem sl_lit : ("/" : Str) = ⟨#[47]⟩ := by decide +kernel
theorem em_lit : ("" : Str) = ⟨#[]⟩ := by decide +kernel
theorem u_lit : ("_" : Str) = ⟨#[95]⟩ := by decide +kernel
theorem h_lit : ("-" : Str) = ⟨#[45]⟩ := by decide +kernel
theorem szl {n : Nat} (h : n ≤ 100000) : n ≤ sizeLine := Nat.le_trans h (by decide)
theorem abc_len : ("abXY09_-." : Str).length = 9 := by decide +kernel
theorem leqs {ys : List Str} {m : Nat} (h : ∀ y ∈ ys, y.length ≤ m) (y : Str) (hy : y.length ≤ m) : ∀ x ∈ ys ++ [y], x.length ≤ m := fun x hx => by
  rcases List.mem_append.mp hx with hx | hx
  · exact h x hx
  · rw [List.mem_singleton.mp hx]; exact hy
theorem leqs_set {ys : List Str} {m : Nat} (h : ∀ y ∈ ys, y.length ≤ m) (n : Nat) (y : Str) (hy : y.length ≤ m) : ∀ x ∈ ys.set n y, x.length ≤ m := fun x hx => by
  rcases List.mem_or_eq_of_mem_set hx with hx | hx
  · exact h x hx
  · rw [hx]; exact hy
def sps (z : Str) : List Str := Txt.split z ⟨#[47]⟩
def tail (z : Str) : Str := cutS z (some 1) none
def ar (ys : List Str) : Bool := decide (ys.length ≤ 16) && ys.all nm
def hdS (z : Str) : Bool := decide (z.cps.toList.take 1 = [47])
/-- an absolute path -/
def isP (z : Str) : Bool := if z = ⟨#[47]⟩ then true else decide (z.length ≤ 256) && (hdS z && ar (sps (tail z)))
def isR (z : Str) : Bool := decide (z.length ≤ 256) && ar (sps z)
/-- the rows of names that the law keeps -/
def rowA (z : Str) : Option (List Str) := if z = ⟨#[47]⟩ then some [] else if isP z then some (sps (tail z)) else none
def rowR (z : Str) : Option (List Str) := if isR z then some (sps z) else none
def nmsOf (z : Str) : List Str := (sps z).filter fun y => !decide (y = ⟨#[]⟩)
theorem nm_ne {y : Str} (h : nm y = true) : y ≠ ⟨#[]⟩ := by
  rintro rfl
  exact absurd h (by decide)
theorem nm_ok {y : Str} (h : nm y = true) : PyData.strOk y = true := by
  rw [nm_eq, Bool.and_eq_true] at h
  unfold PyData.strOk
  rw [← Array.all_toList]
  refine List.all_eq_true.mpr fun c hc => decide_eq_true ?_
  have := of_decide_eq_true (List.all_eq_true.mp h.2 c hc)
  omega
theorem ar_nm {ys : List Str} (h : ar ys = true) : ∀ y ∈ ys, nm y = true := by
  unfold ar at h
  rw [Bool.and_eq_true] at h
  exact List.all_eq_true.mp h.2
theorem ar_bad {ys : List Str} {i : Nat} {y : Str} (h : ys[i]? = some y) (hy : nm y = false) : ar ys = false := by
  cases e : ar ys
  · rfl
  · have := ar_nm e y (List.mem_of_getElem? h)
    rw [hy] at this; cases this
theorem ar_good {ys : List Str} (h : ys.length ≤ 16) (ha : ys.all nm = true) : ar ys = true := by unfold ar; rw [decide_eq_true h, ha]; rfl
theorem filter_nm {ys : List Str} (h : ar ys = true) : ys.filter (fun y => !decide (y = ⟨#[]⟩)) = ys :=
  List.filter_eq_self.mpr fun y hy => by rw [decide_eq_false (nm_ne (ar_nm h y hy))]; rfl
theorem nms_slash : nmsOf ⟨#[47]⟩ = [] := by
  unfold nmsOf sps
  rw [split_at _ (by decide)]
  show ((TL.spl [47] 0 [] [47]).map SX.S).filter _ = []
  rw [spl_cons, if_pos rfl, TL.spl_nil]
  rfl
theorem rowA_is (z : Str) : (rowA z).isSome = isP z := by
  unfold rowA
  by_cases h : z = ⟨#[47]⟩
  · rw [if_pos h]; unfold isP; rw [if_pos h]; rfl
  · rw [if_neg h]
    cases isP z <;> rfl
theorem rowR_is (z : Str) : (rowR z).isSome = isR z := by
  unfold rowR
  cases isR z <;> rfl
theorem rowR_nms {z : Str} {ys : List Str} (h : rowR z = some ys) : nmsOf z = ys ∧ ∀ y ∈ ys, PyData.strOk y = true := by
  unfold rowR at h
  split at h
  · next h1 =>
    injection h with h
    subst h
    unfold isR at h1
    rw [Bool.and_eq_true] at h1
    exact ⟨filter_nm h1.2, fun y hy => nm_ok (ar_nm h1.2 y hy)⟩
  · cases h
theorem rowA_nms {z : Str} {ys : List Str} (h : rowA z = some ys) : nmsOf z = ys ∧ ∀ y ∈ ys, PyData.strOk y = true := by
  unfold rowA at h
  split at h
  · next h1 =>
    injection h with h
    subst h
    exact ⟨by rw [h1, nms_slash], fun y hy => absurd hy (by simp)⟩
  split at h
  · next h0 h1 =>
    injection h with h
    subst h
    unfold isP at h1
    rw [if_neg h0, Bool.and_eq_true, Bool.and_eq_true] at h1
    have hs := split_head (s := 47) (by decide) (of_decide_eq_true h1.2.1)
    refine ⟨?_, fun y hy => nm_ok (ar_nm h1.2.2 y hy)⟩
    unfold nmsOf sps
    rw [hs, List.filter_cons, if_neg (by simp)]
    exact filter_nm h1.2.2
  · cases h
theorem tail_len (z : Str) : (tail z).length ≤ z.length := by
  rw [← len_cps, ← len_cps]; unfold tail; rw [cut_tail, List.length_drop]; omega
theorem la : ("a" : Str) = ⟨#[97]⟩ := by decide +kernel
theorem lz : ("z" : Str) = ⟨#[122]⟩ := by decide +kernel
theorem lA : ("A" : Str) = ⟨#[65]⟩ := by decide +kernel
theorem lZ : ("Z" : Str) = ⟨#[90]⟩ := by decide +kernel
theorem l0 : ("0" : Str) = ⟨#[48]⟩ := by decide +kernel
theorem l9 : ("9" : Str) = ⟨#[57]⟩ := by decide +kernel
theorem in_three (c : Nat) : inV (.str ⟨#[c]⟩) [.str ⟨#[95]⟩, .str ⟨#[45]⟩, .str ⟨#[46]⟩] = decide (c = 95 ∨ c = 45 ∨ c = 46) := by
  have e : ∀ k : Nat, eqV (.str ⟨#[k]⟩) (.str ⟨#[c]⟩) = decide (c = k) := fun k => by
    show ((⟨#[k]⟩ : Str) == ⟨#[c]⟩) = _
    rw [show ((⟨#[k]⟩ : Str) == ⟨#[c]⟩) = decide ((⟨#[k]⟩ : Str) = ⟨#[c]⟩) by by_cases h : (⟨#[k]⟩ : Str) = ⟨#[c]⟩ <;> simp [h], sg_eq]
    exact decide_eq_decide.mpr ⟨Eq.symm, Eq.symm⟩
  unfold inV
  simp only [List.any_cons, List.any_nil, e, Bool.or_false]
  by_cases h1 : c = 95 <;> by_cases h2 : c = 45 <;> by_cases h3 : c = 46 <;> simp [h1, h2, h3]
theorem nd_iff (l : List Nat) : decide (0 < (l.filter fun c => !decide (c = 46)).length) = !dots l := by
  unfold dots
  induction l with
  | nil => rfl
  | cons c r ih =>
    rw [List.filter_cons, List.all_cons]
    by_cases h : c = 46
    · simp only [h, decide_true, Bool.not_true, Bool.true_and]; exact ih
    · simp [h]
theorem nm_bad {z : Str} {i c : Nat} (h : z.cps.toList[i]? = some c) (hc : isCh c = false) : nm z = false := by
  rw [nm_eq]
  have : z.cps.toList.all isCh = false := by
    cases e : z.cps.toList.all isCh
    · rfl
    · have := List.all_eq_true.mp e c (List.mem_of_getElem? h)
      rw [hc] at this; cases this
  rw [this, Bool.and_false]
/-- a row of names, or none -/
def OV (K : PySem.W.Frag) (H : Hp) (v : V) : Option (List Str) → Prop
  | none => v = .non
  | some ys => ∃ p, v = .ref p ∧ SqL K H p (ys.map V.str)
theorem OV.same {K : PySem.W.Frag} {H H' : Hp} {v : V} (s : Same H H') : ∀ {o : Option (List Str)}, OV K H v o → OV K H' v o
  | none, h => h
  | some _, ⟨p, e, h⟩ => ⟨p, e, s.seq h⟩
theorem OV.non {K : PySem.W.Frag} {H : Hp} {v : V} : ∀ {o : Option (List Str)}, OV K H v o → (!decide (v = V.non)) = o.isSome
  | none, h => by rw [show v = V.non from h]; rfl
  | some _, ⟨p, e, h⟩ => by rw [e]; rfl

section
variable {P : Program} {w : World} {K : PySem.W.Frag} {mg : Str → Option Value} {base : Heap} {a : Ad}
def sp_is_name (K : PySem.W.Frag) : Sp := fun vs H Q _ => ∃ (z : Str), vs = [.str z] ∧ z.length ≤ 100000 ∧ ∀ H', Same H H' → Q (.bl (nm z)) H'
set_option maxHeartbeats 20000000 in
theorem ok_is_name (T : Txt w K mg a) : FnOk P w K mg base CX0 1 a.f_is_name a.d_is_name ["text"] (sp_is_name K) := by
  refine T.F_is_name.ok sc_is_name (fun vs H Q E h => ?_) (fun cdv A outer s H vs Q E hr h => ?_)
  · obtain ⟨z, rfl, hz, q⟩ := h
    rfl
  · obtain ⟨z, rfl, hz, q⟩ := h
    refine ⟨_, (pss_cons (ps_if (PW.pt (pw_or (pt_not (pt_chain op_le op_le pe_int (pe_callB c_lenS (by rfl) T.z_len (by decide +kernel) (pa_cons (pv 0) pa_nil)) (pe_glob rfl T.c_LONGEST_NAME.1 T.c_LONGEST_NAME.2))) (pw_or1 (pt_cmpR op_eq (pv 0) (pe_op op_mulS pe_str (pe_callB c_lenS (by rfl) T.z_len (by decide +kernel) (pa_cons (pv 0) pa_nil))) (nomark _))))) (pss_one (ps_ret pe_bl)) pss_nil)
        (pss_one (ps_ret (pe_callB (q_all (K := K) rfl) (by rfl) T.z_all (by decide +kernel) (pa_cons (pe_lc (own := [("character", 1)]) (g := gName 1) (tt := tYes) rfl sc_is_name.nd (pi_str (pv 0)) (blkOk_by (own := [("character", 1)]) (N := N_is_name) (sc := defScope s_is_name) (by decide +kernel)) (fun _ _ _ _ _ => pg_name (i := 1) sc_is_name.nd rfl (Or.inl rfl)) (fun _ _ _ _ _ => pts_nil) (fun _ _ _ _ _ => (pe_cmpR q_inSg (pv 1) (pe_glob rfl T.c_NAME_CHARACTERS.1 T.c_NAME_CHARACTERS.2) (by rfl)))) pa_nil))))), ?_⟩
    refine i_st (σ' := [some (.str z), none]) rfl ?_
    have hz' : z.length ≤ sizeLine := Nat.le_trans hz (by decide)
    walk_at "go"
    refine i_kC2' (fun h => ?_) (fun h => ?_)
    rotate_left
    case _ =>
      have h1 : (decide (1 ≤ z.length ∧ z.length ≤ 32)) = false := decide_eq_false (fun h2 => (of_decide_eq_false h) (by omega))
      walk_at "go"
      have := q H (Same.refl H)
      rw [nm_eq, h1] at this
      exact this
    have hlo := of_decide_eq_true h
    walk_at "go"
    refine i_kOr (fun h => ?_) (fun h => ?_)
    case _ =>
      have h1 : (decide (1 ≤ z.length ∧ z.length ≤ 32)) = false := decide_eq_false (fun h2 => by simp at h; omega)
      walk_at "go"
      have := q H (Same.refl H)
      rw [nm_eq, h1] at this
      exact this
    have hhi : z.length ≤ 32 := by simp at h; omega
    walk_at "go"
    refine i_mulS (by decide) (by rw [Int.toNat_natCast, show ("." : Str).length = 1 by decide]; omega) (by omega) (by omega) ?_
    walk_at "go"
    rw [dots_rep]
    have hlen : decide (1 ≤ z.length ∧ z.length ≤ 32) = true := decide_eq_true (by omega)
    cases hd : dots z.cps.toList
    case true =>
      walk_at "go"
      have := q H (Same.refl H)
      rw [nm_eq, hlen, hd] at this
      exact this
    walk_at "go"
    refine i_lcS (fun D i H' => Same H H' ∧ H' D = some (.lst (((z.cps.toList.take i).map isCh).map V.bl))) (fun D hD => ⟨same_upd hD, upd_same⟩) ?_ ?_
    · rintro D i c H' hD hc ⟨sm, hO⟩
      have hi : i < z.cps.toList.length := (List.getElem?_eq_some_iff.mp hc).1
      rw [len_cps] at hi
      walk_at "go"
      rw [show ("ABCDEFGHIJKLMNOPQRSTUVWXYZabcdefghijklmnopqrstuvwxyz0123456789_-." : Str) = NC from rfl, nc_iff]
      refine i_kLc3 hO (small1000 (by rw [List.length_map, List.length_map, List.length_take]; omega)) ⟨same_wr hD sm, ?_⟩
      rw [upd_same, List.take_add_one, hc, List.map_append, List.map_append]; rfl
    rintro D H' hD ⟨sm, hO⟩
    rw [List.take_length] at hO
    walk_at "go"
    have := q H' sm
    rw [nm_eq, hlen, hd] at this
    rw [all_map_id]
    exact this
def sp__are_names (K : PySem.W.Frag) : Sp := fun vs H Q _ => ∃ (p : Addr) (ys : List Str), vs = [.ref p] ∧ SqL K H p (ys.map V.str) ∧ (∀ y ∈ ys, y.length ≤ 10000) ∧ ∀ H', Same H H' → Q (.bl (ar ys)) H'
set_option maxHeartbeats 20000000 in
theorem ok__are_names (T : Txt w K mg a) : FnOk P w K mg base CX0 2 a.f__are_names a.d__are_names ["texts"] (sp__are_names K) := by
  refine T.F__are_names.ok sc__are_names (fun vs H Q E h => ?_) (fun cdv A outer s H vs Q E hr h => ?_)
  · obtain ⟨p, ys, rfl, hp, hy, q⟩ := h
    rfl
  · obtain ⟨p, ys, rfl, hp, hy, q⟩ := h
    refine ⟨_, (pss_one (ps_ret (pe_and (pe_cmpR op_le (pe_callB (q_len (K := K)) (by rfl) T.z_len (by decide +kernel) (pa_cons (pv 0) pa_nil)) (pe_glob rfl T.c_MOST_NAMES.1 T.c_MOST_NAMES.2) (nomark _)) (pe_one (pe_callB (q_all (K := K) rfl) (by rfl) T.z_all (by decide +kernel) (pa_cons (pe_lc (own := [("text", 1)]) (g := gName 1) (tt := tYes) rfl sc__are_names.nd (q_pil (K := K) (pv 0)) (blkOk_by (own := [("text", 1)]) (N := N__are_names) (sc := defScope s__are_names) (by decide +kernel)) (fun _ _ _ _ _ => pg_name (i := 1) sc__are_names.nd rfl (Or.inl rfl)) (fun _ _ _ _ _ => pts_nil) (fun _ _ _ _ _ => (pe_call (ok_is_name (K := K) T) (hr.mono (by decide)) (by rfl) T.g_is_name T.F_is_name.kp T.b_is_name .nil pass0 (pa_cons (pv 1) pa_nil)))) pa_nil)))))), ?_⟩
    refine i_st (σ' := [some (.ref p), none]) rfl ?_
    walk_at "go"
    unfold ar at q
    refine i_kAndV (fun h => ?_) (fun h => ?_)
    rotate_left
    · have h1 := of_decide_eq_false h
      rw [List.length_map] at h1
      have := q H (Same.refl H)
      rw [decide_eq_false (by omega)] at this
      exact this
    have h1 := of_decide_eq_true h
    rw [List.length_map] at h1
    have hle : ys.length ≤ 16 := by omega
    rw [decide_eq_true hle] at q
    walk_at "go"
    refine i_lcL (ys.map V.str) (fun D i H' => Same H H' ∧ H' D = some (.lst (((ys.take i).map nm).map V.bl))) (fun D hD => ⟨same_upd hD, upd_same⟩) ?_ ?_ ?_
    · rintro D i H' _ _ ⟨sm, _⟩
      exact sm.seq hp
    · rintro D i x H' hD hx ⟨sm, hO⟩
      obtain ⟨y, hy2, rfl⟩ := map_at hx
      have hi : i < ys.length := (List.getElem?_eq_some_iff.mp hy2).1
      have hyl := hy y (List.mem_of_getElem? hy2)
      walk_at "go"
      refine ⟨y, rfl, by omega, fun H2 sm2 => ?_⟩
      refine i_kLc3 (sm2 _ _ hO) (small1000 (by rw [List.length_map, List.length_map, List.length_take]; omega)) ⟨same_wr hD (Same.trans sm sm2), ?_⟩
      rw [upd_same, List.take_add_one, hy2, List.map_append, List.map_append]; rfl
    rintro D H' hD ⟨sm, hO⟩
    rw [List.length_map, List.take_length] at hO
    walk_at "go"
    have := q H' sm
    rw [show ((ys.map nm).all id) = ys.all nm by rw [List.all_map]; rfl]
    exact this
def sp_is_path (K : PySem.W.Frag) : Sp := fun vs H Q _ => ∃ (z : Str), vs = [.str z] ∧ z.length ≤ 10000 ∧ ∀ H', Same H H' → Q (.bl (isP z)) H'
set_option maxHeartbeats 20000000 in
theorem ok_is_path (T : Txt w K mg a) : FnOk P w K mg base CX0 3 a.f_is_path a.d_is_path ["text"] (sp_is_path K) := by
  refine T.F_is_path.ok sc_is_path (fun vs H Q E h => ?_) (fun cdv A outer s H vs Q E hr h => ?_)
  · obtain ⟨z, rfl, hz, q⟩ := h
    rfl
  · obtain ⟨z, rfl, hz, q⟩ := h
    refine ⟨_, (pss_cons (ps_if (pt_cmpR op_eq (pv 0) pe_str (nomark _)) (pss_one (ps_ret pe_bl)) pss_nil)
        (pss_one (ps_ret (pe_and (pe_cmpR op_le (pe_callB c_lenS (by rfl) T.z_len (by decide +kernel) (pa_cons (pv 0) pa_nil)) (pe_glob rfl T.c_LONGEST_PATH.1 T.c_LONGEST_PATH.2) (nomark _)) (pe_and (pe_m1 PySem.F.slot_str_startswith PySem.F.type_str_startswith q_starts (pv 0) pe_str) (pe_one (pe_call (ok__are_names (K := K) T) (hr.mono (by decide)) (by rfl) T.g__are_names T.F__are_names.kp T.b__are_names .nil pass0 (pa_cons (pe_m1 PySem.F.slot_str_split PySem.F.type_str_split q_split (pe_slice sl_str (pv 0) (po_some pe_int) po_none) pe_str) pa_nil)))))))), ?_⟩
    refine i_st (σ' := [some (.str z)]) rfl ?_
    have hz' : z.length ≤ sizeLine := Nat.le_trans hz (by decide)
    rw [sl_lit]
    walk_at "go"
    unfold isP at q
    by_cases hs : z = ⟨#[47]⟩
    · rw [decide_eq_true hs]
      rw [if_pos hs] at q
      walk_at "go"
      exact q H (Same.refl H)
    rw [decide_eq_false hs]
    rw [if_neg hs] at q
    walk_at "go"
    refine i_kAndV (fun h => ?_) (fun h => ?_)
    rotate_left
    · have h1 := of_decide_eq_false h
      have := q H (Same.refl H)
      rw [decide_eq_false (by omega)] at this
      exact this
    have h1 := of_decide_eq_true h
    rw [decide_eq_true (by omega)] at q
    walk_at "go"
    rw [starts_sg]
    refine i_kAndV (fun h => ?_) (fun h => ?_)
    rotate_left
    · have := q H (Same.refl H)
      unfold hdS at this
      rw [h] at this
      exact this
    unfold hdS at q
    rw [h] at q
    walk_at "go"
    refine i_slS hz' ?_
    have ht := tail_len z
    unfold tail at ht
    walk_at "go"
    refine i_split rfl (szl (by omega)) fun p hp => ?_
    walk_at "go"
    refine ⟨p, sps (tail z), rfl, SqL.of upd_same, fun y hy => ?_, fun H' sm => ?_⟩
    · have := split_part_len (tail z) (s := 47) (by decide) y hy
      unfold tail at this
      omega
    exact q H' (Same.trans (same_upd hp) sm)
def sp_is_target (K : PySem.W.Frag) : Sp := fun vs H Q _ => ∃ (z : Str), vs = [.str z] ∧ z.length ≤ 10000 ∧ ∀ H', Same H H' → Q (.bl (isP z || isR z)) H'
set_option maxHeartbeats 20000000 in
theorem ok_is_target (T : Txt w K mg a) : FnOk P w K mg base CX0 4 a.f_is_target a.d_is_target ["text"] (sp_is_target K) := by
  refine T.F_is_target.ok sc_is_target (fun vs H Q E h => ?_) (fun cdv A outer s H vs Q E hr h => ?_)
  · obtain ⟨z, rfl, hz, q⟩ := h
    rfl
  · obtain ⟨z, rfl, hz, q⟩ := h
    refine ⟨_, (pss_one (ps_ret (pe_or (pe_call (ok_is_path (K := K) T) (hr.mono (by decide)) (by rfl) T.g_is_path T.F_is_path.kp T.b_is_path .nil pass0 (pa_cons (pv 0) pa_nil)) (pe_one (pe_and (pe_cmpR op_le (pe_callB c_lenS (by rfl) T.z_len (by decide +kernel) (pa_cons (pv 0) pa_nil)) (pe_glob rfl T.c_LONGEST_PATH.1 T.c_LONGEST_PATH.2) (nomark _)) (pe_one (pe_call (ok__are_names (K := K) T) (hr.mono (by decide)) (by rfl) T.g__are_names T.F__are_names.kp T.b__are_names .nil pass0 (pa_cons (pe_m1 PySem.F.slot_str_split PySem.F.type_str_split q_split (pv 0) pe_str) pa_nil)))))))), ?_⟩
    refine i_st (σ' := [some (.str z)]) rfl ?_
    have hz' : z.length ≤ sizeLine := Nat.le_trans hz (by decide)
    rw [sl_lit]
    walk_at "go"
    refine ⟨z, rfl, hz, fun H1 sm1 => ?_⟩
    refine i_kOrV (fun h => ?_) (fun h => ?_)
    · have := q H1 sm1
      rw [h] at this
      exact this
    rw [h, Bool.false_or] at q
    unfold isR at q
    walk_at "go"
    refine i_kAndV (fun h => ?_) (fun h => ?_)
    rotate_left
    · have h1 := of_decide_eq_false h
      have := q H1 sm1
      rw [decide_eq_false (by omega)] at this
      exact this
    have h1 := of_decide_eq_true h
    rw [decide_eq_true (by omega)] at q
    walk_at "go"
    refine i_split rfl (szl (by omega)) fun p hp => ?_
    walk_at "go"
    refine ⟨p, sps z, rfl, SqL.of upd_same, fun y hy => ?_, fun H' sm => ?_⟩
    · have := split_part_len z (s := 47) (by decide) y hy
      omega
    exact q H' (Same.trans sm1 (Same.trans (same_upd hp) sm))
def sp_names_of (K : PySem.W.Frag) : Sp := fun vs H Q _ => ∃ (z : Str), vs = [.str z] ∧ z.length ≤ 10000 ∧ ∀ H' p, Same H H' → H p = none → H' p = some (.lst ((nmsOf z).map V.str)) → Q (.ref p) H'
set_option maxHeartbeats 20000000 in
theorem ok_names_of (T : Txt w K mg a) : FnOk P w K mg base CX0 1 a.f_names_of a.d_names_of ["path"] (sp_names_of K) := by
  refine T.F_names_of.ok sc_names_of (fun vs H Q E h => ?_) (fun cdv A outer s H vs Q E hr h => ?_)
  · obtain ⟨z, rfl, hz, q⟩ := h
    rfl
  · obtain ⟨z, rfl, hz, q⟩ := h
    refine ⟨_, (pss_one (ps_ret (pe_lc (own := [("name", 1)]) (g := gName 1) rfl sc_names_of.nd (q_pil (K := K) (pe_m1 PySem.F.slot_str_split PySem.F.type_str_split q_split (pv 0) pe_str)) (blkOk_by (own := [("name", 1)]) (N := N_names_of) (sc := defScope s_names_of) (by decide +kernel)) (fun _ _ _ _ _ => pg_name (i := 1) sc_names_of.nd rfl (Or.inl rfl)) (fun _ _ _ _ _ => (pts_one (pt_cmpR op_ne (pv 1) pe_str (nomark _)))) (fun _ _ _ _ _ => (pv 1))))), ?_⟩
    refine i_st (σ' := [some (.str z), none]) rfl ?_
    rw [sl_lit, em_lit]
    walk_at "go"
    refine i_split rfl (szl (by omega)) fun t ht => ?_
    have hcount := split_count z (s := 47) (by decide)
    walk_at "go"
    refine i_lcL ((sps z).map V.str) (fun D i H' => Same (upd H t (.lst ((sps z).map V.str))) H' ∧ H' D = some (.lst ((((sps z).take i).filter fun y => !decide (y = ⟨#[]⟩)).map V.str))) (fun D hD => ⟨same_upd hD, upd_same⟩) ?_ ?_ ?_
    · rintro D i H' _ _ ⟨sm, _⟩
      exact sm.seq (SqL.of upd_same)
    · rintro D i x H' hD hx ⟨sm, hO⟩
      obtain ⟨y, hy2, rfl⟩ := map_at hx
      have et : (sps z).take (i + 1) = (sps z).take i ++ [y] := by rw [List.take_add_one, hy2]; rfl
      walk_at "go"
      by_cases he : y = ⟨#[]⟩
      · rw [decide_eq_true he, Bool.not_true]
        walk_at "go"
        refine ⟨sm, ?_⟩
        rw [hO, et, List.filter_append, he]; simp
      · rw [decide_eq_false he, Bool.not_false]
        walk_at "go"
        refine i_kLc3 hO ?_ ⟨same_wr hD sm, ?_⟩
        · refine bigl (Nat.le_trans (m := (sps z).length) ?_ (by unfold sps; omega))
          rw [List.length_map]
          exact Nat.le_trans (List.length_filter_le ..) (by rw [List.length_take]; omega)
        · rw [upd_same, et, List.filter_append, List.map_append]; simp [he]
    rintro D H' hD ⟨sm, hO⟩
    rw [List.length_map, List.take_length] at hO
    exact q H' D (Same.trans (same_upd ht) sm) (free_upd hD).2 hO
def sp__law_draws (K : PySem.W.Frag) : Sp := fun vs H Q _ => ∃ (b : Addr) (ns : List Int) (n : Int), vs = [.ref b, .int n] ∧ SqL K H b (ns.map V.int) ∧ 0 ≤ n ∧ n ≤ 63 ∧
  ∀ H' p (ds : List Int), Same H H' → H p = none → H' p = some (.lst (ds.map V.int)) → ds.length = n.toNat → (∀ d ∈ ds, 0 ≤ d) → Q (.ref p) H'
set_option maxHeartbeats 20000000 in
theorem ok__law_draws (T : Txt w K mg a) : FnOk P w K mg base CX0 1 a.f__law_draws a.d__law_draws ["script", "count"] (sp__law_draws K) := by
  refine T.F__law_draws.ok sc__law_draws (fun vs H Q E h => ?_) (fun cdv A outer s H vs Q E hr h => ?_)
  · obtain ⟨b, ns, n, rfl, hS, n0, n1, q⟩ := h
    rfl
  · obtain ⟨b, ns, n, rfl, hS, n0, n1, q⟩ := h
    refine ⟨_, (pss_cons (ps_set (i := 2) sc__law_draws.nd rfl (.inl rfl) (pe_lst pa_nil))
        (pss_cons (ps_for PassesOwn.never rfl (pi_range1 (by rfl) T.z_range (pa_cons (pv 1) pa_nil)) (pg_name (i := 3) sc__law_draws.nd rfl (.inl rfl)) (pss_cons (ps_set (i := 4) sc__law_draws.nd rfl (.inl rfl) pe_int)
        (C8.pss_cut (ps_if (pt_cmpR op_gt (pe_callB (q_len (K := K)) (by rfl) T.z_len (by decide +kernel) (pa_cons (pv 0) pa_nil)) pe_int (nomark _)) (pss_one (ps_set (i := 4) sc__law_draws.nd rfl (.inl rfl) (pe_callTy c_int (by rfl) T.z_int (by decide +kernel) (pa_cons (pe_ix (q_ixl (K := K)) (pv 0) (pe_op op_mod (pe_callTy c_int (by rfl) T.z_int (by decide +kernel) (pa_cons (pv 3) pa_nil)) (pe_callB (q_len (K := K)) (by rfl) T.z_len (by decide +kernel) (pa_cons (pv 0) pa_nil))) (fun _ _ => rfl)) pa_nil)))) pss_nil)
        (C8.pss_cut (ps_if (pt_cmpR op_lt (pv 4) pe_int (nomark _)) (pss_one (ps_set (i := 4) sc__law_draws.nd rfl (.inl rfl) (pe_op op_sub pe_int (pe_op op_mul pe_int (pv 4))))) pss_nil)
        (C8.pss_cut (ps_if (PW.pt (pw_or (pt_cmpR op_ge (pv 3) (pe_callB (q_len (K := K)) (by rfl) T.z_len (by decide +kernel) (pa_cons (pv 0) pa_nil)) (nomark _)) (pw_or1 (pt_cmpR op_lt (pv 4) pe_int (nomark _))))) (pss_cons (ps_set (i := 4) sc__law_draws.nd rfl (.inl rfl) (pe_op op_mod (pe_callTy c_int (by rfl) T.z_int (by decide +kernel) (pa_cons (pe_op op_add (pe_op op_mul (pe_op op_add (pe_op op_add (pv 4) (pe_op op_mul pe_int (pv 3))) pe_int) pe_int) (pe_op op_mul (pe_op op_mul (pv 3) (pv 3)) pe_int)) pa_nil)) pe_int))
        (pss_one (ps_set (i := 4) sc__law_draws.nd rfl (.inl rfl) (pe_op op_mod (pe_callTy c_int (by rfl) T.z_int (by decide +kernel) (pa_cons (pe_op op_mul (pe_op op_add (pe_op op_add (pv 4) (pe_op op_mul pe_int (pv 3))) pe_int) pe_int) pa_nil)) pe_int)))) pss_nil)
        (pss_one (ps_expr (pe_bm PySem.F.plainAttrs_list PySem.F.slot_list_append PySem.F.type_list_append mt_append (pv 2) (pa_cons (pv 4) pa_nil)))))))))
        (pss_one (ps_ret (pv 2))))), ?_⟩
    refine i_st (σ' := [some (.ref b), some (.int n), none, none, none]) rfl ?_
    walk_at "go"
    refine i_kLst (Nat.zero_le _) fun p hp => ?_
    walk_at "go"
    refine i_forR0 (fun i σ H1 => ∃ (ds : List Int) (y3 y4 : Option V), σ = [some (.ref b), some (.int n), some (.ref p), y3, y4] ∧ Same H H1 ∧ H1 p = some (.lst (ds.map V.int)) ∧ ds.length = i ∧ ∀ d ∈ ds, 0 ≤ d)
      ⟨[], none, none, rfl, same_upd hp, upd_same, rfl, by simp⟩ ?_ ?_
    · rintro i σ H1 hi ⟨ds, y3, y4, rfl, sm, hP, hl, h0⟩
      have hS1 : SqL K H1 b (ns.map V.int) := sm.seq hS
      have hlen : ((ns.map V.int).length : Int) = ns.length := by rw [List.length_map]
      walk_at "go"
      refine i_cut (fun σ' H' => H' = H1 ∧ ∃ c : Int, σ' = [some (.ref b), some (.int n), some (.ref p), some (.int i), some (.int c)]) ?_ ?_
      · walk_at "go"
        refine i_kIfd (fun h => ?_) (fun h => ?_)
        · walk_at "go"
          rw [hlen] at h
          have hlt := Int.emod_lt_of_pos (i : Int) h
          have hge := Int.emod_nonneg (i : Int) (Int.ne_of_gt h)
          rw [hlen]
          refine i_ixL hS1 (atI_map V.int ns _ 0 hge hlt) ?_
          walk_at "go"
          exact ⟨rfl, _, rfl⟩
        · walk_at "go"
          exact ⟨rfl, _, rfl⟩
      rintro σ2 H2 ⟨rfl, c, rfl⟩
      refine i_cut (fun σ' H' => H' = H2 ∧ ∃ c : Int, 0 ≤ c ∧ σ' = [some (.ref b), some (.int n), some (.ref p), some (.int i), some (.int c)]) ?_ ?_
      · walk_at "go"
        refine i_kIfd (fun h => ?_) (fun h => ?_)
        · walk_at "go"
          exact ⟨rfl, _, by omega, rfl⟩
        · walk_at "go"
          exact ⟨rfl, _, by omega, rfl⟩
      rintro σ3 H3 ⟨rfl, c2, hc2, rfl⟩
      refine i_cut (fun σ' H' => H' = H3 ∧ ∃ c : Int, 0 ≤ c ∧ σ' = [some (.ref b), some (.int n), some (.ref p), some (.int i), some (.int c)]) ?_ ?_
      · walk_at "go"
        refine i_kOr (fun _ => ?_) (fun _ => ?_)
        · walk_at "go"
          exact ⟨rfl, _, Int.emod_nonneg _ (by decide), rfl⟩
        · walk_at "go"
          refine i_kIfd (fun h => ?_) (fun h => ?_)
          · walk_at "go"
            exact ⟨rfl, _, Int.emod_nonneg _ (by decide), rfl⟩
          · walk_at "go"
            exact ⟨rfl, _, hc2, rfl⟩
      rintro σ4 H4 ⟨rfl, c3, hc3, rfl⟩
      walk_at "go"
      refine i_append hP (small1000 (by rw [List.length_map]; omega)) ?_
      walk_at "go"
      refine ⟨ds ++ [c3], _, _, rfl, fun x o e => upd_get (ne_of_none e hp) (sm x o e), by rw [upd_same, List.map_append]; rfl, by rw [List.length_append, hl]; rfl, fun d hd => ?_⟩
      rcases List.mem_append.mp hd with hd | hd
      · exact h0 d hd
      · rw [List.mem_singleton.mp hd]; exact hc3
    · rintro σ H1 ⟨ds, y3, y4, rfl, sm, hP, hl, h0⟩
      walk_at "go"
      exact q H1 p ds sm hp hP hl h0
def sp__law_name (K : PySem.W.Frag) : Sp := fun vs H Q _ => ∃ (d : Int), vs = [.int d] ∧ 0 ≤ d ∧ ∀ (z : Str) H', Same H H' → z.length ≤ 30 → Q (.str z) H'
set_option maxHeartbeats 20000000 in
theorem ok__law_name (T : Txt w K mg a) : FnOk P w K mg base CX0 1 a.f__law_name a.d__law_name ["draw"] (sp__law_name K) := by
  refine T.F__law_name.ok sc__law_name (fun vs H Q E h => ?_) (fun cdv A outer s H vs Q E hr h => ?_)
  · obtain ⟨d, rfl, d0, q⟩ := h
    rfl
  · obtain ⟨d, rfl, d0, q⟩ := h
    refine ⟨_, (pss_cons (ps_set (i := 1) sc__law_name.nd rfl (.inr rfl) pe_str)
        (pss_cons (ps_set (i := 2) sc__law_name.nd rfl (.inl rfl) (pe_ix (q_ixl (K := K)) (pe_lst (pa_cons pe_int (pa_cons pe_int (pa_cons pe_int (pa_cons pe_int (pa_cons pe_int (pa_cons pe_int pa_nil))))))) (pe_op op_mod (pe_callTy c_int (by rfl) T.z_int (by decide +kernel) (pa_cons (pv 0) pa_nil)) pe_int) (fun _ _ => rfl)))
        (pss_cons (ps_set (i := 3) sc__law_name.nd rfl (.inl rfl) (pe_m1 PySem.F.slot_str_join PySem.F.type_str_join (q_join (K := K)) pe_str (pe_lc (own := [("j", 4)]) (g := gName 4) (tt := tYes) rfl sc__law_name.nd (pi_range1 (by rfl) T.z_range (pa_cons (pv 2) pa_nil)) (blkOk_by (own := [("j", 4)]) (N := N__law_name) (sc := defScope s__law_name) (by decide +kernel)) (fun _ _ _ _ _ => pg_name (i := 4) sc__law_name.nd rfl (Or.inl rfl)) (fun _ _ _ _ _ => pts_nil) (fun _ _ _ _ _ => (pe_ix ix_str (pv 1) (pe_op op_mod (pe_callTy c_int (by rfl) T.z_int (by decide +kernel) (pa_cons (pe_op op_add (pe_op op_fdiv (pv 0) pe_int) (pe_op op_mul pe_int (pv 4))) pa_nil)) pe_int) (fun _ _ => rfl))))))
        (pss_cons (ps_if (PW.pt (pw_and (pt_cmpR op_gt (pe_op op_mod (pe_callTy c_int (by rfl) T.z_int (by decide +kernel) (pa_cons (pe_op op_fdiv (pv 0) pe_int) pa_nil)) pe_int) pe_int (nomark _)) (pw_and1 (pt_cmpR op_eq (pe_m1 PySem.F.slot_str_strip PySem.F.type_str_strip q_stripC (pv 3) pe_str) pe_str (nomark _))))) (pss_one (ps_ret (pe_op q_addS pe_str (pv 3)))) pss_nil)
        (pss_one (ps_ret (pv 3))))))), ?_⟩
    refine i_st (σ' := [some (.int d), none, none, none, none]) rfl ?_
    walk_at "go"
    refine i_kLst (sz (by simp)) fun p hp => ?_
    walk_at "go"
    refine i_ixL (v := V.int (([1, 1, 2, 3, 14, 20] : List Int).getD (d % 6).toNat 0)) (xs := ([1, 1, 2, 3, 14, 20] : List Int).map V.int) (SqL.of upd_same) (atI_map V.int _ _ 0 (by omega) (by show d % 6 < 6; omega)) ?_
    have hc : 0 ≤ ([1, 1, 2, 3, 14, 20] : List Int).getD (d % 6).toNat 0 ∧ ([1, 1, 2, 3, 14, 20] : List Int).getD (d % 6).toNat 0 ≤ 20 :=
      getD_all (p := fun x : Int => 0 ≤ x ∧ x ≤ 20) (by decide) (by decide) _
    generalize ([1, 1, 2, 3, 14, 20] : List Int).getD (d % 6).toNat 0 = c at hc ⊢
    generalize hH : upd H p _ = H1
    have sm1 : Same H H1 := by rw [← hH]; exact same_upd hp
    walk_at "go"
    refine i_lcR0 (fun D i H' => Same H1 H' ∧ ∃ ys : List Str, H' D = some (.lst (ys.map V.str)) ∧ ys.length = i ∧ ∀ y ∈ ys, y.length ≤ 1) (fun D hD => ⟨same_upd hD, [], upd_same, rfl, by simp⟩) ?_ ?_
    · rintro D i H' hD hi ⟨sm, ys, hO, hl, h1⟩
      walk_at "go"
      refine i_ixSx (by decide +kernel) (by omega) (by rw [abc_len]; omega) fun c' _ => ?_
      exact i_kLc3 hO (small1000 (by rw [List.length_map]; omega)) ⟨same_wr hD sm, ys ++ [⟨#[c']⟩], by rw [upd_same, List.map_append]; rfl, by rw [List.length_append, hl]; rfl, leqs h1 ⟨#[c']⟩ (Nat.le_refl 1)⟩
    rintro D H' hD ⟨sm, ys, hO, hl, h1⟩
    have hsum := sum_le h1
    have hj := join_len "" ys
    have he : ("" : Str).length = 0 := by decide +kernel
    rw [he] at hj
    walk_at "go"
    refine i_joinL ys (SqL.of hO) (by rw [he]; omega) ?_
    have hz : (Txt.join "" ys).length ≤ 20 := by omega
    generalize Txt.join "" ys = z at hz ⊢
    walk_at "go"
    refine i_kAnd (fun h => ?_) (fun h => ?_)
    · walk_at "go"
      refine i_stripC (sz (by omega)) ?_
      walk_at "go"
      refine i_kIfd (fun h => ?_) (fun h => ?_)
      · walk_at "go"
        have h1 : ("z" : Str).length = 1 := by decide +kernel
        refine i_addS (sz (by rw [h1]; omega)) ?_
        exact q _ H' (Same.trans sm1 sm) (by rw [cat_len, h1]; omega)
      · walk_at "go"
        exact q _ H' (Same.trans sm1 sm) (by omega)
    · walk_at "go"
      exact q _ H' (Same.trans sm1 sm) (by omega)
def sp__law_text (K : PySem.W.Frag) : Sp := fun vs H Q _ => ∃ (d : Int), vs = [.int d] ∧ 0 ≤ d ∧ ∀ (z : Str) H', Same H H' → z.length ≤ 1000 → Q (.str z) H'
set_option maxHeartbeats 20000000 in
theorem ok__law_text (T : Txt w K mg a) : FnOk P w K mg base CX0 2 a.f__law_text a.d__law_text ["draw"] (sp__law_text K) := by
  refine T.F__law_text.ok sc__law_text (fun vs H Q E h => ?_) (fun cdv A outer s H vs Q E hr h => ?_)
  · obtain ⟨d, rfl, d0, q⟩ := h
    rfl
  · obtain ⟨d, rfl, d0, q⟩ := h
    refine ⟨_, (pss_cons (ps_set (i := 1) sc__law_text.nd rfl (.inl rfl) (pe_ix (q_ixl (K := K)) (pe_lst (pa_cons pe_int (pa_cons pe_int (pa_cons pe_int (pa_cons pe_int (pa_cons pe_int (pa_cons pe_int (pa_cons pe_int (pa_cons pe_int (pa_cons pe_int (pa_cons pe_int pa_nil))))))))))) (pe_op op_mod (pe_callTy c_int (by rfl) T.z_int (by decide +kernel) (pa_cons (pv 0) pa_nil)) pe_int) (fun _ _ => rfl)))
        (pss_cons (ps_set (i := 2) sc__law_text.nd rfl (.inr rfl) (pe_callTy c_int (by rfl) T.z_int (by decide +kernel) (pa_cons (pe_op op_fdiv (pv 0) pe_int) pa_nil)))
        (pss_cons (ps_setLc (i := 3) (own := [("j", 6)]) (g := gName 6) (tt := tYes) rfl sc__law_text.nd rfl rfl (sw_true rfl rfl rfl (by decide +kernel)) (pi_range1 (by rfl) T.z_range (pa_cons (pv 1) pa_nil)) (blkOk_by (own := [("j", 6)]) (N := N__law_text) (sc := defScope s__law_text) (by decide +kernel)) (fun _ _ _ _ _ => pg_name (i := 6) sc__law_text.nd rfl (Or.inl rfl)) (fun _ _ _ _ _ => pts_nil) (fun _ _ _ _ _ => (pe_call (ok__law_name (K := K) T) (hr.mono (by decide)) (by rfl) T.g__law_name T.F__law_name.kp T.b__law_name .nil pass0 (pa_cons (pe_op op_add (pe_op op_fdiv (pv 2) (pe_op op_add (pv 6) pe_int)) (pe_op op_mul pe_int (pv 6))) pa_nil))))
        (pss_cons (ps_set (i := 4) sc__law_text.nd rfl (.inl rfl) (pe_op op_mod (pe_callTy c_int (by rfl) T.z_int (by decide +kernel) (pa_cons (pv 2) pa_nil)) pe_int))
        (C8.pss_cut (ps_if (PW.pt (pw_and (pt_cmpR op_eq (pv 4) pe_int (nomark _)) (pw_and1 (pt_cmpR op_gt (pv 1) pe_int (nomark _))))) (pss_one (ps_asg pe_str (pg_sub (pv 3) (pe_op op_mod (pe_callTy c_int (by rfl) T.z_int (by decide +kernel) (pa_cons (pe_op op_fdiv (pv 2) pe_int) pa_nil)) (pv 1)) set_list))) pss_nil)
        (C8.pss_cut (ps_if (PW.pt (pw_and (pt_cmpR op_eq (pv 4) pe_int (nomark _)) (pw_and1 (pt_cmpR op_gt (pv 1) pe_int (nomark _))))) (pss_one (ps_asg (pe_ix (q_ixl (K := K)) (pe_lst (pa_cons pe_str (pa_cons pe_str (pa_cons pe_str (pa_cons pe_str (pa_cons pe_str pa_nil)))))) (pe_op op_mod (pe_callTy c_int (by rfl) T.z_int (by decide +kernel) (pa_cons (pe_op op_fdiv (pv 2) pe_int) pa_nil)) pe_int) (fun _ _ => rfl)) (pg_sub (pv 3) (pe_op op_mod (pe_callTy c_int (by rfl) T.z_int (by decide +kernel) (pa_cons (pe_op op_fdiv (pv 2) pe_int) pa_nil)) (pv 1)) set_list))) pss_nil)
        (pss_cons (ps_set (i := 5) sc__law_text.nd rfl (.inl rfl) (pe_m1 PySem.F.slot_str_join PySem.F.type_str_join (q_join (K := K)) pe_str (pv 3)))
        (C8.pss_cut (ps_if (pt_cmpR op_eq (pv 4) pe_int (nomark _)) (pss_one (ps_set (i := 5) sc__law_text.nd rfl (.inl rfl) (pe_op q_addS (pv 5) pe_str))) pss_nil)
        (C8.pss_cut (ps_if (pt_cmpR op_gt (pe_op op_mod (pe_callTy c_int (by rfl) T.z_int (by decide +kernel) (pa_cons (pe_op op_fdiv (pv 2) pe_int) pa_nil)) pe_int) pe_int (nomark _)) (pss_one (ps_set (i := 5) sc__law_text.nd rfl (.inl rfl) (pe_op q_addS pe_str (pv 5)))) pss_nil)
        (pss_one (ps_ret (pv 5)))))))))))), ?_⟩
    refine i_st (σ' := [some (.int d), none, none, none, none, none, none]) rfl ?_
    walk_at "go"
    refine i_kLst (sz (by simp)) fun p hp => ?_
    walk_at "go"
    refine i_ixL (v := V.int (([1, 2, 3, 1, 15, 16, 17, 18, 12, 0] : List Int).getD (d % 10).toNat 0)) (xs := ([1, 2, 3, 1, 15, 16, 17, 18, 12, 0] : List Int).map V.int) (SqL.of upd_same) (atI_map V.int _ _ 0 (by omega) (by show d % 10 < 10; omega)) ?_
    have hc : 0 ≤ ([1, 2, 3, 1, 15, 16, 17, 18, 12, 0] : List Int).getD (d % 10).toNat 0 ∧ ([1, 2, 3, 1, 15, 16, 17, 18, 12, 0] : List Int).getD (d % 10).toNat 0 ≤ 18 :=
      getD_all (p := fun x : Int => 0 ≤ x ∧ x ≤ 18) (by decide) (by decide) _
    generalize ([1, 2, 3, 1, 15, 16, 17, 18, 12, 0] : List Int).getD (d % 10).toNat 0 = c at hc ⊢
    generalize hH : upd H p _ = H1
    have sm1 : Same H H1 := by rw [← hH]; exact same_upd hp
    have r0 : 0 ≤ d / 10 := by omega
    walk_at "go"
    refine i_lcR0 (fun D i H' => Same H1 H' ∧ ∃ ys : List Str, H' D = some (.lst (ys.map V.str)) ∧ ys.length = i ∧ ∀ y ∈ ys, y.length ≤ 30) (fun D hD => ⟨same_upd hD, [], upd_same, rfl, by simp⟩) ?_ ?_
    · rintro D i H' hD hi ⟨sm, ys, hO, hl, h1⟩
      have e1 : 0 ≤ d / 10 / ((i : Int) + 3) := Int.ediv_nonneg r0 (by omega)
      walk_at "go"
      refine ⟨_, rfl, by omega, fun z H2 sm2 hz => ?_⟩
      exact i_kLc3 (sm2 _ _ hO) (small1000 (by rw [List.length_map]; omega)) ⟨same_wr hD (Same.trans sm sm2), ys ++ [z], by rw [upd_same, List.map_append]; rfl, by rw [List.length_append, hl]; rfl, leqs h1 _ hz⟩
    rintro x H2 hx ⟨sm, ys, hO, hl, h1⟩
    walk_at "go"
    refine i_cut (fun σ' H' => ∃ (ys : List Str), σ' = [some (.int d), some (.int c), some (.int (d / 10)), some (.ref x), some (.int (d / 10 % 12)), none, none] ∧ Same H1 H' ∧ H' x = some (.lst (ys.map V.str)) ∧ ys.length = c.toNat ∧ ∀ y ∈ ys, y.length ≤ 30) ?_ ?_
    · walk_at "go"
      refine i_kAnd (fun h4 => ?_) (fun h4 => ?_)
      · walk_at "go"
        refine i_kIfd (fun h5 => ?_) (fun h5 => ?_)
        · have e1 := Int.emod_nonneg (d / 10 / 12) (show c ≠ 0 by omega)
          have e2 := Int.emod_lt_of_pos (d / 10 / 12) h5
          walk_at "go"
          refine i_kG2 (d / 10 / 12 % c).toNat hO (by omega) (by rw [List.length_map]; omega) ?_
          exact ⟨ys.set (d / 10 / 12 % c).toNat "", rfl, same_wr hx sm, by rw [upd_same, List.map_set], by rw [List.length_set]; exact hl, leqs_set h1 _ _ (by decide +kernel)⟩
        · walk_at "go"
          exact ⟨ys, rfl, sm, hO, hl, h1⟩
      · walk_at "go"
        exact ⟨ys, rfl, sm, hO, hl, h1⟩
    clear sm hO hl h1 ys
    rintro σ H3 ⟨ys, rfl, sm, hO, hl, h1⟩
    refine i_cut (fun σ' H' => ∃ (ys : List Str), σ' = [some (.int d), some (.int c), some (.int (d / 10)), some (.ref x), some (.int (d / 10 % 12)), none, none] ∧ Same H1 H' ∧ H' x = some (.lst (ys.map V.str)) ∧ ys.length = c.toNat ∧ ∀ y ∈ ys, y.length ≤ 30) ?_ ?_
    · walk_at "go"
      refine i_kAnd (fun h4 => ?_) (fun h4 => ?_)
      · walk_at "go"
        refine i_kIfd (fun h5 => ?_) (fun h5 => ?_)
        · have e1 := Int.emod_nonneg (d / 10 / 12) (show c ≠ 0 by omega)
          have e2 := Int.emod_lt_of_pos (d / 10 / 12) h5
          walk_at "go"
          refine i_kLst (sz (by simp)) fun t ht => ?_
          walk_at "go"
          refine i_ixL (v := V.str (([("..": Str), "a b", "c*", "x/", "."] : List Str).getD (d / 10 / 300 % 5).toNat "")) (xs := ([("..": Str), "a b", "c*", "x/", "."] : List Str).map V.str) (SqL.of upd_same) (atI_map V.str _ _ "" (by omega) (by show d / 10 / 300 % 5 < 5; omega)) ?_
          have hy := getD_all (p := fun x : Str => x.length ≤ 30) (l := ([("..": Str), "a b", "c*", "x/", "."] : List Str)) (d := "") (by decide +kernel) (by decide +kernel) (d / 10 / 300 % 5).toNat
          generalize ([("..": Str), "a b", "c*", "x/", "."] : List Str).getD (d / 10 / 300 % 5).toNat "" = y at hy ⊢
          walk_at "go"
          refine i_kG2 (d / 10 / 12 % c).toNat (upd_get (ne_of_none hO ht) hO) (by omega) (by rw [List.length_map]; omega) ?_
          exact ⟨ys.set (d / 10 / 12 % c).toNat y, rfl, same_wr hx (Same.trans sm (same_upd ht)), by rw [upd_same, List.map_set], by rw [List.length_set]; exact hl, leqs_set h1 _ _ hy⟩
        · walk_at "go"
          exact ⟨ys, rfl, sm, hO, hl, h1⟩
      · walk_at "go"
        exact ⟨ys, rfl, sm, hO, hl, h1⟩
    clear sm hO hl h1 ys
    rintro σ H4 ⟨ys, rfl, sm, hO, hl, h1⟩
    have hsum := sum_le h1
    have hj := join_len "/" ys
    have he : ("/" : Str).length = 1 := by decide +kernel
    rw [he] at hj
    walk_at "go"
    refine i_joinL ys (SqL.of hO) (by rw [he]; omega) ?_
    have hz : (Txt.join "/" ys).length ≤ 600 := by omega
    generalize Txt.join "/" ys = z at hz ⊢
    walk_at "go"
    refine i_cut (fun σ' H' => H' = H4 ∧ ∃ z : Str, σ' = [some (.int d), some (.int c), some (.int (d / 10)), some (.ref x), some (.int (d / 10 % 12)), some (.str z), none] ∧ z.length ≤ 601) ?_ ?_
    · walk_at "go"
      refine i_kIfd (fun h5 => ?_) (fun h5 => ?_)
      · walk_at "go"
        refine i_addS (sz (by rw [he]; omega)) ?_
        walk_at "go"
        exact ⟨rfl, _, rfl, by rw [cat_len, he]; omega⟩
      · walk_at "go"
        exact ⟨rfl, z, rfl, by omega⟩
    clear hz z
    rintro σ H5 ⟨rfl, z, rfl, hz⟩
    refine i_cut (fun σ' H' => H' = H5 ∧ ∃ z : Str, σ' = [some (.int d), some (.int c), some (.int (d / 10)), some (.ref x), some (.int (d / 10 % 12)), some (.str z), none] ∧ z.length ≤ 602) ?_ ?_
    · walk_at "go"
      refine i_kIfd (fun h5 => ?_) (fun h5 => ?_)
      · walk_at "go"
        refine i_addS (sz (by rw [he]; omega)) ?_
        walk_at "go"
        exact ⟨rfl, _, rfl, by rw [cat_len, he]; omega⟩
      · walk_at "go"
        exact ⟨rfl, z, rfl, by omega⟩
    clear hz z
    rintro σ H6 ⟨rfl, z, rfl, hz⟩
    walk_at "go"
    exact q _ _ (Same.trans sm1 sm) (by omega)
def sp__law_is_name (K : PySem.W.Frag) : Sp := fun vs H Q _ => ∃ (z : Str), vs = [.str z] ∧ z.length ≤ 10000 ∧ ∀ H', Same H H' → Q (.bl (nm z)) H'
set_option maxHeartbeats 20000000 in
theorem ok__law_is_name (T : Txt w K mg a) : FnOk P w K mg base CX0 1 a.f__law_is_name a.d__law_is_name ["name"] (sp__law_is_name K) := by
  refine T.F__law_is_name.ok sc__law_is_name (fun vs H Q E h => ?_) (fun cdv A outer s H vs Q E hr h => ?_)
  · obtain ⟨z, rfl, hz, q⟩ := h
    rfl
  · obtain ⟨z, rfl, hz, q⟩ := h
    refine ⟨_, (pss_cons (ps_for PassesOwn.never rfl (pi_str (pv 0)) (pg_name (i := 1) sc__law_is_name.nd rfl (.inl rfl)) (pss_one (ps_if (pt_not (PW.pt (pw_or (pt_chain q_leS q_leS pe_str (pv 1) pe_str) (pw_or (pt_chain q_leS q_leS pe_str (pv 1) pe_str) (pw_or (pt_chain q_leS q_leS pe_str (pv 1) pe_str) (pw_or1 (pt_cmpR (q_in (K := K)) (pv 1) (pe_lst (pa_cons pe_str (pa_cons pe_str (pa_cons pe_str pa_nil)))) (by rfl)))))))) (pss_one (ps_ret pe_bl)) pss_nil)))
        (pss_one (ps_ret (pe_and (pe_chain op_le op_le pe_int (pe_callB c_lenS (by rfl) T.z_len (by decide +kernel) (pa_cons (pv 0) pa_nil)) pe_int) (pe_one (pe_cmpR op_gt (pe_callB (q_len (K := K)) (by rfl) T.z_len (by decide +kernel) (pa_cons (pe_lc (own := [("char", 1)]) (g := gName 1) rfl sc__law_is_name.nd (pi_str (pv 0)) (blkOk_by (own := [("char", 1)]) (N := N__law_is_name) (sc := defScope s__law_is_name) (by decide +kernel)) (fun _ _ _ _ _ => pg_name (i := 1) sc__law_is_name.nd rfl (Or.inl rfl)) (fun _ _ _ _ _ => (pts_one (pt_cmpR op_ne (pv 1) pe_str (nomark _)))) (fun _ _ _ _ _ => (pv 1))) pa_nil)) pe_int (nomark _))))))), ?_⟩
    refine i_st (σ' := [some (.str z), none]) rfl ?_
    have hz' : z.length ≤ sizeLine := Nat.le_trans hz (by decide)
    rw [la, lz, lA, lZ, l0, l9, u_lit, h_lit, dot_lit]
    walk_at "go"
    refine i_forS (fun i σ H' => Same H H' ∧ ∃ y1, σ = [some (.str z), y1] ∧ (z.cps.toList.take i).all isCh = true) ⟨Same.refl H, none, rfl, rfl⟩ ?_ ?_
    · rintro i c σ H' hc ⟨sm, y1, rfl, ha⟩
      have et : z.cps.toList.take (i + 1) = z.cps.toList.take i ++ [c] := by rw [List.take_add_one, hc]; rfl
      have fin : ∀ b : Bool, isCh c = b → (z.cps.toList.take (i + 1)).all isCh = b := fun b hb => by rw [et, List.all_append, ha]; simp [hb]
      have ok : ∀ H2, Same H H2 → isCh c = true → Same H H2 ∧ ∃ y1, [some (V.str z), some (V.str ⟨#[c]⟩)] = [some (V.str z), y1] ∧ (z.cps.toList.take (i + 1)).all isCh = true := fun H2 s hb => ⟨s, _, rfl, fin _ hb⟩
      have bad : ∀ H2, Same H H2 → isCh c = false → Q (V.bl false) H2 := fun H2 s hb => by have := q H2 s; rw [nm_bad hc hb] at this; exact this
      unfold isCh at ok bad
      walk_at "go"
      refine i_kOr (fun h => ?_) (fun h1 => ?_)
      · have h := of_decide_eq_true h
        walk_at "go"
        exact ok _ sm (decide_eq_true (by omega))
      have h1 := of_decide_eq_false h1
      walk_at "go"
      refine i_kOr (fun h => ?_) (fun h2 => ?_)
      · have h := of_decide_eq_true h
        walk_at "go"
        exact ok _ sm (decide_eq_true (by omega))
      have h2 := of_decide_eq_false h2
      walk_at "go"
      refine i_kOr (fun h => ?_) (fun h3 => ?_)
      · have h := of_decide_eq_true h
        walk_at "go"
        exact ok _ sm (decide_eq_true (by omega))
      have h3 := of_decide_eq_false h3
      walk_at "go"
      refine i_kLst (sz (by simp)) fun t ht => ?_
      walk_at "go"
      refine ⟨t, _, rfl, .inl (SqL.of upd_same), rfl, rfl, ?_⟩
      rw [if_neg Bool.false_ne_true, in_three]
      walk_at "go"
      refine i_kIfd (fun h => ?_) (fun h5 => ?_)
      · walk_at "go"
        exact ok _ (Same.trans sm (same_upd ht)) (decide_eq_true (by omega))
      · walk_at "go"
        exact bad _ (Same.trans sm (same_upd ht)) (decide_eq_false (by omega))
    rintro σ H' ⟨sm, y1, rfl, ha⟩
    rw [List.take_length] at ha
    rw [nm_eq, ha] at q
    walk_at "go"
    refine i_kC2' (fun h => ?_) (fun h => ?_)
    rotate_left
    · have h1 := of_decide_eq_false h
      refine i_kAndV (fun h => by cases h) (fun _ => ?_)
      have := q H' sm
      rw [decide_eq_false (by omega)] at this
      exact this
    have g1 := of_decide_eq_true h
    walk_at "go"
    refine i_kAndV (fun h => ?_) (fun h => ?_)
    rotate_left
    · have h1 := of_decide_eq_false h
      have := q H' sm
      rw [decide_eq_false (by omega)] at this
      exact this
    have g2 := of_decide_eq_true h
    rw [decide_eq_true (show 1 ≤ z.length ∧ z.length ≤ 32 by omega)] at q
    walk_at "go"
    refine i_lcS (fun D i H2 => Same H' H2 ∧ H2 D = some (.lst (((z.cps.toList.take i).filter fun c => !decide (c = 46)).map fun c => V.str ⟨#[c]⟩))) (fun D hD => ⟨same_upd hD, upd_same⟩) ?_ ?_
    · rintro D i c H2 hD hc ⟨sm2, hO⟩
      have hi : i < z.cps.toList.length := (List.getElem?_eq_some_iff.mp hc).1
      rw [len_cps] at hi
      have et : z.cps.toList.take (i + 1) = z.cps.toList.take i ++ [c] := by rw [List.take_add_one, hc]; rfl
      walk_at "go"
      rw [sg_eq]
      by_cases he : c = 46
      · rw [decide_eq_true he, Bool.not_true]
        walk_at "go"
        refine ⟨sm2, ?_⟩
        rw [hO, et, List.filter_append, he]; simp
      · rw [decide_eq_false he, Bool.not_false]
        walk_at "go"
        refine i_kLc3 hO ?_ ⟨same_wr hD sm2, ?_⟩
        · rw [List.length_map]
          exact small1000 (Nat.le_trans (List.length_filter_le ..) (by rw [List.length_take]; omega))
        · rw [upd_same, et, List.filter_append, List.map_append]; simp [he]
    rintro D H2 hD ⟨sm2, hO⟩
    rw [List.take_length] at hO
    have hOS : SqL K H2 D _ := SqL.of hO
    walk_at "go"
    have := q H2 (Same.trans sm sm2)
    rw [Bool.true_and, Bool.and_true, ← nd_iff] at this
    rw [List.length_map]
    simp only [Int.natCast_pos]
    exact this
def sp__law_row (K : PySem.W.Frag) : Sp := fun vs H Q _ => ∃ (z : Str), vs = [.str z] ∧ z.length ≤ 10000 ∧ ∀ H' v, Same H H' → OV K H' v (if ar (sps z) then some (sps z) else none) → Q v H'
set_option maxHeartbeats 20000000 in
theorem ok__law_row (T : Txt w K mg a) : FnOk P w K mg base CX0 2 a.f__law_row a.d__law_row ["text"] (sp__law_row K) := by
  refine T.F__law_row.ok sc__law_row (fun vs H Q E h => ?_) (fun cdv A outer s H vs Q E hr h => ?_)
  · obtain ⟨z, rfl, hz, q⟩ := h
    rfl
  · obtain ⟨z, rfl, hz, q⟩ := h
    refine ⟨_, (pss_cons (ps_set (i := 1) sc__law_row.nd rfl (.inl rfl) (pe_m1 PySem.F.slot_str_split PySem.F.type_str_split q_split (pv 0) pe_str))
        (pss_cons (ps_if (pt_cmpR op_gt (pe_callB (q_len (K := K)) (by rfl) T.z_len (by decide +kernel) (pa_cons (pv 1) pa_nil)) pe_int (nomark _)) (pss_one (ps_ret pe_non)) pss_nil)
        (pss_cons (ps_for PassesOwn.never rfl (q_pil (K := K) (pv 1)) (pg_name (i := 2) sc__law_row.nd rfl (.inl rfl)) (pss_one (ps_if (pt_not (pt_val (pe_call (ok__law_is_name (K := K) T) (hr.mono (by decide)) (by rfl) T.g__law_is_name T.F__law_is_name.kp T.b__law_is_name .nil pass0 (pa_cons (pv 2) pa_nil)))) (pss_one (ps_ret pe_non)) pss_nil)))
        (pss_one (ps_ret (pv 1)))))), ?_⟩
    refine i_st (σ' := [some (.str z), none, none]) rfl ?_
    have hz' : z.length ≤ sizeLine := Nat.le_trans hz (by decide)
    rw [sl_lit]
    walk_at "go"
    refine i_split rfl (szl (by omega)) fun p hp => ?_
    have hpl := split_part_len z (s := 47) (by decide)
    generalize hH1 : upd H p _ = H1
    have sm1 : Same H H1 := by rw [← hH1]; exact same_upd hp
    have hp1 : SqL K H1 p ((sps z).map V.str) := by rw [← hH1]; exact SqL.of upd_same
    walk_at "go"
    refine i_kIfd (fun h => ?_) (fun h => ?_)
    · rw [List.length_map] at h
      walk_at "go"
      refine q H1 .non sm1 ?_
      have : ar (sps z) = false := by unfold ar; rw [decide_eq_false (by omega)]; rfl
      rw [this]; rfl
    rw [List.length_map] at h
    have h16 : (sps z).length ≤ 16 := by omega
    walk_at "go"
    refine i_forL ((sps z).map V.str) (fun i σ H' => Same H1 H' ∧ ∃ y2, σ = [some (.str z), some (.ref p), y2] ∧ ((sps z).take i).all nm = true) ⟨Same.refl _, none, rfl, rfl⟩ ?_ ?_ ?_
    · rintro i σ H' _ ⟨sm, _⟩
      exact sm.seq hp1
    · rintro i v σ H' hv ⟨sm, y2, rfl, ha⟩
      obtain ⟨y, hy, rfl⟩ := map_at hv
      have hyl := hpl y (List.mem_of_getElem? hy)
      walk_at "go"
      refine ⟨y, rfl, by omega, fun H2 sm2 => ?_⟩
      walk_at "go"
      cases hn : nm y
      · walk_at "go"
        refine q H2 .non (Same.trans sm1 (Same.trans sm sm2)) ?_
        rw [ar_bad hy hn]; rfl
      · walk_at "go"
        exact ⟨Same.trans sm sm2, _, rfl, by rw [List.take_add_one, hy, List.all_append, ha]; simp [hn]⟩
    rintro σ H' ⟨sm, y2, rfl, ha⟩
    rw [List.length_map, List.take_length] at ha
    walk_at "go"
    refine q H' _ (Same.trans sm1 sm) ?_
    rw [ar_good h16 ha]
    exact ⟨p, rfl, sm.seq hp1⟩
def sp__law_flag (K : PySem.W.Frag) : Sp := fun vs H Q _ => ∃ (v u : Bool), vs = [.bl v, .bl u] ∧ Q (.bl (decide (v = u))) H
set_option maxHeartbeats 20000000 in
theorem ok__law_flag (T : Txt w K mg a) : FnOk P w K mg base CX0 1 a.f__law_flag a.d__law_flag ["actual", "due"] (sp__law_flag K) := by
  refine T.F__law_flag.ok sc__law_flag (fun vs H Q E h => ?_) (fun cdv A outer s H vs Q E hr h => ?_)
  · obtain ⟨v, u, rfl, q⟩ := h
    rfl
  · obtain ⟨v, u, rfl, q⟩ := h
    refine ⟨_, (pss_cons (ps_if (pt_val (pv 1)) (pss_one (ps_ret (pe_cmpR q_isB (pv 0) pe_bl (nomark _)))) pss_nil)
        (pss_one (ps_ret (pe_cmpR q_isB (pv 0) pe_bl (nomark _))))), ?_⟩
    refine i_st (σ' := [some (.bl v), some (.bl u)]) rfl ?_
    walk_at "go"
    cases u
    · walk_at "go"
      exact q
    · walk_at "go"
      exact q
def sp_law (K : PySem.W.Frag) : Sp := fun vs H Q _ => ∃ (b : Addr) (ns : List Int), vs = [.ref b] ∧ SqL K H b (ns.map V.int) ∧ ns.length ≤ 63 ∧ ∀ H', Q (.bl true) H'
theorem law_start {K : PySem.W.Frag} {H : Hp} {b : Addr} {ns : List Int} (hl : ns.length ≤ 63) (hO : Only H) (hS : SqL K H b (ns.map V.int)) : sp_law K [.ref b] H (fun v _ => v = .bl true) (fun _ _ _ => False) := ⟨b, ns, rfl, hS, hl, fun _ => rfl⟩

theorem cmp_step {K : PySem.W.Frag} {σ : St} {H : Hp} {nx bk ct : St → Hp → Prop} {rt : VK} (i : Nat) {z : Str} {v : V} {o : Option (List Str)} (h2 : σ[2]? = some (some (.str z))) (hi : σ[i]? = some (some v)) (hv : OV K H v o)
    (ho : ∀ ys, o = some ys → nmsOf z = ys ∧ ∀ y ∈ ys, PyData.strOk y = true) (hz : z.length ≤ 10000) (h : ∀ H', Same H H' → nx σ H') :
    tIfS (tAnd (tTest (tOp rNotN (tVar i) (tC V.non))) (tTest (tOp (rNeD K) (tCall (sp_names_of K) [] E0 (tCons (tVar 2) tNil)) (tVar i)))) (tRet (tC (V.bl false))) tNext ⟨nx, rt, bk, ct⟩ σ H := by
  refine i_ifS (i_and (i_test (i_op (i_var hi (i_kO1 (i_c (i_kO2 (i_notN ?_))))))))
  refine i_kB ?_
  rw [OV.non hv]
  cases o with
  | none => exact i_kAndF (i_kIfF (i_next (h H (Same.refl H))))
  | some ys =>
    obtain ⟨p, rfl, hp⟩ := hv
    obtain ⟨e, hok⟩ := ho ys rfl
    refine i_kAndT (i_test (i_op (i_call (i_cons (i_var h2 (i_kA1 (i_nil (i_kA2 (i_kCall ⟨z, rfl, hz, fun H' q sm nq hq => ?_⟩)))))))))
    refine i_kO1 (i_var hi (i_kO2 ?_))
    rw [e] at hq
    refine i_neLS (SqL.of hq) (sm.seq hp) hok hok ?_
    rw [decide_eq_true (rfl : ys = ys)]
    exact i_kB (i_kIfF (i_next (h H' sm)))
theorem i_orNot {σ : St} {H : Hp} {Q : VK} {i : Nat} {v : V} {b : Bool} (hv : σ[i]? = some (some v)) (h : Q (.bl (b || !decide (v = .non))) H) : kOrV (tOp rNotN (tVar i) (tC .non)) σ Q (.bl b) H := by
  cases b
  · exact i_kOrV (fun e => by cases e) (fun _ => i_op (i_var hv (i_kO1 (i_c (i_kO2 (i_notN h))))))
  · exact i_kOrV (fun _ => h) (fun e => by cases e)
set_option maxHeartbeats 20000000 in
theorem ok_law (T : Txt w K mg a) : FnOk P w K mg base CX0 5 a.f_law a.d_law ["script"] (sp_law K) := by
  refine T.F_law.ok sc_law (fun vs H Q E h => ?_) (fun cdv A outer s H vs Q E hr h => ?_)
  · obtain ⟨b, ns, rfl, hS, hlen, q⟩ := h
    rfl
  · obtain ⟨b, ns, rfl, hS, hlen, q⟩ := h
    refine ⟨_, (pss_cons (ps_for PassesOwn.never rfl (q_pil (K := K) (pe_call (ok__law_draws (K := K) T) (hr.mono (by decide)) (by rfl) T.g__law_draws T.F__law_draws.kp T.b__law_draws .nil pass0 (pa_cons (pv 0) (pa_cons pe_int pa_nil)))) (pg_name (i := 1) sc_law.nd rfl (.inl rfl)) (pss_cons (ps_set (i := 2) sc_law.nd rfl (.inl rfl) (pe_call (ok__law_text (K := K) T) (hr.mono (by decide)) (by rfl) T.g__law_text T.F__law_text.kp T.b__law_text .nil pass0 (pa_cons (pv 1) pa_nil)))
        (pss_cons (ps_set (i := 3) sc_law.nd rfl (.inl rfl) pe_non)
        (pss_cons (ps_set (i := 4) sc_law.nd rfl (.inl rfl) pe_non)
        (C8.pss_cut (ps_if (pt_cmpR op_le (pe_callB c_lenS (by rfl) T.z_len (by decide +kernel) (pa_cons (pv 2) pa_nil)) pe_int (nomark _)) (pss_cons (ps_set (i := 4) sc_law.nd rfl (.inl rfl) (pe_call (ok__law_row (K := K) T) (hr.mono (by decide)) (by rfl) T.g__law_row T.F__law_row.kp T.b__law_row .nil pass0 (pa_cons (pv 2) pa_nil)))
        (pss_one (ps_if (pt_cmpR op_eq (pv 2) pe_str (nomark _)) (pss_one (ps_set (i := 3) sc_law.nd rfl (.inl rfl) (pe_lst pa_nil))) (pss_one (ps_if (pt_cmpR op_eq (pe_slice sl_str (pv 2) po_none (po_some pe_int)) pe_str (nomark _)) (pss_one (ps_set (i := 3) sc_law.nd rfl (.inl rfl) (pe_call (ok__law_row (K := K) T) (hr.mono (by decide)) (by rfl) T.g__law_row T.F__law_row.kp T.b__law_row .nil pass0 (pa_cons (pe_slice sl_str (pv 2) (po_some pe_int) po_none) pa_nil)))) pss_nil))))) pss_nil)
        (pss_cons (ps_if (pt_not (pt_val (pe_call (ok__law_flag (K := K) T) (hr.mono (by decide)) (by rfl) T.g__law_flag T.F__law_flag.kp T.b__law_flag .nil pass0 (pa_cons (pe_call (ok_is_path (K := K) T) (hr.mono (by decide)) (by rfl) T.g_is_path T.F_is_path.kp T.b_is_path .nil pass0 (pa_cons (pv 2) pa_nil)) (pa_cons (pe_cmpR o_notN (pv 3) pe_non (nomark _)) pa_nil))))) (pss_one (ps_ret pe_bl)) pss_nil)
        (pss_cons (ps_if (pt_not (pt_val (pe_call (ok__law_flag (K := K) T) (hr.mono (by decide)) (by rfl) T.g__law_flag T.F__law_flag.kp T.b__law_flag .nil pass0 (pa_cons (pe_call (ok_is_target (K := K) T) (hr.mono (by decide)) (by rfl) T.g_is_target T.F_is_target.kp T.b_is_target .nil pass0 (pa_cons (pv 2) pa_nil)) (pa_cons (pe_or (pe_cmpR o_notN (pv 3) pe_non (nomark _)) (pe_one (pe_cmpR o_notN (pv 4) pe_non (nomark _)))) pa_nil))))) (pss_one (ps_ret pe_bl)) pss_nil)
        (pss_cons (ps_if (PW.pt (pw_and (pt_cmpR o_notN (pv 3) pe_non (nomark _)) (pw_and1 (pt_cmpR (q_neD (K := K) hr.units) (pe_call (ok_names_of (K := K) T) (hr.mono (by decide)) (by rfl) T.g_names_of T.F_names_of.kp T.b_names_of .nil pass0 (pa_cons (pv 2) pa_nil)) (pv 3) (nomark _))))) (pss_one (ps_ret pe_bl)) pss_nil)
        (pss_one (ps_if (PW.pt (pw_and (pt_cmpR o_notN (pv 4) pe_non (nomark _)) (pw_and1 (pt_cmpR (q_neD (K := K) hr.units) (pe_call (ok_names_of (K := K) T) (hr.mono (by decide)) (by rfl) T.g_names_of T.F_names_of.kp T.b_names_of .nil pass0 (pa_cons (pv 2) pa_nil)) (pv 4) (nomark _))))) (pss_one (ps_ret pe_bl)) pss_nil))))))))))
        (pss_one (ps_ret pe_bl))), ?_⟩
    refine i_st (σ' := [some (.ref b), none, none, none, none]) rfl ?_
    rw [sl_lit]
    walk_at "go"
    refine ⟨b, ns, 40, rfl, hS, by decide, by decide, fun H1 p ds sm np hp hl hd => ?_⟩
    walk_at "go"
    refine i_forL (ds.map V.int) (fun i σ H' => Same H1 H' ∧ ∃ y1 y2 y3 y4, σ = [some (.ref b), y1, y2, y3, y4]) ⟨Same.refl H1, none, none, none, none, rfl⟩ ?_ ?_ ?_
    · rintro i σ H' _ ⟨sm', _⟩
      exact sm'.seq (SqL.of hp)
    · rintro i v σ H' hv ⟨sm', y1, y2, y3, y4, rfl⟩
      obtain ⟨d, hd', rfl⟩ := map_at hv
      have d0 := hd d (List.mem_of_getElem? hd')
      walk_at "go"
      refine ⟨d, rfl, d0, fun z H2 sm2 hz => ?_⟩
      have hz' : z.length ≤ sizeLine := Nat.le_trans hz (by decide)
      walk_at "go"
      refine i_cut (fun σ' H' => Same H2 H' ∧ ∃ va vr, OV K H' va (rowA z) ∧ OV K H' vr (rowR z) ∧ σ' = [some (.ref b), some (.int d), some (.str z), some va, some vr]) ?_ ?_
      · walk_at "go"
        refine i_kIfd (fun h => ?_) (fun h => ?_)
        · have h256 : decide (z.length ≤ 256) = true := decide_eq_true (by omega)
          walk_at "go"
          refine ⟨z, rfl, by omega, fun H3 vr sm3 hr => ?_⟩
          have hrow : OV K H3 vr (rowR z) := by unfold rowR isR; rw [h256, Bool.true_and]; exact hr
          walk_at "go"
          refine i_kIfd (fun h1 => ?_) (fun h1 => ?_)
          · walk_at "go"
            refine i_kLst (Nat.zero_le _) fun t ht => ?_
            walk_at "go"
            refine ⟨Same.trans sm3 (same_upd ht), .ref t, vr, ?_, OV.same (same_upd ht) hrow, rfl⟩
            unfold rowA
            rw [if_pos h1]
            exact ⟨t, rfl, SqL.of upd_same⟩
          walk_at "go"
          refine i_slS hz' ?_
          walk_at "go"
          rw [head_eq]
          refine i_kIf (fun h2 => ?_) (fun h2 => ?_)
          · walk_at "go"
            refine i_slS hz' ?_
            walk_at "go"
            have ht := tail_len z
            unfold tail at ht
            refine ⟨_, rfl, by omega, fun H4 va sm4 ha => ?_⟩
            walk_at "go"
            refine ⟨Same.trans sm3 sm4, va, vr, ?_, OV.same sm4 hrow, rfl⟩
            unfold rowA isP
            rw [if_neg h1, if_neg h1, h256, Bool.true_and]
            unfold hdS
            rw [h2, Bool.true_and]
            exact ha
          · walk_at "go"
            refine ⟨sm3, .non, vr, ?_, hrow, rfl⟩
            unfold rowA isP
            rw [if_neg h1, if_neg h1, h256, Bool.true_and]
            unfold hdS
            rw [h2, Bool.false_and]
            exact rfl
        · have h256 : decide (z.length ≤ 256) = false := decide_eq_false (by omega)
          have h1 : z ≠ ⟨#[47]⟩ := fun e => by rw [e] at h; exact h (by decide)
          walk_at "go"
          refine ⟨Same.refl _, .non, .non, ?_, ?_, rfl⟩
          · unfold rowA isP
            rw [if_neg h1, if_neg h1, h256]
            exact rfl
          · unfold rowR isR
            rw [h256]
            exact rfl
      rintro σ H3 ⟨sm3, va, vr, ha, hr, rfl⟩
      walk_at "go"
      refine ⟨z, rfl, by omega, fun H4 sm4 => ?_⟩
      walk_at "go"
      refine ⟨_, _, rfl, ?_⟩
      rw [OV.non ha, rowA_is, decide_eq_true (rfl : isP z = isP z)]
      walk_at "go"
      refine ⟨z, rfl, by omega, fun H5 sm5 => ?_⟩
      walk_at "go"
      rw [OV.non ha, rowA_is]
      refine i_orNot rfl ?_
      rw [OV.non hr, rowR_is]
      walk_at "go"
      refine ⟨_, _, rfl, ?_⟩
      rw [decide_eq_true (rfl : (isP z || isR z) = (isP z || isR z))]
      refine i_kB (i_kNot ?_)
      rw [Bool.not_true]
      refine i_kIfF (i_next (i_seq (cmp_step 3 rfl rfl (OV.same (Same.trans sm4 sm5) ha) (fun ys => rowA_nms) (by omega) fun H6 sm6 => ?_)))
      refine cmp_step 4 rfl rfl (OV.same (Same.trans (Same.trans sm4 sm5) sm6) hr) (fun ys => rowR_nms) (by omega) fun H7 sm7 => ?_
      exact ⟨Same.trans sm' (Same.trans sm2 (Same.trans sm3 (Same.trans (Same.trans sm4 sm5) (Same.trans sm6 sm7)))), _, _, _, _, rfl⟩
    rintro σ H' ⟨sm', y1, y2, y3, y4, rfl⟩
    walk_at "go"
    exact q _
end
/-! ### what the top has left -/
theorem all_facts {w : World} {K : PySem.W.Frag} {h : Heap} {mg : Str → Option Value} {fa : Addr} (X : K.In h) (G : h.Ns mainGlobals mg) (hfa : mg "law" = some (.ref fa))
    {od0 an0 : Option Addr} {sl0 : Array (Option Value)} {oc0 kV0 dc0 pm0 cd0 ct0 : Value} {f0 : Addr}
    {od1 an1 : Option Addr} {sl1 : Array (Option Value)} {oc1 kV1 dc1 pm1 cd1 ct1 : Value} {f1 : Addr}
    {od2 an2 : Option Addr} {sl2 : Array (Option Value)} {oc2 kV2 dc2 pm2 cd2 ct2 : Value} {f2 : Addr}
    {od3 an3 : Option Addr} {sl3 : Array (Option Value)} {oc3 kV3 dc3 pm3 cd3 ct3 : Value} {f3 : Addr}
    {od4 an4 : Option Addr} {sl4 : Array (Option Value)} {oc4 kV4 dc4 pm4 cd4 ct4 : Value} {f4 : Addr}
    {od5 an5 : Option Addr} {sl5 : Array (Option Value)} {oc5 kV5 dc5 pm5 cd5 ct5 : Value} {f5 : Addr}
    {od6 an6 : Option Addr} {sl6 : Array (Option Value)} {oc6 kV6 dc6 pm6 cd6 ct6 : Value} {f6 : Addr}
    {od7 an7 : Option Addr} {sl7 : Array (Option Value)} {oc7 kV7 dc7 pm7 cd7 ct7 : Value} {f7 : Addr}
    {od8 an8 : Option Addr} {sl8 : Array (Option Value)} {oc8 kV8 dc8 pm8 cd8 ct8 : Value} {f8 : Addr}
    {od9 an9 : Option Addr} {sl9 : Array (Option Value)} {oc9 kV9 dc9 pm9 cd9 ct9 : Value} {f9 : Addr}
    {od10 an10 : Option Addr} {sl10 : Array (Option Value)} {oc10 kV10 dc10 pm10 cd10 ct10 : Value} {f10 : Addr}
    {od11 an11 : Option Addr} {sl11 : Array (Option Value)} {oc11 kV11 dc11 pm11 cd11 ct11 : Value} {f11 : Addr}
    {u_NAME_CHARACTERS : Value}
    {u_LONGEST_NAME : Value}
    {u_LONGEST_PATH : Value}
    {u_MOST_NAMES : Value}
    (a0 : PySem.W.nsIn K mainGlobals "is_name" = some (some (.ref f0)))
    (l0 : K.lookup f0 = some ⟨oc0, od0, .func (PySem.W.fnOf "is_name" "is_name" (defArgs s_is_name) (defBody s_is_name) (defScope s_is_name) .none kV0 dc0 pm0 an0 cd0 ct0), sl0⟩)
    (c0 : PySem.W.codeIn K cd0 "is_name" = true) (k0 : PySem.W.keepIn K (.ref f0) = true)
    (a1 : PySem.W.nsIn K mainGlobals "is_path" = some (some (.ref f1)))
    (l1 : K.lookup f1 = some ⟨oc1, od1, .func (PySem.W.fnOf "is_path" "is_path" (defArgs s_is_path) (defBody s_is_path) (defScope s_is_path) .none kV1 dc1 pm1 an1 cd1 ct1), sl1⟩)
    (c1 : PySem.W.codeIn K cd1 "is_path" = true) (k1 : PySem.W.keepIn K (.ref f1) = true)
    (a2 : PySem.W.nsIn K mainGlobals "is_target" = some (some (.ref f2)))
    (l2 : K.lookup f2 = some ⟨oc2, od2, .func (PySem.W.fnOf "is_target" "is_target" (defArgs s_is_target) (defBody s_is_target) (defScope s_is_target) .none kV2 dc2 pm2 an2 cd2 ct2), sl2⟩)
    (c2 : PySem.W.codeIn K cd2 "is_target" = true) (k2 : PySem.W.keepIn K (.ref f2) = true)
    (a3 : PySem.W.nsIn K mainGlobals "names_of" = some (some (.ref f3)))
    (l3 : K.lookup f3 = some ⟨oc3, od3, .func (PySem.W.fnOf "names_of" "names_of" (defArgs s_names_of) (defBody s_names_of) (defScope s_names_of) .none kV3 dc3 pm3 an3 cd3 ct3), sl3⟩)
    (c3 : PySem.W.codeIn K cd3 "names_of" = true) (k3 : PySem.W.keepIn K (.ref f3) = true)
    (a4 : PySem.W.nsIn K mainGlobals "_are_names" = some (some (.ref f4)))
    (l4 : K.lookup f4 = some ⟨oc4, od4, .func (PySem.W.fnOf "_are_names" "_are_names" (defArgs s__are_names) (defBody s__are_names) (defScope s__are_names) .none kV4 dc4 pm4 an4 cd4 ct4), sl4⟩)
    (c4 : PySem.W.codeIn K cd4 "_are_names" = true) (k4 : PySem.W.keepIn K (.ref f4) = true)
    (a5 : PySem.W.nsIn K mainGlobals "_law_draws" = some (some (.ref f5)))
    (l5 : K.lookup f5 = some ⟨oc5, od5, .func (PySem.W.fnOf "_law_draws" "_law_draws" (defArgs s__law_draws) (defBody s__law_draws) (defScope s__law_draws) .none kV5 dc5 pm5 an5 cd5 ct5), sl5⟩)
    (c5 : PySem.W.codeIn K cd5 "_law_draws" = true) (k5 : PySem.W.keepIn K (.ref f5) = true)
    (a6 : PySem.W.nsIn K mainGlobals "_law_name" = some (some (.ref f6)))
    (l6 : K.lookup f6 = some ⟨oc6, od6, .func (PySem.W.fnOf "_law_name" "_law_name" (defArgs s__law_name) (defBody s__law_name) (defScope s__law_name) .none kV6 dc6 pm6 an6 cd6 ct6), sl6⟩)
    (c6 : PySem.W.codeIn K cd6 "_law_name" = true) (k6 : PySem.W.keepIn K (.ref f6) = true)
    (a7 : PySem.W.nsIn K mainGlobals "_law_text" = some (some (.ref f7)))
    (l7 : K.lookup f7 = some ⟨oc7, od7, .func (PySem.W.fnOf "_law_text" "_law_text" (defArgs s__law_text) (defBody s__law_text) (defScope s__law_text) .none kV7 dc7 pm7 an7 cd7 ct7), sl7⟩)
    (c7 : PySem.W.codeIn K cd7 "_law_text" = true) (k7 : PySem.W.keepIn K (.ref f7) = true)
    (a8 : PySem.W.nsIn K mainGlobals "_law_is_name" = some (some (.ref f8)))
    (l8 : K.lookup f8 = some ⟨oc8, od8, .func (PySem.W.fnOf "_law_is_name" "_law_is_name" (defArgs s__law_is_name) (defBody s__law_is_name) (defScope s__law_is_name) .none kV8 dc8 pm8 an8 cd8 ct8), sl8⟩)
    (c8 : PySem.W.codeIn K cd8 "_law_is_name" = true) (k8 : PySem.W.keepIn K (.ref f8) = true)
    (a9 : PySem.W.nsIn K mainGlobals "_law_row" = some (some (.ref f9)))
    (l9 : K.lookup f9 = some ⟨oc9, od9, .func (PySem.W.fnOf "_law_row" "_law_row" (defArgs s__law_row) (defBody s__law_row) (defScope s__law_row) .none kV9 dc9 pm9 an9 cd9 ct9), sl9⟩)
    (c9 : PySem.W.codeIn K cd9 "_law_row" = true) (k9 : PySem.W.keepIn K (.ref f9) = true)
    (a10 : PySem.W.nsIn K mainGlobals "_law_flag" = some (some (.ref f10)))
    (l10 : K.lookup f10 = some ⟨oc10, od10, .func (PySem.W.fnOf "_law_flag" "_law_flag" (defArgs s__law_flag) (defBody s__law_flag) (defScope s__law_flag) .none kV10 dc10 pm10 an10 cd10 ct10), sl10⟩)
    (c10 : PySem.W.codeIn K cd10 "_law_flag" = true) (k10 : PySem.W.keepIn K (.ref f10) = true)
    (a11 : PySem.W.nsIn K mainGlobals "law" = some (some (.ref f11)))
    (l11 : K.lookup f11 = some ⟨oc11, od11, .func (PySem.W.fnOf "law" "law" (defArgs s_law) (defBody s_law) (defScope s_law) .none kV11 dc11 pm11 an11 cd11 ct11), sl11⟩)
    (c11 : PySem.W.codeIn K cd11 "law" = true) (k11 : PySem.W.keepIn K (.ref f11) = true)
    (z_all : PySem.W.nsIn K mainGlobals "all" = some none)
    (z_len : PySem.W.nsIn K mainGlobals "len" = some none)
    (z_range : PySem.W.nsIn K mainGlobals "range" = some none)
    (z_int : PySem.W.nsIn K mainGlobals "int" = some none)
    (e_NAME_CHARACTERS : PySem.W.nsIn K mainGlobals "NAME_CHARACTERS" = some (some u_NAME_CHARACTERS))
    (e_LONGEST_NAME : PySem.W.nsIn K mainGlobals "LONGEST_NAME" = some (some u_LONGEST_NAME))
    (e_LONGEST_PATH : PySem.W.nsIn K mainGlobals "LONGEST_PATH" = some (some u_LONGEST_PATH))
    (e_MOST_NAMES : PySem.W.nsIn K mainGlobals "MOST_NAMES" = some (some u_MOST_NAMES))
    (r_NAME_CHARACTERS : RelV (V.str "ABCDEFGHIJKLMNOPQRSTUVWXYZabcdefghijklmnopqrstuvwxyz0123456789_-.") u_NAME_CHARACTERS)
    (r_LONGEST_NAME : RelV (V.int 32) u_LONGEST_NAME)
    (r_LONGEST_PATH : RelV (V.int 256) u_LONGEST_PATH)
    (r_MOST_NAMES : RelV (V.int 16) u_MOST_NAMES) :
    ∃ fd : FuncData, (∀ (s : Shared) (v : Value), BindsTo s fd ⟨[v], []⟩ [("script", v)]) ∧ ∀ {P : Program} (base : Heap), FnOk P w K mg base CX0 5 fa fd ["script"] (sp_law K) := by
  have e := hfa.symm.trans (PySem.W.mg_of X G a11)
  cases e
  have F0 := fun_mk (st := s_is_name) l0 c0 k0
  have B0 := F0.binds (ps := ["text"]) fun _ _ _ _ _ _ us hl => match us, hl with | [_], _ => rfl
  have F1 := fun_mk (st := s_is_path) l1 c1 k1
  have B1 := F1.binds (ps := ["text"]) fun _ _ _ _ _ _ us hl => match us, hl with | [_], _ => rfl
  have F2 := fun_mk (st := s_is_target) l2 c2 k2
  have B2 := F2.binds (ps := ["text"]) fun _ _ _ _ _ _ us hl => match us, hl with | [_], _ => rfl
  have F3 := fun_mk (st := s_names_of) l3 c3 k3
  have B3 := F3.binds (ps := ["path"]) fun _ _ _ _ _ _ us hl => match us, hl with | [_], _ => rfl
  have F4 := fun_mk (st := s__are_names) l4 c4 k4
  have B4 := F4.binds (ps := ["texts"]) fun _ _ _ _ _ _ us hl => match us, hl with | [_], _ => rfl
  have F5 := fun_mk (st := s__law_draws) l5 c5 k5
  have B5 := F5.binds (ps := ["script", "count"]) fun _ _ _ _ _ _ us hl => match us, hl with | [_, _], _ => rfl
  have F6 := fun_mk (st := s__law_name) l6 c6 k6
  have B6 := F6.binds (ps := ["draw"]) fun _ _ _ _ _ _ us hl => match us, hl with | [_], _ => rfl
  have F7 := fun_mk (st := s__law_text) l7 c7 k7
  have B7 := F7.binds (ps := ["draw"]) fun _ _ _ _ _ _ us hl => match us, hl with | [_], _ => rfl
  have F8 := fun_mk (st := s__law_is_name) l8 c8 k8
  have B8 := F8.binds (ps := ["name"]) fun _ _ _ _ _ _ us hl => match us, hl with | [_], _ => rfl
  have F9 := fun_mk (st := s__law_row) l9 c9 k9
  have B9 := F9.binds (ps := ["text"]) fun _ _ _ _ _ _ us hl => match us, hl with | [_], _ => rfl
  have F10 := fun_mk (st := s__law_flag) l10 c10 k10
  have B10 := F10.binds (ps := ["actual", "due"]) fun _ _ _ _ _ _ us hl => match us, hl with | [_, _], _ => rfl
  have F11 := fun_mk (st := s_law) l11 c11 k11
  have B11 := F11.binds (ps := ["script"]) fun _ _ _ _ _ _ us hl => match us, hl with | [_], _ => rfl
  have T : Txt w K mg ⟨f0, _, f1, _, f2, _, f3, _, f4, _, f5, _, f6, _, f7, _, f8, _, f9, _, f10, _, _, _, u_NAME_CHARACTERS, u_LONGEST_NAME, u_LONGEST_PATH, u_MOST_NAMES⟩ := {
    F_is_name := F0
    b_is_name := B0
    g_is_name := PySem.W.mg_of X G a0
    F_is_path := F1
    b_is_path := B1
    g_is_path := PySem.W.mg_of X G a1
    F_is_target := F2
    b_is_target := B2
    g_is_target := PySem.W.mg_of X G a2
    F_names_of := F3
    b_names_of := B3
    g_names_of := PySem.W.mg_of X G a3
    F__are_names := F4
    b__are_names := B4
    g__are_names := PySem.W.mg_of X G a4
    F__law_draws := F5
    b__law_draws := B5
    g__law_draws := PySem.W.mg_of X G a5
    F__law_name := F6
    b__law_name := B6
    g__law_name := PySem.W.mg_of X G a6
    F__law_text := F7
    b__law_text := B7
    g__law_text := PySem.W.mg_of X G a7
    F__law_is_name := F8
    b__law_is_name := B8
    g__law_is_name := PySem.W.mg_of X G a8
    F__law_row := F9
    b__law_row := B9
    g__law_row := PySem.W.mg_of X G a9
    F__law_flag := F10
    b__law_flag := B10
    g__law_flag := PySem.W.mg_of X G a10
    F_law := F11
    b_law := B11
    g_law := PySem.W.mg_of X G a11
    z_all := PySem.W.mg_none_of X G z_all
    z_len := PySem.W.mg_none_of X G z_len
    z_range := PySem.W.mg_none_of X G z_range
    z_int := PySem.W.mg_none_of X G z_int
    c_NAME_CHARACTERS := ⟨PySem.W.mg_of X G e_NAME_CHARACTERS, r_NAME_CHARACTERS⟩
    c_LONGEST_NAME := ⟨PySem.W.mg_of X G e_LONGEST_NAME, r_LONGEST_NAME⟩
    c_LONGEST_PATH := ⟨PySem.W.mg_of X G e_LONGEST_PATH, r_LONGEST_PATH⟩
    c_MOST_NAMES := ⟨PySem.W.mg_of X G e_MOST_NAMES, r_MOST_NAMES⟩
  }
  exact ⟨_, fun s v => .of_eq rfl, fun base => ok_law T⟩
end P46
open PySem PySem.W PyProof.Rows
set_option maxHeartbeats 0 in
theorem PySem.Challenge.cw_tidemark_k46_paths_and_targets_holds : PySem.Challenge.rw_tidemark_k46_paths_and_targets.Holds := by
  w_on; o_law; k_head; (case hw => w_witness2)
  k_fill
  refine L2.walk_ofK (l := PySem.Challenge.rw_tidemark_k46_paths_and_targets) (n := 63) (k := 5) (x := "script") (CX := L2.CX0) (sp := P46.sp_law) rfl (by decide) rfl ⟨rfl, by decide, by decide⟩ (fun w h Y => PySem.W.kIn_of Y) ?F (fun K H b ns hl hO hS => P46.law_start hl hO hS) (fun _ _ _ _ z => z)
  case F =>
    intro w mg fa h KX G hmg
    have q := @P46.all_facts
    obtain ⟨fd, h1, h2⟩ : ∃ fd : FuncData, (∀ (s : Shared) (v : Value), BindsTo s fd ⟨[v], []⟩ [("script", v)]) ∧ ∀ {P : Program} (base : Heap), L2.FnOk P w _ mg base L2.CX0 5 fa fd ["script"] (P46.sp_law _) := by
      refine' P46.all_facts (w := w) KX G hmg ?a0 ?l0 ?c0 ?k0 ?a1 ?l1 ?c1 ?k1 ?a2 ?l2 ?c2 ?k2 ?a3 ?l3 ?c3 ?k3 ?a4 ?l4 ?c4 ?k4 ?a5 ?l5 ?c5 ?k5 ?a6 ?l6 ?c6 ?k6 ?a7 ?l7 ?c7 ?k7 ?a8 ?l8 ?c8 ?k8 ?a9 ?l9 ?c9 ?k9 ?a10 ?l10 ?c10 ?k10 ?a11 ?l11 ?c11 ?k11 ?z_all ?z_len ?z_range ?z_int ?e_NAME_CHARACTERS ?e_LONGEST_NAME ?e_LONGEST_PATH ?e_MOST_NAMES ?r_NAME_CHARACTERS ?r_LONGEST_NAME ?r_LONGEST_PATH ?r_MOST_NAMES
      (case a0 => k_is); (case l0 => k_is); (case c0 => k_is); (case k0 => k_is); (case a1 => k_is); (case l1 => k_is)
      (case c1 => k_is); (case k1 => k_is); (case a2 => k_is); (case l2 => k_is); (case c2 => k_is); (case k2 => k_is)
      (case a3 => k_is); (case l3 => k_is); (case c3 => k_is); (case k3 => k_is); (case a4 => k_is); (case l4 => k_is)
      (case c4 => k_is); (case k4 => k_is); (case a5 => k_is); (case l5 => k_is); (case c5 => k_is); (case k5 => k_is)
      (case a6 => k_is); (case l6 => k_is); (case c6 => k_is); (case k6 => k_is); (case a7 => k_is); (case l7 => k_is)
      (case c7 => k_is); (case k7 => k_is); (case a8 => k_is); (case l8 => k_is); (case c8 => k_is); (case k8 => k_is)
      (case a9 => k_is); (case l9 => k_is); (case c9 => k_is); (case k9 => k_is); (case a10 => k_is); (case l10 => k_is)
      (case c10 => k_is); (case k10 => k_is); (case a11 => k_is); (case l11 => k_is); (case c11 => k_is); (case k11 => k_is)
      (case z_all => k_is); (case z_len => k_is); (case z_range => k_is); (case z_int => k_is); (case e_NAME_CHARACTERS => k_is); (case e_LONGEST_NAME => k_is)
      (case e_LONGEST_PATH => k_is); (case e_MOST_NAMES => k_is); (case r_NAME_CHARACTERS => exact ⟨_, rfl⟩); (case r_LONGEST_NAME => exact ⟨_, rfl⟩); (case r_LONGEST_PATH => exact ⟨_, rfl⟩); (case r_MOST_NAMES => exact ⟨_, rfl⟩)
    exact ⟨fd, h1, fun base _ _ => h2 base⟩
