import PyProof.Rows.All
import Wide.All
import OpenK.AllK
import Wide.FinOn
import HandS.ForMost
import HandS.Style
import HandS.Deep
import HandS.Base
import HandS.Call
import HandS.List
import HandS.Comp
import HandS.Ends
import HandS.Dict
import HandS.Iter
import HandS.Text
import HandS.Words
import HandS.WordsList
import HandS.Codes
import HandS.Rev
import HandS.Conv
import HandS.TupAny
import HandS.SortInts
import HandS.Star
import HandS.TupLe
import HandS.SetBool
import HandS.Strs
import HandS.Zip
import PySem.Challenge.RW_tidemark_k14_pages_counted_for_keys
set_option Elab.async false
set_option linter.all false
set_option maxRecDepth 100000
/-! Tm: short steps over the readings, one lemma a reading; continuations by name. -/
namespace Tm
open PySem PySem.Spec PyProof.Rows L2
abbrev St := L2.St

/-! ### continuations by name -/
def kAsg (g : TG) (σ : St) (nx : St → Hp → Prop) : VK := fun x H => g x σ H nx
def kDrop (nx : St → Hp → Prop) (σ : St) : VK := fun _ H => nx σ H
def kIf (t u : TS) (D : Ends) (σ : St) : Bool → Hp → Prop := fun b H => if b = true then t D σ H else u D σ H
def kO2 (r : R2) (x : V) (Q : VK) : VK := fun y H => r x y H Q
def kO1 (r : R2) (tb : TE) (σ : St) (Q : VK) : VK := fun x H => tb σ H (kO2 r x Q)
def kU (r : V → Hp → VK → Prop) (Q : VK) : VK := fun x H => r x H Q
def kB (Q : Bool → Hp → Prop) : VK := fun x H => ∃ k, x = .bl k ∧ Q k H
def kAnd (u : TT) (σ : St) (Q : Bool → Hp → Prop) : Bool → Hp → Prop := fun c H => if c = true then u σ H Q else Q false H
def kOr (u : TT) (σ : St) (Q : Bool → Hp → Prop) : Bool → Hp → Prop := fun c H => if c = true then Q true H else u σ H Q
def kNot (Q : Bool → Hp → Prop) : Bool → Hp → Prop := fun c H => Q (!c) H
def kAndV (tb : TE) (σ : St) (Q : VK) : VK := fun x H => ∃ c, x = .bl c ∧ if c = true then tb σ H Q else Q (.bl false) H
def kOrV (tb : TE) (σ : St) (Q : VK) : VK := fun x H => ∃ c, x = .bl c ∧ if c = true then Q (.bl true) H else tb σ H Q
def kNotV (Q : VK) : VK := fun x H => ∃ c, x = .bl c ∧ Q (.bl (!c)) H
def kIfE (ta tb : TE) (σ : St) (Q : VK) : Bool → Hp → Prop := fun c H => if c = true then ta σ H Q else tb σ H Q
def kC3 (r' : R2) (y : V) (Q : VK) : VK := fun z H => r' y z H Q
def kC2' (r' : R2) (tc : TE) (σ : St) (y : V) (Q : VK) : VK := fun z H => ∃ k, z = .bl k ∧ (if k = true then tc σ H (kC3 r' y Q) else Q (.bl false) H)
def kC2 (r r' : R2) (tc : TE) (σ : St) (x : V) (Q : VK) : VK := fun y H => r x y H (kC2' r' tc σ y Q)
def kC1 (r r' : R2) (tb tc : TE) (σ : St) (Q : VK) : VK := fun x H => tb σ H (kC2 r r' tc σ x Q)
def kA2 (x : V) (Q : List V → Hp → Prop) : List V → Hp → Prop := fun xs H => Q (x :: xs) H
def kA1 (tr : TA) (σ : St) (Q : List V → Hp → Prop) : VK := fun x H => tr σ H (kA2 x Q)
def kTup (Q : VK) : List V → Hp → Prop := fun xs H => xs.length ≤ sizeLine ∧ ∀ p, H p = none → Q (.ref p) (upd H p (.tup xs))
def kLst (Q : VK) : List V → Hp → Prop := fun xs H => xs.length ≤ sizeLine ∧ ∀ p, H p = none → Q (.ref p) (upd H p (.lst xs))
def kCall (sp : Sp) (E : XK) (Q : VK) : List V → Hp → Prop := fun vs H => sp vs H Q E
def kM2 (sp : Sp) (x : V) (E : XK) (Q : VK) : List V → Hp → Prop := fun vs H => sp (x :: vs) H Q E
def kM1 (m : Str) (C : Addr) (sp : Sp) (E : XK) (t : TA) (σ : St) (Q : VK) : VK := fun x H => ∃ a dx fs, x = .ref a ∧ H a = some (.ins C dx fs) ∧ fs.lookup m = none ∧ t σ H (kM2 sp x E Q)
def kMk (C : Addr) (sp : Sp) (E : XK) (Q : VK) : List V → Hp → Prop := fun vs H => ∀ x dx, H x = none → H dx = none → dx ≠ x → sp (.ref x :: vs) (upd (upd H dx (.own x)) x (.ins C dx [])) (fun v H2 => v = .non ∧ Q (.ref x) H2) E
def kFld (K : PySem.W.Frag) (f : Str) (Q : VK) : VK := fun x H => ∃ a C dx fs v, x = .ref a ∧ H a = some (.ins C dx fs) ∧ Cls K C ∧ NoAttr K C f ∧ fs.lookup f = some v ∧ Q v H
def kSF2 (K : PySem.W.Frag) (f : Str) (y : V) (σ : St) (nx : St → Hp → Prop) : VK := fun x H => ∃ a C dx fs, x = .ref a ∧ H a = some (.ins C dx fs) ∧ Cls K C ∧ NoAttr K C f ∧ fs.length < 1000 ∧ nx σ (upd H a (.ins C dx (putF f y fs)))
def kSF1 (K : PySem.W.Frag) (ta : TE) (f : Str) (σ : St) (nx : St → Hp → Prop) : VK := fun y H => ta σ H (kSF2 K f y σ nx)
def kCB (r : List V → Hp → VK → Prop) (Q : VK) : List V → Hp → Prop := fun vs H => r vs H Q
def kBM2 (r : V → List V → Hp → VK → Prop) (x : V) (Q : VK) : List V → Hp → Prop := fun xs H => r x xs H Q
def kBM (K : PySem.W.Frag) (T : String) (r : V → List V → Hp → VK → Prop) (t : TA) (σ : St) (Q : VK) : VK := fun x H => tyV K T x H ∧ t σ H (kBM2 r x Q)
def kBM0 (K : PySem.W.Frag) (T : String) (r : V → List V → Hp → VK → Prop) (Q : VK) : VK := fun x H => tyV K T x H ∧ r x [] H Q
def kS3 (r : V → Option Int → Option Int → Hp → VK → Prop) (x : V) (l : Option Int) (Q : VK) : Option Int → Hp → Prop := fun u H => r x l u H Q
def kS2 (r : V → Option Int → Option Int → Hp → VK → Prop) (th : TO) (σ : St) (x : V) (Q : VK) : Option Int → Hp → Prop := fun l H => th σ H (kS3 r x l Q)
def kS1 (r : V → Option Int → Option Int → Hp → VK → Prop) (tl th : TO) (σ : St) (Q : VK) : VK := fun x H => tl σ H (kS2 r th σ x Q)
def kPart (Q : Option Int → Hp → Prop) : VK := fun x H => ∃ i, x = .int i ∧ Q (some i) H
def kAug2 (i : Nat) (σ : St) (nx : St → Hp → Prop) : VK := fun z H => nx (σ.set i (some z)) H
def kAug1 (i : Nat) (ti : TIp) (x : V) (σ : St) (nx : St → Hp → Prop) : VK := fun y H => ti x y H (kAug2 i σ nx)
def kIL (K : PySem.W.Frag) (R : It → Hp → Prop) : VK := fun x H => ∃ a, x = .ref a ∧ (∃ xs, SqL K H a xs) ∧ R (Itl K a) H
def kIT (K : PySem.W.Frag) (R : It → Hp → Prop) : VK := fun x H => ∃ a, x = .ref a ∧ (∃ xs, SqT K H a xs) ∧ R (Itt K a) H
def kIR1 (R : It → Hp → Prop) : List V → Hp → Prop := fun vs H => ∃ j : Int, vs = [.int j] ∧ -(2 ^ 62) ≤ j ∧ j < 2 ^ 62 ∧ R (Itr 0 j.toNat) H
def kIR2 (R : It → Hp → Prop) : List V → Hp → Prop := fun vs H => ∃ i j : Int, vs = [.int i, .int j] ∧ (-(2 ^ 62) ≤ i ∧ i < 2 ^ 62 ∧ -(2 ^ 62) ≤ j ∧ j < 2 ^ 62) ∧ R (Itr i (j - i).toNat) H
/-- what is left of a for: the walked thing is there -/
def kFor (g : TG) (tb : TS) (D : Ends) (σ : St) : It → Hp → Prop := fun J H1 => ∃ W : Nat → Nat → St → Hp → Prop, (∃ m, W 0 m σ H1) ∧ ∀ i m σ H, W i m σ H →
  (J.stop i H ∧ D.nx σ H) ∨ (J.go i H ∧ ∃ N : St → Hp → Prop, (∀ σ' H', N σ' H' → ∃ m', m' < m ∧ W (i + 1) m' σ' H') ∧ ∀ x H', J.yld i H x H' → g x σ H' fun σ2 H2 => tb { D with nx := N, ct := N, bk := D.nx } σ2 H2)
/-- a turn's body, behind its target -/
def kBody (tb : TS) (D : Ends) : St → Hp → Prop := fun σ H => tb D σ H
def kLc3 (D : Addr) (N : Hp → Prop) : VK := fun y H4 => ∃ acc, H4 D = some (.lst acc) ∧ acc.length < sizeLine ∧ N (upd H4 D (.lst (acc ++ [y])))
def kLc2 (te : TE) (σ : St) (D : Addr) (N : Hp → Prop) : Bool → Hp → Prop := fun b H3 => if b = true then te σ H3 (kLc3 D N) else N H3
def kLc1 (tt : TT) (te : TE) (vs : List Nat) (σ : St) (D : Addr) (N : Hp → Prop) : St → Hp → Prop := fun σ2 H2 => wipe σ2 vs = wipe σ vs ∧ tt σ2 H2 (kLc2 te σ2 D N)
def kLc (g : TG) (tt : TT) (te : TE) (vs : List Nat) (σ : St) (Q : VK) : It → Hp → Prop := fun J H1 => ∀ D, H1 D = none → ∃ W : Nat → Nat → Hp → Prop, (∃ m, W 0 m (upd H1 D (.lst []))) ∧ ∀ i m H, W i m H →
  (J.stop i H ∧ Q (.ref D) H) ∨ (J.go i H ∧ ∃ Nx : Hp → Prop, (∀ H', Nx H' → ∃ m', m' < m ∧ W (i + 1) m' H') ∧ ∀ x H', J.yld i H x H' → g x (wipe σ vs) H' (kLc1 tt te vs σ D Nx))

section steps
variable {σ σ' : St} {H : Hp} {Q : VK} {nx bk ct : St → Hp → Prop} {rt : VK} {K : PySem.W.Frag}
/-! ### statements -/
theorem i_st {t : TS} {D : Ends} (e : σ = σ') (h : t D σ' H) : t D σ H := by rw [e]; exact h
theorem i_seq {t u : TS} (h : t ⟨u ⟨nx, rt, bk, ct⟩, rt, bk, ct⟩ σ H) : tSeq t u ⟨nx, rt, bk, ct⟩ σ H := h
theorem i_next (h : nx σ H) : tNext ⟨nx, rt, bk, ct⟩ σ H := h
theorem i_brk (h : bk σ H) : tBreak ⟨nx, rt, bk, ct⟩ σ H := h
theorem i_cnt (h : ct σ H) : tCont ⟨nx, rt, bk, ct⟩ σ H := h
theorem i_drop {te : TE} (h : te σ H (kDrop nx σ)) : tDrop te ⟨nx, rt, bk, ct⟩ σ H := h
theorem i_kDrop {x : V} (h : nx σ H) : kDrop nx σ x H := h
theorem i_ret {te : TE} (h : te σ H rt) : tRet te ⟨nx, rt, bk, ct⟩ σ H := h
theorem i_retN (h : rt .non H) : tRetN ⟨nx, rt, bk, ct⟩ σ H := h
theorem i_ifS {c : TT} {t u : TS} {D : Ends} (h : c σ H (kIf t u D σ)) : tIfS c t u D σ H := h
theorem i_kIfT {t u : TS} {D : Ends} (h : t D σ H) : kIf t u D σ true H := h
theorem i_kIfF {t u : TS} {D : Ends} (h : u D σ H) : kIf t u D σ false H := by show if false = true then _ else _; rw [if_neg Bool.false_ne_true]; exact h
theorem i_kIf {t u : TS} {D : Ends} {b : Bool} (h1 : b = true → t D σ H) (h2 : b = false → u D σ H) : kIf t u D σ b H := by
  cases b with
  | true => exact h1 rfl
  | false => exact i_kIfF (h2 rfl)
theorem i_kIfd {t u : TS} {D : Ends} {p : Prop} [Decidable p] (h1 : p → t D σ H) (h2 : ¬ p → u D σ H) : kIf t u D σ (decide p) H := i_kIf (fun e => h1 (of_decide_eq_true e)) (fun e => h2 (of_decide_eq_false e))
theorem i_kIfn {t u : TS} {D : Ends} {b : Bool} (h : kIf u t D σ b H) : kIf t u D σ (!b) H := by
  cases b with
  | true => exact i_kIfF h
  | false => exact i_kIfT (by exact h)
theorem i_kIfdT {t u : TS} {D : Ends} {p : Prop} [Decidable p] (hp : p) (h : t D σ H) : kIf t u D σ (decide p) H := i_kIfd (fun _ => h) (fun n => absurd hp n)
theorem i_kIfdF {t u : TS} {D : Ends} {p : Prop} [Decidable p] (hp : ¬ p) (h : u D σ H) : kIf t u D σ (decide p) H := i_kIfd (fun n => absurd n hp) (fun _ => h)
theorem i_asg {te : TE} {g : TG} (h : te σ H (kAsg g σ nx)) : tAsg te g ⟨nx, rt, bk, ct⟩ σ H := h
theorem i_kAsg {g : TG} {x : V} (h : g x σ H nx) : kAsg g σ nx x H := h
theorem i_gName {i : Nat} {v : V} (e : σ.set i (some v) = σ') (h : nx σ' H) : gName i v σ H nx := by show nx (σ.set i (some v)) H; rw [e]; exact h
theorem i_gNameW {i j : Nat} {v : V} {σ1 σ2 : St} {vs : List Nat} (hv : vs = [j]) (e1 : σ.set j none = σ1) (e2 : σ1.set i (some v) = σ2) (h : nx σ2 H) : gName i v (wipe σ vs) H nx := by
  subst hv
  show nx ((wipe σ [j]).set i (some v)) H
  have e : wipe σ [j] = σ.set j none := rfl
  rw [e, e1, e2]; exact h
theorem i_gTup {n : Nat} {t : TGs} {a : Addr} {xs : List V} (s : SqT K H a xs) (l : xs.length = n) (h : t xs σ H nx) : gTup K n t (.ref a) σ H nx := ⟨a, xs, rfl, s, l, h⟩
theorem i_gCons {t : TG} {u : TGs} {v : V} {r : List V} (h : t v σ H fun σ' H' => u r σ' H' nx) : gCons t u (v :: r) σ H nx := ⟨v, r, rfl, h⟩
theorem i_gNil (h : nx σ H) : gNil [] σ H nx := ⟨rfl, h⟩
theorem i_aug {i : Nat} {te : TE} {ti : TIp} {x : V} (e : σ[i]? = some (some x)) (h : te σ H (kAug1 i ti x σ nx)) : tAug i te ti ⟨nx, rt, bk, ct⟩ σ H := ⟨x, e, h⟩
theorem i_kAug1 {i : Nat} {ti : TIp} {x y : V} (h : ti x y H (kAug2 i σ nx)) : kAug1 i ti x σ nx y H := h
theorem i_kAug2 {i : Nat} {z : V} (e : σ.set i (some z) = σ') (h : nx σ' H) : kAug2 i σ nx z H := by show nx (σ.set i (some z)) H; rw [e]; exact h
theorem i_ipI {f : Int → Int → Int} {i j : Int} (h : Q (.int (f i j)) H) : ipI f (.int i) (.int j) H Q := ⟨i, j, rfl, rfl, h⟩
theorem i_sFld {ta tv : TE} {f : Str} (h : tv σ H (kSF1 K ta f σ nx)) : sFld K ta tv f ⟨nx, rt, bk, ct⟩ σ H := h
theorem i_kSF1 {ta : TE} {f : Str} {y : V} (h : ta σ H (kSF2 K f y σ nx)) : kSF1 K ta f σ nx y H := h
theorem i_kSF2 {f : Str} {y : V} {a C dx : Addr} {fs : List (Str × V)} (hp : H a = some (.ins C dx fs)) (c : Cls K C) (n : NoAttr K C f) (l : fs.length < 1000) (h : nx σ (upd H a (.ins C dx (putF f y fs)))) : kSF2 K f y σ nx (.ref a) H := ⟨a, C, dx, fs, rfl, hp, c, n, l, h⟩
theorem i_cut {t u : TS} (M : St → Hp → Prop) (h1 : t ⟨M, rt, bk, ct⟩ σ H) (h2 : ∀ σ' H', M σ' H' → u ⟨nx, rt, bk, ct⟩ σ' H') : C8.tCut t u ⟨nx, rt, bk, ct⟩ σ H := ⟨M, h1, h2⟩
/-! ### expressions -/
theorem i_var {i : Nat} {v : V} (e : σ[i]? = some (some v)) (h : Q v H) : tVar i σ H Q := ⟨v, e, h⟩
theorem i_c {v : V} (h : Q v H) : tC v σ H Q := h
theorem i_op {r : R2} {ta tb : TE} (h : ta σ H (kO1 r tb σ Q)) : tOp r ta tb σ H Q := h
theorem i_kO1 {r : R2} {tb : TE} {x : V} (h : tb σ H (kO2 r x Q)) : kO1 r tb σ Q x H := h
theorem i_kO2 {r : R2} {x y : V} (h : r x y H Q) : kO2 r x Q y H := h
theorem i_un {r : V → Hp → VK → Prop} {ta : TE} (h : ta σ H (kU r Q)) : tUn r ta σ H Q := h
theorem i_kU {r : V → Hp → VK → Prop} {x : V} (h : r x H Q) : kU r Q x H := h
theorem i_rI {C : Int → Int → Prop} {g : Int → Int → V} {i j : Int} (c : C i j) (h : Q (g i j) H) : rI C g (.int i) (.int j) H Q := ⟨i, j, rfl, rfl, c, h⟩
theorem i_rI0 {g : Int → Int → V} {i j : Int} (h : Q (g i j) H) : rI0 g (.int i) (.int j) H Q := ⟨i, j, rfl, rfl, h⟩
theorem i_rU {g : Int → V} {i : Int} (h : Q (g i) H) : rU g (.int i) H Q := ⟨i, rfl, h⟩
theorem i_rEqI {i j : Int} (h : Q (.bl (decide (i = j))) H) : rEq (.int i) (.int j) H Q := ⟨rfl, by
  have e : decide (V.int i = V.int j) = decide (i = j) := by by_cases z : i = j <;> simp [z]
  rw [e]; exact h⟩
theorem i_rNeI {i j : Int} (h : Q (.bl (!decide (i = j))) H) : rNe (.int i) (.int j) H Q := ⟨rfl, by
  have e : decide (V.int i = V.int j) = decide (i = j) := by by_cases z : i = j <;> simp [z]
  rw [e]; exact h⟩
theorem i_rEqS {i j : Str} (h : Q (.bl (decide (i = j))) H) : rEq (.str i) (.str j) H Q := ⟨rfl, by
  have e : decide (V.str i = V.str j) = decide (i = j) := by by_cases z : i = j <;> simp [z]
  rw [e]; exact h⟩
theorem i_rNeS {i j : Str} (h : Q (.bl (!decide (i = j))) H) : rNe (.str i) (.str j) H Q := ⟨rfl, by
  have e : decide (V.str i = V.str j) = decide (i = j) := by by_cases z : i = j <;> simp [z]
  rw [e]; exact h⟩
theorem i_rEqB {i j : Bool} (h : Q (.bl (decide (i = j))) H) : rEq (.bl i) (.bl j) H Q := ⟨rfl, by
  have e : decide (V.bl i = V.bl j) = decide (i = j) := by by_cases z : i = j <;> simp [z]
  rw [e]; exact h⟩
theorem i_rNeB {i j : Bool} (h : Q (.bl (!decide (i = j))) H) : rNe (.bl i) (.bl j) H Q := ⟨rfl, by
  have e : decide (V.bl i = V.bl j) = decide (i = j) := by by_cases z : i = j <;> simp [z]
  rw [e]; exact h⟩
theorem i_test {t : TE} {Q : Bool → Hp → Prop} (h : t σ H (kB Q)) : tTest t σ H Q := h
theorem i_tB {t : TE} {Q : Bool → Hp → Prop} (h : t σ H (kB Q)) : tB t σ H Q := h
theorem i_kB {b : Bool} {Q : Bool → Hp → Prop} (h : Q b H) : kB Q (.bl b) H := ⟨b, rfl, h⟩
theorem i_and {t u : TT} {Q : Bool → Hp → Prop} (h : t σ H (kAnd u σ Q)) : tAnd t u σ H Q := h
theorem i_or {t u : TT} {Q : Bool → Hp → Prop} (h : t σ H (kOr u σ Q)) : tOr t u σ H Q := h
theorem i_not {t : TT} {Q : Bool → Hp → Prop} (h : t σ H (kNot Q)) : tNot t σ H Q := h
theorem i_kNot {c : Bool} {Q : Bool → Hp → Prop} (h : Q (!c) H) : kNot Q c H := h
theorem i_kAndT {u : TT} {Q : Bool → Hp → Prop} (h : u σ H Q) : kAnd u σ Q true H := h
theorem i_kAndF {u : TT} {Q : Bool → Hp → Prop} (h : Q false H) : kAnd u σ Q false H := by show if false = true then _ else _; rw [if_neg Bool.false_ne_true]; exact h
theorem i_kOrT {u : TT} {Q : Bool → Hp → Prop} (h : Q true H) : kOr u σ Q true H := h
theorem i_kOrF {u : TT} {Q : Bool → Hp → Prop} (h : u σ H Q) : kOr u σ Q false H := by show if false = true then _ else _; rw [if_neg Bool.false_ne_true]; exact h
theorem i_kAnd {u : TT} {Q : Bool → Hp → Prop} {b : Bool} (h1 : b = true → u σ H Q) (h2 : b = false → Q false H) : kAnd u σ Q b H := by
  cases b with
  | true => exact h1 rfl
  | false => exact i_kAndF (h2 rfl)
theorem i_kOr {u : TT} {Q : Bool → Hp → Prop} {b : Bool} (h1 : b = true → Q true H) (h2 : b = false → u σ H Q) : kOr u σ Q b H := by
  cases b with
  | true => exact h1 rfl
  | false => exact i_kOrF (h2 rfl)
theorem i_andV {ta tb : TE} (h : ta σ H (kAndV tb σ Q)) : tAndV ta tb σ H Q := h
theorem i_orV {ta tb : TE} (h : ta σ H (kOrV tb σ Q)) : tOrV ta tb σ H Q := h
theorem i_notV {ta : TE} (h : ta σ H (kNotV Q)) : tNotV ta σ H Q := h
theorem i_kNotV {c : Bool} (h : Q (.bl (!c)) H) : kNotV Q (.bl c) H := ⟨c, rfl, h⟩
theorem i_kAndV {tb : TE} {b : Bool} (h1 : b = true → tb σ H Q) (h2 : b = false → Q (.bl false) H) : kAndV tb σ Q (.bl b) H := ⟨b, rfl, by
  cases b with
  | true => exact h1 rfl
  | false => rw [if_neg Bool.false_ne_true]; exact h2 rfl⟩
theorem i_kOrV {tb : TE} {b : Bool} (h1 : b = true → Q (.bl true) H) (h2 : b = false → tb σ H Q) : kOrV tb σ Q (.bl b) H := ⟨b, rfl, by
  cases b with
  | true => exact h1 rfl
  | false => rw [if_neg Bool.false_ne_true]; exact h2 rfl⟩
theorem i_ifE {t : TT} {ta tb : TE} (h : t σ H (kIfE ta tb σ Q)) : tIf t ta tb σ H Q := h
theorem i_kIfET {ta tb : TE} (h : ta σ H Q) : kIfE ta tb σ Q true H := h
theorem i_kIfEF {ta tb : TE} (h : tb σ H Q) : kIfE ta tb σ Q false H := by show if false = true then _ else _; rw [if_neg Bool.false_ne_true]; exact h
theorem i_kIfE {ta tb : TE} {b : Bool} (h1 : b = true → ta σ H Q) (h2 : b = false → tb σ H Q) : kIfE ta tb σ Q b H := by
  cases b with
  | true => exact h1 rfl
  | false => exact i_kIfEF (h2 rfl)
theorem i_kIfEd {ta tb : TE} {p : Prop} [Decidable p] (h1 : p → ta σ H Q) (h2 : ¬ p → tb σ H Q) : kIfE ta tb σ Q (decide p) H := i_kIfE (fun e => h1 (of_decide_eq_true e)) (fun e => h2 (of_decide_eq_false e))
theorem i_kIfEdT {ta tb : TE} {p : Prop} [Decidable p] (hp : p) (h : ta σ H Q) : kIfE ta tb σ Q (decide p) H := i_kIfEd (fun _ => h) (fun n => absurd hp n)
theorem i_kIfEdF {ta tb : TE} {p : Prop} [Decidable p] (hp : ¬ p) (h : tb σ H Q) : kIfE ta tb σ Q (decide p) H := i_kIfEd (fun n => absurd n hp) (fun _ => h)
theorem i_chain {r r' : R2} {ta tb tc : TE} (h : ta σ H (kC1 r r' tb tc σ Q)) : tChain r r' ta tb tc σ H Q := h
theorem i_kC1 {r r' : R2} {tb tc : TE} {x : V} (h : tb σ H (kC2 r r' tc σ x Q)) : kC1 r r' tb tc σ Q x H := h
theorem i_kC2 {r r' : R2} {tc : TE} {x y : V} (h : r x y H (kC2' r' tc σ y Q)) : kC2 r r' tc σ x Q y H := h
theorem i_kC2' {r' : R2} {tc : TE} {y : V} {b : Bool} (h1 : b = true → tc σ H (kC3 r' y Q)) (h2 : b = false → Q (.bl false) H) : kC2' r' tc σ y Q (.bl b) H := ⟨b, rfl, by
  cases b with
  | true => exact h1 rfl
  | false => rw [if_neg Bool.false_ne_true]; exact h2 rfl⟩
theorem i_kC3 {r' : R2} {y z : V} (h : r' y z H Q) : kC3 r' y Q z H := h
theorem i_nil {Q : List V → Hp → Prop} (h : Q [] H) : tNil σ H Q := h
theorem i_cons {ta : TE} {tr : TA} {Q : List V → Hp → Prop} (h : ta σ H (kA1 tr σ Q)) : tCons ta tr σ H Q := h
theorem i_kA1 {tr : TA} {Q : List V → Hp → Prop} {x : V} (h : tr σ H (kA2 x Q)) : kA1 tr σ Q x H := h
theorem i_kA2 {Q : List V → Hp → Prop} {x : V} {xs : List V} (h : Q (x :: xs) H) : kA2 x Q xs H := h
theorem i_tup {t : TA} (h : t σ H (kTup Q)) : tTup t σ H Q := h
theorem i_lst {t : TA} (h : t σ H (kLst Q)) : tLst t σ H Q := h
theorem i_kTup {xs : List V} (l : xs.length ≤ sizeLine) (h : ∀ p, H p = none → Q (.ref p) (upd H p (.tup xs))) : kTup Q xs H := ⟨l, h⟩
theorem i_kLst {xs : List V} (l : xs.length ≤ sizeLine) (h : ∀ p, H p = none → Q (.ref p) (upd H p (.lst xs))) : kLst Q xs H := ⟨l, h⟩
theorem i_call {sp : Sp} {E : XK} {t : TA} (h : t σ H (kCall sp E Q)) : tCall sp [] E t σ H Q := by
  show t σ H fun vs H1 => sp (vs ++ []) H1 Q E
  have e : (fun vs H1 => sp (vs ++ []) H1 Q E) = kCall sp E Q := by funext vs H1; rw [List.append_nil]; rfl
  rw [e]; exact h
theorem i_kCall {sp : Sp} {E : XK} {vs : List V} (h : sp vs H Q E) : kCall sp E Q vs H := h
theorem i_meth {C : Addr} {m : Str} {sp : Sp} {E : XK} {ta : TE} {t : TA} (h : ta σ H (kM1 m C sp E t σ Q)) : tMeth C m sp [] E ta t σ H Q := by
  have e : (kM1 m C sp E t σ Q) = (fun x H1 => ∃ a dx fs, x = .ref a ∧ H1 a = some (.ins C dx fs) ∧ fs.lookup m = none ∧ t σ H1 fun vs H2 => sp (x :: (vs ++ [])) H2 Q E) := by
    funext x H1; unfold kM1 kM2; simp only [List.append_nil]
  show ta σ H _
  rw [← e]; exact h
theorem i_kM1 {C : Addr} {m : Str} {sp : Sp} {E : XK} {t : TA} {a dx : Addr} {fs : List (Str × V)} (hp : H a = some (.ins C dx fs)) (l : fs.lookup m = none) (h : t σ H (kM2 sp (.ref a) E Q)) : kM1 m C sp E t σ Q (.ref a) H := ⟨a, dx, fs, rfl, hp, l, h⟩
theorem i_kM2 {sp : Sp} {E : XK} {x : V} {vs : List V} (h : sp (x :: vs) H Q E) : kM2 sp x E Q vs H := h
theorem i_make {C : Addr} {sp : Sp} {E : XK} {t : TA} (h : t σ H (kMk C sp E Q)) : tMake C sp [] E t σ H Q := by
  have e : (kMk C sp E Q) = (fun vs H1 => ∀ x dx, H1 x = none → H1 dx = none → dx ≠ x → sp (.ref x :: (vs ++ [])) (upd (upd H1 dx (.own x)) x (.ins C dx [])) (fun v H2 => v = .non ∧ Q (.ref x) H2) E) := by
    funext vs H1; unfold kMk; simp only [List.append_nil]
  show t σ H _
  rw [← e]; exact h
theorem i_fld {ta : TE} {f : Str} (h : ta σ H (kFld K f Q)) : tFld K ta f σ H Q := h
theorem i_kFld {f : Str} {a C dx : Addr} {fs : List (Str × V)} {v : V} (hp : H a = some (.ins C dx fs)) (c : Cls K C) (n : NoAttr K C f) (l : fs.lookup f = some v) (h : Q v H) : kFld K f Q (.ref a) H := ⟨a, C, dx, fs, v, rfl, hp, c, n, l, h⟩
theorem i_cb {r : List V → Hp → VK → Prop} {t : TA} (h : t σ H (kCB r Q)) : tCB r t σ H Q := h
theorem i_kCB {r : List V → Hp → VK → Prop} {vs : List V} (h : r vs H Q) : kCB r Q vs H := h
theorem i_bm {T : String} {r : V → List V → Hp → VK → Prop} {to : TE} {t : TA} (h : to σ H (kBM K T r t σ Q)) : tBM K T r to t σ H Q := h
theorem i_bm0 {T : String} {r : V → List V → Hp → VK → Prop} {to : TE} (h : to σ H (kBM0 K T r Q)) : tBM0 K T r to σ H Q := h
theorem i_kBMl {r : V → List V → Hp → VK → Prop} {t : TA} {l : Addr} {xs : List V} (s : SqL K H l xs) (h : t σ H (kBM2 r (.ref l) Q)) : kBM K "list" r t σ Q (.ref l) H := ⟨.inl ⟨rfl, _, s⟩, h⟩
theorem i_kBM0l {r : V → List V → Hp → VK → Prop} {l : Addr} {xs : List V} (s : SqL K H l xs) (h : r (.ref l) [] H Q) : kBM0 K "list" r Q (.ref l) H := ⟨.inl ⟨rfl, _, s⟩, h⟩
theorem i_kBM2 {r : V → List V → Hp → VK → Prop} {x : V} {xs : List V} (h : r x xs H Q) : kBM2 r x Q xs H := h
theorem i_append {l : Addr} {xs : List V} {y : V} (hl : H l = some (.lst xs)) (z : xs.length < sizeLine) (h : Q .non (upd H l (.lst (xs ++ [y])))) : rAppend (.ref l) [y] H Q := ⟨l, xs, y, rfl, rfl, hl, z, h⟩
theorem i_extend {l b : Addr} {xs zs : List V} (hl : H l = some (.lst xs)) (hb : H b = some (.lst zs)) (z : xs.length + zs.length ≤ sizeLine) (h : Q .non (upd H l (.lst (xs ++ zs)))) : rExtend (.ref l) [.ref b] H Q := ⟨l, b, xs, zs, rfl, rfl, hl, hb, z, h⟩
theorem i_cat {l b : Addr} {xs zs : List V} (hl : H l = some (.lst xs)) (hb : H b = some (.lst zs)) (z : xs.length + zs.length ≤ sizeLine) (h : ∀ p, H p = none → Q (.ref p) (upd H p (.lst (xs ++ zs)))) : rCat (.ref l) (.ref b) H Q := ⟨l, b, xs, zs, rfl, rfl, hl, hb, z, h⟩
theorem i_rep {l : Addr} {xs : List V} {k : Int} (hl : H l = some (.lst xs)) (k1 : -(2 ^ 63) ≤ k) (k2 : k < 2 ^ 63) (z : xs.length * k.toNat ≤ sizeLine) (h : ∀ p, H p = none → Q (.ref p) (upd H p (.lst (List.replicate k.toNat xs).flatten))) : rRep (.ref l) (.int k) H Q := ⟨l, k, xs, rfl, rfl, hl, k1, k2, z, h⟩
theorem i_ixL {p : Addr} {xs : List V} {i : Int} {v : V} (s : SqL K H p xs) (e : atI xs i = some v) (h : Q v H) : rIxL K (.ref p) (.int i) H Q := ⟨p, xs, i, v, rfl, rfl, s, e, h⟩
theorem i_ixT {p : Addr} {xs : List V} {i : Int} {v : V} (s : SqT K H p xs) (e : atI xs i = some v) (h : Q v H) : rIxT K (.ref p) (.int i) H Q := ⟨p, xs, i, v, rfl, rfl, s, e, h⟩
theorem i_sl {r : V → Option Int → Option Int → Hp → VK → Prop} {te : TE} {tl th : TO} (h : te σ H (kS1 r tl th σ Q)) : tSl r te tl th σ H Q := h
theorem i_kS1 {r : V → Option Int → Option Int → Hp → VK → Prop} {tl th : TO} {x : V} (h : tl σ H (kS2 r th σ x Q)) : kS1 r tl th σ Q x H := h
theorem i_kS2 {r : V → Option Int → Option Int → Hp → VK → Prop} {th : TO} {x : V} {l : Option Int} (h : th σ H (kS3 r x l Q)) : kS2 r th σ x Q l H := h
theorem i_kS3 {r : V → Option Int → Option Int → Hp → VK → Prop} {x : V} {l u : Option Int} (h : r x l u H Q) : kS3 r x l Q u H := h
theorem i_noPart {Q : Option Int → Hp → Prop} (h : Q none H) : tNoPart σ H Q := h
theorem i_part {t : TE} {Q : Option Int → Hp → Prop} (h : t σ H (kPart Q)) : tPart t σ H Q := h
theorem i_kPart {Q : Option Int → Hp → Prop} {i : Int} (h : Q (some i) H) : kPart Q (.int i) H := ⟨i, rfl, h⟩
theorem i_slL {a : Addr} {xs : List V} {lo hi : Option Int} (s : SqL K H a xs) (h : ∀ p, H p = none → Q (.ref p) (upd H p (.lst (cutV xs lo hi)))) : rSlL K (.ref a) lo hi H Q := ⟨a, xs, rfl, s, h⟩
/-! ### what is walked -/
theorem i_for {wi : TI} {g : TG} {tb : TS} {D : Ends} (h : wi σ H (kFor g tb D σ)) : tFor wi g tb D σ H := h
theorem i_lc {wi : TI} {g : TG} {tt : TT} {te : TE} {vs : List Nat} (h : wi σ H (kLc g tt te vs σ Q)) : tLc wi g tt te vs σ H Q := h
theorem i_iList {tl : TE} {R : It → Hp → Prop} (h : tl σ H (kIL K R)) : iList K tl σ H R := h
theorem i_iTup {tl : TE} {R : It → Hp → Prop} (h : tl σ H (kIT K R)) : iTup K tl σ H R := h
theorem i_iRng1 {ta : TA} {R : It → Hp → Prop} (h : ta σ H (kIR1 R)) : iRng1 ta σ H R := h
theorem i_iRng2 {ta : TA} {R : It → Hp → Prop} (h : ta σ H (kIR2 R)) : iRng2 ta σ H R := h
theorem i_kIL {R : It → Hp → Prop} {a : Addr} {xs : List V} (s : SqL K H a xs) (h : R (Itl K a) H) : kIL K R (.ref a) H := ⟨a, rfl, ⟨xs, s⟩, h⟩
theorem i_kIT {R : It → Hp → Prop} {a : Addr} {xs : List V} (s : SqT K H a xs) (h : R (Itt K a) H) : kIT K R (.ref a) H := ⟨a, rfl, ⟨xs, s⟩, h⟩
theorem i_kIR1 {R : It → Hp → Prop} {j : Int} (a : -(2 ^ 62) ≤ j) (b : j < 2 ^ 62) (h : R (Itr 0 j.toNat) H) : kIR1 R [.int j] H := ⟨j, rfl, a, b, h⟩
theorem i_kIR2 {R : It → Hp → Prop} {i j : Int} (a : -(2 ^ 62) ≤ i) (b : i < 2 ^ 62) (c : -(2 ^ 62) ≤ j) (d : j < 2 ^ 62) (h : R (Itr i (j - i).toNat) H) : kIR2 R [.int i, .int j] H := ⟨i, j, rfl, ⟨a, b, c, d⟩, h⟩
/-- for over a list that stands still -/
theorem i_forL {a : Addr} {g : TG} {tb : TS} (xs : List V) (Pv : Nat → St → Hp → Prop) (h0 : Pv 0 σ H) (hl : ∀ i σ H, i ≤ xs.length → Pv i σ H → SqL K H a xs)
    (hs : ∀ i x σ H, xs[i]? = some x → Pv i σ H → g x σ H (kBody tb ⟨Pv (i + 1), rt, nx, Pv (i + 1)⟩)) (hd : ∀ σ H, Pv xs.length σ H → nx σ H) : kFor g tb ⟨nx, rt, bk, ct⟩ σ (Itl K a) H :=
  for_list (D := ⟨nx, rt, bk, ct⟩) Pv h0 hl hs hd
theorem i_forT {a : Addr} {g : TG} {tb : TS} (xs : List V) (Pv : Nat → St → Hp → Prop) (h0 : Pv 0 σ H) (hl : ∀ i σ H, i ≤ xs.length → Pv i σ H → SqT K H a xs)
    (hs : ∀ i x σ H, xs[i]? = some x → Pv i σ H → g x σ H (kBody tb ⟨Pv (i + 1), rt, nx, Pv (i + 1)⟩)) (hd : ∀ σ H, Pv xs.length σ H → nx σ H) : kFor g tb ⟨nx, rt, bk, ct⟩ σ (Itt K a) H :=
  for_tup (D := ⟨nx, rt, bk, ct⟩) Pv h0 hl hs hd
theorem i_forR {lo : Int} {n : Nat} {g : TG} {tb : TS} (Pv : Nat → St → Hp → Prop) (h0 : Pv 0 σ H)
    (hs : ∀ i σ H, i < n → Pv i σ H → g (.int (lo + i)) σ H (kBody tb ⟨Pv (i + 1), rt, nx, Pv (i + 1)⟩)) (hd : ∀ σ H, Pv n σ H → nx σ H) : kFor g tb ⟨nx, rt, bk, ct⟩ σ (Itr lo n) H :=
  for_range (D := ⟨nx, rt, bk, ct⟩) Pv h0 hs hd
theorem i_forR0 {n : Nat} {g : TG} {tb : TS} (Pv : Nat → St → Hp → Prop) (h0 : Pv 0 σ H)
    (hs : ∀ (i : Nat) σ H, i < n → Pv i σ H → g (.int (i : Int)) σ H (kBody tb ⟨Pv (i + 1), rt, nx, Pv (i + 1)⟩)) (hd : ∀ σ H, Pv n σ H → nx σ H) : kFor g tb ⟨nx, rt, bk, ct⟩ σ (Itr 0 n) H :=
  i_forR Pv h0 (fun i σ H hi p => by rw [Int.zero_add]; exact hs i σ H hi p) hd
theorem i_body {tb : TS} {D : Ends} (h : tb D σ H) : kBody tb D σ H := h
theorem i_lcR {lo : Int} {n : Nat} {g : TG} {tt : TT} {te : TE} {vs : List Nat} (Pv : Addr → Nat → Hp → Prop) (h0 : ∀ D, H D = none → Pv D 0 (upd H D (.lst [])))
    (hs : ∀ D i H1, H D = none → i < n → Pv D i H1 → g (.int (lo + i)) (wipe σ vs) H1 (kLc1 tt te vs σ D (Pv D (i + 1)))) (hd : ∀ D H1, H D = none → Pv D n H1 → Q (.ref D) H1) : kLc g tt te vs σ Q (Itr lo n) H :=
  fun D hD => lc_range (Qd := Q (.ref D)) (Pv D) (h0 D hD) (fun i H1 hi p => hs D i H1 hD hi p) (fun H1 p => hd D H1 hD p)
theorem i_lcR0 {n : Nat} {g : TG} {tt : TT} {te : TE} {vs : List Nat} (Pv : Addr → Nat → Hp → Prop) (h0 : ∀ D, H D = none → Pv D 0 (upd H D (.lst [])))
    (hs : ∀ D (i : Nat) H1, H D = none → i < n → Pv D i H1 → g (.int (i : Int)) (wipe σ vs) H1 (kLc1 tt te vs σ D (Pv D (i + 1)))) (hd : ∀ D H1, H D = none → Pv D n H1 → Q (.ref D) H1) : kLc g tt te vs σ Q (Itr 0 n) H :=
  i_lcR Pv h0 (fun D i H1 hD hi p => by rw [Int.zero_add]; exact hs D i H1 hD hi p) hd
theorem i_lcL {a : Addr} {g : TG} {tt : TT} {te : TE} {vs : List Nat} (xs : List V) (Pv : Addr → Nat → Hp → Prop) (h0 : ∀ D, H D = none → Pv D 0 (upd H D (.lst []))) (hl : ∀ D i H1, H D = none → i ≤ xs.length → Pv D i H1 → SqL K H1 a xs)
    (hs : ∀ D i x H1, H D = none → xs[i]? = some x → Pv D i H1 → g x (wipe σ vs) H1 (kLc1 tt te vs σ D (Pv D (i + 1)))) (hd : ∀ D H1, H D = none → Pv D xs.length H1 → Q (.ref D) H1) : kLc g tt te vs σ Q (Itl K a) H :=
  fun D hD => lc_list (Qd := Q (.ref D)) (Pv D) (h0 D hD) (fun i H1 hi p => hl D i H1 hD hi p) (fun i x H1 hi p => hs D i x H1 hD hi p) (fun H1 p => hd D H1 hD p)
theorem i_lcT {a : Addr} {g : TG} {tt : TT} {te : TE} {vs : List Nat} (xs : List V) (Pv : Addr → Nat → Hp → Prop) (h0 : ∀ D, H D = none → Pv D 0 (upd H D (.lst []))) (hl : ∀ D i H1, H D = none → i ≤ xs.length → Pv D i H1 → SqT K H1 a xs)
    (hs : ∀ D i x H1, H D = none → xs[i]? = some x → Pv D i H1 → g x (wipe σ vs) H1 (kLc1 tt te vs σ D (Pv D (i + 1)))) (hd : ∀ D H1, H D = none → Pv D xs.length H1 → Q (.ref D) H1) : kLc g tt te vs σ Q (Itt K a) H :=
  fun D hD => lc_tup (Qd := Q (.ref D)) (Pv D) (h0 D hD) (fun i H1 hi p => hl D i H1 hD hi p) (fun i x H1 hi p => hs D i x H1 hD hi p) (fun H1 p => hd D H1 hD p)
theorem i_kLc1 {tt : TT} {te : TE} {vs : List Nat} {σ2 : St} {D : Addr} {N : Hp → Prop} (e : wipe σ2 vs = wipe σ vs) (h : tt σ2 H (kLc2 te σ2 D N)) : kLc1 tt te vs σ D N σ2 H := ⟨e, h⟩
theorem i_yes {Q : Bool → Hp → Prop} (h : Q true H) : tYes σ H Q := h
theorem i_kLc2T {te : TE} {D : Addr} {N : Hp → Prop} (h : te σ H (kLc3 D N)) : kLc2 te σ D N true H := h
theorem i_kLc2F {te : TE} {D : Addr} {N : Hp → Prop} (h : N H) : kLc2 te σ D N false H := by show if false = true then _ else _; rw [if_neg Bool.false_ne_true]; exact h
theorem i_kLc3 {D : Addr} {N : Hp → Prop} {acc : List V} {y : V} (e : H D = some (.lst acc)) (z : acc.length < sizeLine) (h : N (upd H D (.lst (acc ++ [y])))) : kLc3 D N y H := ⟨acc, e, z, h⟩
end steps

/-! ### readings by name, of rules whose own are raw -/
def rLen (K : PySem.W.Frag) : List V → Hp → VK → Prop := fun xs H Q => ∃ p ys, xs = [.ref p] ∧ (SqL K H p ys ∨ SqT K H p ys) ∧ Q (.int ys.length) H
def rLenS : List V → Hp → VK → Prop := fun xs H Q => ∃ z, xs = [.str z] ∧ z.length ≤ sizeLine ∧ Q (.int z.length) H
def rInt : List V → Hp → VK → Prop := fun xs H Q => (∃ i, xs = [.int i] ∧ Q (.int i) H) ∨ ∃ k, xs = [.bl k] ∧ Q (.int (if k then 1 else 0)) H
def rListOf (K : PySem.W.Frag) : List V → Hp → VK → Prop := fun xs H Q => ∃ p ys, xs = [.ref p] ∧ (SqL K H p ys ∨ SqT K H p ys) ∧ ∀ l, H l = none → Q (.ref l) (upd H l (.lst ys))
def rTupOf (K : PySem.W.Frag) : List V → Hp → VK → Prop := fun xs H Q => ∃ p ys, xs = [.ref p] ∧ ((SqL K H p ys ∧ ∀ l, H l = none → Q (.ref l) (upd H l (.tup ys))) ∨ (SqT K H p ys ∧ Q (.ref p) H))
def rIsN : R2 := fun x y H Q => y = .non ∧ Q (.bl (decide (x = .non))) H
def rNotN : R2 := fun x y H Q => y = .non ∧ Q (.bl (!decide (x = .non))) H
section
variable {X : Cx}
theorem c_len : CallR X (.builtin "len") (rLen X.K) := call_len_seq
theorem c_lenS : CallR X (.builtin "len") rLenS := call_len_str
theorem c_int : CallR X (.type "int") rInt := call_int1
theorem c_list : CallR X (.type "list") (rListOf X.K) := call_list_of
theorem c_tuple : CallR X (.type "tuple") (rTupOf X.K) := call_tuple_of
theorem o_isN : OpR X (compareOp .Is) rIsN := op_isN
theorem o_notN : OpR X (compareOp .IsNot) rNotN := op_notN
end
section
variable {σ : St} {H : Hp} {Q : VK} {K : PySem.W.Frag}
theorem i_lenL {p : Addr} {ys : List V} (s : SqL K H p ys) (h : Q (.int ys.length) H) : rLen K [.ref p] H Q := ⟨p, ys, rfl, .inl s, h⟩
theorem i_lenT {p : Addr} {ys : List V} (s : SqT K H p ys) (h : Q (.int ys.length) H) : rLen K [.ref p] H Q := ⟨p, ys, rfl, .inr s, h⟩
theorem i_lenS {z : Str} (l : z.length ≤ sizeLine) (h : Q (.int z.length) H) : rLenS [.str z] H Q := ⟨z, rfl, l, h⟩
theorem i_int {i : Int} (h : Q (.int i) H) : rInt [.int i] H Q := .inl ⟨i, rfl, h⟩
theorem i_listL {p : Addr} {ys : List V} (s : SqL K H p ys) (h : ∀ l, H l = none → Q (.ref l) (upd H l (.lst ys))) : rListOf K [.ref p] H Q := ⟨p, ys, rfl, .inl s, h⟩
theorem i_listT {p : Addr} {ys : List V} (s : SqT K H p ys) (h : ∀ l, H l = none → Q (.ref l) (upd H l (.lst ys))) : rListOf K [.ref p] H Q := ⟨p, ys, rfl, .inr s, h⟩
theorem i_tupL {p : Addr} {ys : List V} (s : SqL K H p ys) (h : ∀ l, H l = none → Q (.ref l) (upd H l (.tup ys))) : rTupOf K [.ref p] H Q := ⟨p, ys, rfl, .inl ⟨s, h⟩⟩
theorem i_tupT {p : Addr} {ys : List V} (s : SqT K H p ys) (h : Q (.ref p) H) : rTupOf K [.ref p] H Q := ⟨p, ys, rfl, .inr ⟨s, h⟩⟩
theorem i_isN {x : V} (h : Q (.bl (decide (x = .non))) H) : rIsN x .non H Q := ⟨rfl, h⟩
theorem i_notN {x : V} (h : Q (.bl (!decide (x = .non))) H) : rNotN x .non H Q := ⟨rfl, h⟩
theorem i_eqD {x y : V} {d e : PyData} (a : Dp K H x d) (b : Dp K H y e) (sd : SeqAt.shaped d = true) (se : SeqAt.shaped e = true) (h : Q (.bl (PyData.eqv d e)) H) : rEqD K x y H Q := ⟨d, e, a, b, sd, se, h⟩
theorem i_neD {x y : V} {d e : PyData} (a : Dp K H x d) (b : Dp K H y e) (sd : SeqAt.shaped d = true) (se : SeqAt.shaped e = true) (h : Q (.bl (!PyData.eqv d e)) H) : rNeD K x y H Q := ⟨d, e, a, b, sd, se, h⟩
end

/-! ### items of lists -/
theorem sz {n : Nat} (h : n ≤ 1000) : n ≤ sizeLine := Nat.le_of_lt (small1000 h)
theorem atI_map {α : Type} (f : α → V) (xs : List α) (j : Int) (d : α) (h0 : 0 ≤ j) (h1 : j < xs.length) : atI (xs.map f) j = some (f (xs.getD j.toNat d)) := by
  have e : j = ((j.toNat : Nat) : Int) := by omega
  rw [e]
  refine atI_nat ?_
  have hj : j.toNat < xs.length := by omega
  rw [List.getElem?_map, List.getElem?_eq_getElem hj, Int.toNat_natCast, List.getD_eq_getElem?_getD, List.getElem?_eq_getElem hj]
  rfl
theorem map_at {α : Type} {f : α → V} {l : List α} {i : Nat} {x : V} (h : (l.map f)[i]? = some x) : ∃ z, l[i]? = some z ∧ x = f z := by
  rw [List.getElem?_map] at h
  cases e : l[i]? with
  | none => rw [e] at h; cases h
  | some z => rw [e] at h; exact ⟨z, rfl, (Option.some.inj h).symm⟩
theorem getD_mem' {α : Type} (xs : List α) (j : Nat) (d : α) (h : j < xs.length) : xs.getD j d ∈ xs := by
  rw [List.getD_eq_getElem?_getD, List.getElem?_eq_getElem h]
  exact List.getElem_mem h
/-! ### states and heaps -/
theorem set_z {α : Type} {x y : α} {r : List α} : (x :: r).set 0 y = y :: r := rfl
theorem set_s {α : Type} {x y : α} {r r' : List α} {i : Nat} (h : r.set i y = r') : (x :: r).set (i + 1) y = x :: r' := by rw [List.set_cons_succ, h]
theorem get_z {α : Type} {x : α} {r : List α} : (x :: r)[0]? = some x := rfl
theorem get_s {α : Type} {x : α} {r : List α} {i : Nat} {y : α} (h : r[i]? = some y) : (x :: r)[i + 1]? = some y := by rw [List.getElem?_cons_succ]; exact h
theorem upd_get {H : Hp} {a p : Addr} {o u : HO} (n : a ≠ p) (h : H a = some u) : upd H p o a = some u := by rw [upd_ne n]; exact h
theorem upd_free {H : Hp} {a p : Addr} {o : HO} (n : a ≠ p) (h : H a = none) : upd H p o a = none := by rw [upd_ne n]; exact h
theorem free_upd {H : Hp} {a p : Addr} {o : HO} (h : upd H p o a = none) : a ≠ p ∧ H a = none := by
  have n : a ≠ p := fun e => by rw [e, upd_same] at h; cases h
  exact ⟨n, by rw [upd_ne n] at h; exact h⟩
theorem same_upd'  {H : Hp} {p : Addr} {o : HO} (h : H p = none) : Same H (upd H p o) := fun b x e => by rw [upd_ne (ne_of_none e h)]; exact e
theorem same_upd {H : Hp} {p : Addr} {o : HO} (h : H p = none) : Same H (upd H p o) := fun b x e => by rw [upd_ne (ne_of_none e h)]; exact e
theorem same_wr {H H1 : Hp} {x : Addr} {o : HO} (n : H x = none) (s : Same H H1) : Same H (upd H1 x o) := fun b u e => upd_get (ne_of_none e n) (s b u e)
theorem sqL_upd {K : PySem.W.Frag} {H : Hp} {a p : Addr} {o : HO} {xs : List V} (n : a ≠ p) (h : SqL K H a xs) : SqL K (upd H p o) a xs := by
  rcases h with (h | ⟨u, h⟩) | h
  · exact .inl (.inl (upd_get n h))
  · exact .inl (.inr ⟨u, upd_get n h⟩)
  · exact .inr h
theorem sqT_upd {K : PySem.W.Frag} {H : Hp} {a p : Addr} {o : HO} {xs : List V} (n : a ≠ p) (h : SqT K H a xs) : SqT K (upd H p o) a xs := by
  rcases h with (h | ⟨u, h⟩) | h
  · exact .inl (.inl (upd_get n h))
  · exact .inl (.inr ⟨u, upd_get n h⟩)
  · exact .inr h
theorem sqL_new {K : PySem.W.Frag} {H : Hp} {a p : Addr} {o : HO} {xs : List V} (n : H p = none) (h : SqL K H a xs) : SqL K (upd H p o) a xs := (same_upd n).seq h
theorem same_tup {K : PySem.W.Frag} {H H' : Hp} {a : Addr} {xs : List V} (e : Same H H') (h : SqT K H a xs) : SqT K H' a xs := by
  rcases h with (h | ⟨o, h⟩) | h
  · exact .inl (.inl (e _ _ h))
  · exact .inl (.inr ⟨o, e _ _ h⟩)
  · exact .inr h
theorem sqT_new {K : PySem.W.Frag} {H : Hp} {a p : Addr} {o : HO} {xs : List V} (n : H p = none) (h : SqT K H a xs) : SqT K (upd H p o) a xs := same_tup (same_upd n) h

/-! ### list(reversed(x)), x a list -/
def tLstRev (K : PySem.W.Frag) (te : TE) : TE := fun σ H Q => te σ H fun v H1 => ∃ (a : Addr) (xs : List V), v = .ref a ∧ SqL K H1 a xs ∧ ∀ q, H1 q = none → Q (.ref q) (upd H1 q (.lst xs.reverse))
def kLstRev (K : PySem.W.Frag) (Q : VK) : VK := fun v H1 => ∃ (a : Addr) (xs : List V), v = .ref a ∧ SqL K H1 a xs ∧ ∀ q, H1 q = none → Q (.ref q) (upd H1 q (.lst xs.reverse))
theorem i_lstRev {σ : St} {H : Hp} {Q : VK} {K : PySem.W.Frag} {te : TE} (h : te σ H (kLstRev K Q)) : tLstRev K te σ H Q := h
theorem i_kLstRev {H : Hp} {Q : VK} {K : PySem.W.Frag} {a : Addr} {xs : List V} (s : SqL K H a xs) (h : ∀ q, H q = none → Q (.ref q) (upd H q (.lst xs.reverse))) : kLstRev K Q (.ref a) H := ⟨a, xs, rfl, s, h⟩

/-! ### the rules with the written part by name -/
section
variable {X : Cx} {K : PySem.W.Frag} {tg e o a b c : Expr} {te to : TE} {ta : TA} {pos apos cpos p2 p : Pos} {es : List Expr}
theorem q_ixl (z : X.K = K := by rfl) : IxR X (rIxL K) := by subst z; exact ix_list
theorem q_ixt (z : X.K = K := by rfl) : IxR X (rIxT K) := by subst z; exact ix_tup
theorem q_len (z : X.K = K := by rfl) : CallR X (.builtin "len") (rLen K) := by subst z; exact c_len
theorem q_list (z : X.K = K := by rfl) : CallR X (.type "list") (rListOf K) := by subst z; exact c_list
theorem q_tuple (z : X.K = K := by rfl) : CallR X (.type "tuple") (rTupOf K) := by subst z; exact c_tuple
theorem q_eqD (hu : X.A.units + 64 < cLine) (z : X.K = K := by rfl) : OpR X (compareOp .Eq) (rEqD K) := by subst z; exact op_eqD hu
theorem q_neD (hu : X.A.units + 64 < cLine) (z : X.K = K := by rfl) : OpR X (compareOp .NotEq) (rNeD K) := by subst z; exact op_neD hu
theorem q_in (z : X.K = K := by rfl) : OpR X (compareOp .In) (rIn K false) := by subst z; exact op_in_seq
theorem q_notIn (z : X.K = K := by rfl) : OpR X (compareOp .NotIn) (rIn K true) := by subst z; exact op_notIn_seq
theorem q_sll (z : X.K = K := by rfl) : SlR X (rSlL K) := by subst z; exact sl_list
theorem q_all (hc : X.calm = true) (z : X.K = K := by rfl) : CallR X (.builtin "all") (rAll K) := by subst z; exact cr_all hc
theorem q_any (hc : X.calm = true) (z : X.K = K := by rfl) : CallR X (.builtin "any") (rAny K) := by subst z; exact cr_any hc
theorem q_sum (hc : X.calm = true) (z : X.K = K := by rfl) : CallR X (.builtin "sum") (rSum K) := by subst z; exact cr_sum hc
theorem q_sorted (z : X.K = K := by rfl) : CallR X (.builtin "sorted") (rSortedI K) := by subst z; exact cr_sortedI
theorem q_pil (he : PE X e te) (z : X.K = K := by rfl) : PI X tg e (iList K te) := by subst z; exact pi_list he
theorem q_pit (he : PE X e te) (z : X.K = K := by rfl) : PI X tg e (iTup K te) := by subst z; exact pi_tup he
theorem q_fld {f : Str} (he : PE X e te) (hb : attributeBase e f X.env (eval e X.env) = eval e X.env) (z : X.K = K := by rfl) : PE X (.Attribute e f pos) (tFld K te f) := by subst z; exact pe_fld he hb
end
end Tm

/-! Td: data compared at depth -/
namespace Tm
open PySem PySem.Spec PyProof.Rows L2
theorem eqvAll_ints : ∀ ns ms : List Int, PyData.eqvAll (ns.map PyData.int) (ms.map PyData.int) = decide (ns = ms)
  | [], [] => by simp [PyData.eqvAll]
  | [], _ :: _ => by simp [PyData.eqvAll]
  | _ :: _, [] => by simp [PyData.eqvAll]
  | x :: xs, y :: ys => by
    rw [List.map_cons, List.map_cons, PyData.eqvAll, eqvAll_ints xs ys, PyData.eqv]
    by_cases e : x = y <;> by_cases e2 : xs = ys <;> simp [e, e2]
theorem canLay_ints : ∀ ns : List Int, PyData.canLayAll0 (ns.map PyData.int) = true
  | [] => by simp [PyData.canLayAll0]
  | x :: xs => by rw [List.map_cons, PyData.canLayAll0, canLay_ints xs, PyData.canLay0]; rfl
theorem depth_ints : ∀ ns : List Int, PyData.depthAll (ns.map PyData.int) ≤ 1
  | [] => by simp [PyData.depthAll]
  | x :: xs => by
    have := depth_ints xs
    rw [List.map_cons, PyData.depthAll]
    have e : PyData.depth (PyData.int x) ≤ 1 := by simp [PyData.depth]
    omega
theorem dpAll_ints {K : PySem.W.Frag} {H : Hp} : ∀ ns : List Int, DpAll K H (ns.map V.int) (ns.map PyData.int)
  | [] => .nil
  | x :: xs => .cons (.int x) (dpAll_ints xs)
theorem dp_ints {K : PySem.W.Frag} {H : Hp} {p : Addr} {ns : List Int} (h : SqL K H p (ns.map V.int)) : Dp K H (.ref p) (.list (ns.map PyData.int)) := .lst h (dpAll_ints ns)
theorem dp_tints {K : PySem.W.Frag} {H : Hp} {p : Addr} {ns : List Int} (h : SqT K H p (ns.map V.int)) : Dp K H (.ref p) (.tuple (ns.map PyData.int)) := .tup h (dpAll_ints ns)
theorem shaped_of {d : PyData} (a : d.canLay0 = true) (b : d.depth ≤ 64) : SeqAt.shaped d = true := by
  unfold SeqAt.shaped
  rw [a, decide_eq_true b]; rfl
theorem shaped_ints (ns : List Int) : SeqAt.shaped (.list (ns.map PyData.int)) = true := shaped_of (by rw [PyData.canLay0]; exact canLay_ints ns) (by have := depth_ints ns; rw [PyData.depth]; omega)
theorem shaped_tints (ns : List Int) : SeqAt.shaped (.tuple (ns.map PyData.int)) = true := shaped_of (by rw [PyData.canLay0]; exact canLay_ints ns) (by have := depth_ints ns; rw [PyData.depth]; omega)
theorem eqv_ints (ns ms : List Int) : PyData.eqv (.list (ns.map PyData.int)) (.list (ms.map PyData.int)) = decide (ns = ms) := by rw [PyData.eqv]; exact eqvAll_ints ns ms
theorem eqv_tints (ns ms : List Int) : PyData.eqv (.tuple (ns.map PyData.int)) (.tuple (ms.map PyData.int)) = decide (ns = ms) := by rw [PyData.eqv]; exact eqvAll_ints ns ms
section
variable {H : Hp} {Q : VK} {K : PySem.W.Frag}
theorem i_eqLL {p q : Addr} {ns ms : List Int} (a : SqL K H p (ns.map V.int)) (b : SqL K H q (ms.map V.int)) (h : Q (.bl (decide (ns = ms))) H) : rEqD K (.ref p) (.ref q) H Q :=
  i_eqD (dp_ints a) (dp_ints b) (shaped_ints ns) (shaped_ints ms) (by rw [eqv_ints]; exact h)
theorem i_neLL {p q : Addr} {ns ms : List Int} (a : SqL K H p (ns.map V.int)) (b : SqL K H q (ms.map V.int)) (h : Q (.bl (!decide (ns = ms))) H) : rNeD K (.ref p) (.ref q) H Q :=
  i_neD (dp_ints a) (dp_ints b) (shaped_ints ns) (shaped_ints ms) (by rw [eqv_ints]; exact h)
theorem i_eqTT {p q : Addr} {ns ms : List Int} (a : SqT K H p (ns.map V.int)) (b : SqT K H q (ms.map V.int)) (h : Q (.bl (decide (ns = ms))) H) : rEqD K (.ref p) (.ref q) H Q :=
  i_eqD (dp_tints a) (dp_tints b) (shaped_tints ns) (shaped_tints ms) (by rw [eqv_tints]; exact h)
theorem i_eqT2 {p q : Addr} {a b c d : Int} (h1 : SqT K H p [.int a, .int b]) (h2 : SqT K H q [.int c, .int d]) (h : Q (.bl (decide (a = c ∧ b = d))) H) : rEqD K (.ref p) (.ref q) H Q := by
  refine i_eqTT (ns := [a, b]) (ms := [c, d]) h1 h2 ?_
  have e : decide ([a, b] = [c, d]) = decide (a = c ∧ b = d) := by by_cases x : a = c <;> by_cases y : b = d <;> simp [x, y]
  rw [e]; exact h
end
end Tm

/-! Tl: lists cut, written, repeated -/
namespace Tm
open PySem PySem.Spec PyProof.Rows L2
theorem sIx_n (n d k : Nat) : HT.sIx n d (some (k : Int)) = min k n := HT.sIx_nat n d k
theorem cut_from (xs : List V) (k : Nat) : cutV xs (some (k : Int)) none = xs.drop k := by
  show (xs.drop (HT.sIx xs.length 0 (some (k : Int)))).take (xs.length - HT.sIx xs.length 0 (some (k : Int))) = _
  rw [sIx_n]
  apply List.ext_getElem?
  intro i
  rw [List.getElem?_take, List.getElem?_drop, List.getElem?_drop]
  by_cases h : k ≤ xs.length
  · rw [Nat.min_eq_left h]
    by_cases h2 : i < xs.length - k
    · rw [if_pos h2]
    · rw [if_neg h2, List.getElem?_eq_none (by omega)]
  · rw [Nat.min_eq_right (by omega), if_neg (by omega), List.getElem?_eq_none (by omega)]
theorem cut_to (xs : List V) (k : Nat) : cutV xs none (some (k : Int)) = xs.take k := by
  show (xs.drop 0).take (HT.sIx xs.length xs.length (some (k : Int)) - 0) = _
  rw [sIx_n, List.drop_zero, Nat.sub_zero]
  apply List.ext_getElem?
  intro i
  rw [List.getElem?_take, List.getElem?_take]
  by_cases h : i < k
  · by_cases h2 : i < xs.length
    · rw [if_pos (by omega), if_pos h]
    · rw [if_neg (by omega), if_pos h, List.getElem?_eq_none (by omega)]
  · rw [if_neg (by omega), if_neg h]
theorem cut_both (xs : List V) (a b : Nat) : cutV xs (some (a : Int)) (some (b : Int)) = (xs.drop a).take (b - a) := by
  show (xs.drop (HT.sIx xs.length 0 (some (a : Int)))).take (HT.sIx xs.length xs.length (some (b : Int)) - HT.sIx xs.length 0 (some (a : Int))) = _
  rw [sIx_n, sIx_n]
  apply List.ext_getElem?
  intro i
  rw [List.getElem?_take, List.getElem?_take, List.getElem?_drop, List.getElem?_drop]
  by_cases h3 : a + i < xs.length
  · have e1 : min a xs.length = a := Nat.min_eq_left (by omega)
    rw [e1]
    by_cases h2 : i < b - a
    · rw [if_pos (by omega), if_pos h2]
    · rw [if_neg (by omega), if_neg h2]
  · have e2 : xs[a + i]? = none := List.getElem?_eq_none (by omega)
    rw [e2, if_neg (by omega)]
    split <;> rfl
theorem cut_all (xs : List V) : cutV xs none none = xs := by
  show (xs.drop 0).take (xs.length - 0) = _
  rw [List.drop_zero, Nat.sub_zero, List.take_length]
theorem flat_rep {α : Type} (x : α) (n : Nat) : (List.replicate n [x]).flatten = List.replicate n x := by
  induction n with
  | zero => rfl
  | succ n ih => rw [List.replicate_succ, List.flatten_cons, ih, List.replicate_succ]; rfl
theorem rep_map {α : Type} (f : α → V) (x : α) (n : Nat) : (List.replicate n [f x]).flatten = (List.replicate n x).map f := by rw [flat_rep, List.map_replicate]
theorem ixN_nat {n : Nat} {k : Int} {j : Nat} (e : k = (j : Int)) (h : j < n) : ixN n k = some j := by
  subst e
  unfold ixN
  rw [if_pos (by omega), if_pos (by omega), Int.toNat_natCast]
def kG2 (t : TSet) (o : V) (v : V) (σ : St) (nx : St → Hp → Prop) : VK := fun i H => t o i v H fun H3 => nx σ H3
def kG1 (ti : TE) (t : TSet) (v : V) (σ : St) (nx : St → Hp → Prop) : VK := fun o H => ti σ H (kG2 t o v σ nx)
section
variable {σ σ' : St} {H : Hp} {Q : VK} {nx : St → Hp → Prop} {K : PySem.W.Frag}
theorem i_gSub {to ti : TE} {t : TSet} {v : V} (h : to σ H (kG1 ti t v σ nx)) : gSub to ti t v σ H nx := h
theorem i_kG1 {ti : TE} {t : TSet} {v o : V} (h : ti σ H (kG2 t o v σ nx)) : kG1 ti t v σ nx o H := h
/-- xs[k] = v, the place told -/
theorem i_kG2 {p : Addr} {xs : List V} {k : Int} {v : V} (j : Nat) (hp : H p = some (.lst xs)) (e : k = (j : Int)) (l : j < xs.length) (h : nx σ (upd H p (.lst (xs.set j v)))) : kG2 rSetL (.ref p) v σ nx (.int k) H :=
  ⟨p, xs, k, j, rfl, rfl, hp, ixN_nat e l, h⟩
/-- an item of a list of ints, the place told -/
theorem i_ixI {p : Addr} {ds : List Int} {i : Int} {j : Nat} (s : SqL K H p (ds.map V.int)) (e : i.toNat = j) (h0 : 0 ≤ i) (l : i < ds.length) (h : Q (.int (ds.getD j 0)) H) : rIxL K (.ref p) (.int i) H Q := by
  refine i_ixL s (v := .int (ds.getD j 0)) ?_ h
  rw [atI_map V.int ds i 0 h0 l, e]
theorem i_slF {α : Type} {f : α → V} {b : Addr} {l : List α} {k : Int} (j : Nat) (s : SqL K H b (l.map f)) (h : ∀ p, H p = none → Q (.ref p) (upd H p (.lst ((l.drop j).map f)))) (e : k = (j : Int) := by first | rfl | omega) : rSlL K (.ref b) (some k) none H Q := by
  subst e; refine i_slL s fun p hp => ?_
  rw [cut_from, ← List.map_drop]; exact h p hp
theorem i_slT {α : Type} {f : α → V} {b : Addr} {l : List α} {k : Int} (j : Nat) (s : SqL K H b (l.map f)) (h : ∀ p, H p = none → Q (.ref p) (upd H p (.lst ((l.take j).map f)))) (e : k = (j : Int) := by first | rfl | omega) : rSlL K (.ref b) none (some k) H Q := by
  subst e; refine i_slL s fun p hp => ?_
  rw [cut_to, ← List.map_take]; exact h p hp
theorem i_slB {α : Type} {f : α → V} {b : Addr} {l : List α} {k k' : Int} (j j' : Nat) (s : SqL K H b (l.map f)) (h : ∀ p, H p = none → Q (.ref p) (upd H p (.lst (((l.drop j).take (j' - j)).map f)))) (e : k = (j : Int) := by first | rfl | omega) (e' : k' = (j' : Int) := by first | rfl | omega) : rSlL K (.ref b) (some k) (some k') H Q := by
  subst e; subst e'; refine i_slL s fun p hp => ?_
  rw [cut_both, ← List.map_drop, ← List.map_take]; exact h p hp
theorem getD_nn {ds : List Int} (h : ∀ d ∈ ds, 0 ≤ d) (k : Nat) : 0 ≤ ds.getD k 0 := by
  by_cases l : k < ds.length
  · exact h _ (getD_mem' ds k 0 l)
  · rw [List.getD_eq_getElem?_getD, List.getElem?_eq_none (by omega)]; exact Int.le_refl _
end
end Tm

/-! Tn: the octets of a number -/
namespace Tm
open PySem PySem.Spec PyProof.Rows L2
/-! the mathematics: the octets of a number -/
def lit (n : Nat) (r : Int) : List Int := (List.range n).map fun j => r / 256 ^ j % 256
def rowOf (n : Nat) (r : Int) : List Int := (lit n r).reverse
def numOf (l : List Int) : Int := l.foldl (fun n o => n * 256 + o) 0
theorem lit_succ (n : Nat) (r : Int) : lit (n + 1) r = lit n r ++ [r / 256 ^ n % 256] := by
  unfold lit; rw [List.range_succ, List.map_append]; rfl
theorem lit_len (n : Nat) (r : Int) : (lit n r).length = n := by unfold lit; rw [List.length_map, List.length_range]
theorem rowOf_succ (n : Nat) (r : Int) : rowOf (n + 1) r = (r / 256 ^ n % 256) :: rowOf n r := by
  unfold rowOf; rw [lit_succ, List.reverse_append]; rfl
theorem rowOf_len (n : Nat) (r : Int) : (rowOf n r).length = n := by unfold rowOf; rw [List.length_reverse, lit_len]
theorem foldl_from (l : List Int) : ∀ z : Int, l.foldl (fun n o => n * 256 + o) z = z * 256 ^ l.length + numOf l := by
  induction l with
  | nil => intro z; simp [numOf]
  | cons x xs ih =>
    intro z
    show xs.foldl _ (z * 256 + x) = _
    have e : numOf (x :: xs) = xs.foldl (fun n o => n * 256 + o) (0 * 256 + x) := rfl
    rw [ih, e, ih, List.length_cons, Int.pow_succ]
    grind
theorem numOf_cons (x : Int) (l : List Int) : numOf (x :: l) = x * 256 ^ l.length + numOf l := by
  show l.foldl _ (0 * 256 + x) = _
  rw [foldl_from]; grind
theorem pow_div_up (r : Int) (n : Nat) : r / 256 ^ (n + 1) = r / 256 ^ n / 256 := by
  rw [Int.pow_succ, Int.ediv_ediv_of_nonneg (Int.le_of_lt (Int.pow_pos (by decide)))]
theorem numOf_rowOf (r : Int) : ∀ n : Nat, numOf (rowOf n r) = r - 256 ^ n * (r / 256 ^ n)
  | 0 => by show (0 : Int) = r - 1 * (r / 1); rw [Int.ediv_one]; omega
  | n + 1 => by
    rw [rowOf_succ, numOf_cons, rowOf_len, numOf_rowOf r n, pow_div_up, Int.pow_succ]
    have e : r / 256 ^ n % 256 = r / 256 ^ n - 256 * (r / 256 ^ n / 256) := by omega
    rw [e]
    grind
theorem numOf_row (r : Int) (n : Nat) (h0 : 0 ≤ r) (h1 : r < 256 ^ n) : numOf (rowOf n r) = r := by
  rw [numOf_rowOf, Int.ediv_eq_zero_of_lt h0 h1]; omega
theorem numOf_take {l : List Int} {i : Nat} {z : Int} (h : l[i]? = some z) : numOf (l.take (i + 1)) = numOf (l.take i) * 256 + z := by
  unfold numOf
  rw [List.take_add_one, h, List.foldl_append]; rfl
end Tm

/-! Tc: contents of pages as data -/
namespace Tm
open PySem PySem.Spec PyProof.Rows L2
inductive Cont where
  | mark (n : Int)
  | node (lv : Int) (ch : List (Option (Int × Int)))
  | item (ep ix : Int) (la : Bool) (key : Int) (val : Option (List Int))
  | root (n ep : Int) (tr : Option (Int × Int)) (jr : List Int) (pl : List (Option Int)) (er bd : List Int)
def dAd : Option (Int × Int) → PyData
  | none => .none
  | some q => .tuple [.int q.1, .int q.2]
def dPl : Option Int → PyData
  | none => .none
  | some b => .int b
def dTi (l : List Int) : PyData := .tuple (l.map .int)
def dVal : Option (List Int) → PyData
  | none => .none
  | some l => dTi l
def dC : Cont → PyData
  | .mark n => .tuple [.str "mark", .int n]
  | .node lv ch => .tuple [.str "node", .int lv, .tuple (ch.map dAd)]
  | .item ep ix la key val => .tuple [.str "item", .int ep, .int ix, .bool la, .int key, dVal val]
  | .root n ep tr jr pl er bd => .tuple [.str "root", .int n, .int ep, dAd tr, dTi jr, .tuple (pl.map dPl), dTi er, dTi bd]
/-! what fits -/
def cLo (m n : Int) : Bool := decide (0 ≤ n ∧ n < m)
def below (m : Int) (l : List Int) : Bool := l.all (cLo m)
def fAd : Option (Int × Int) → Bool
  | none => true
  | some q => below 48 [q.1] && below 32 [q.2]
def fVal : Option (List Int) → Bool
  | none => true
  | some l => decide (l.length ≤ 448) && below 256 l
def named (pl : List (Option Int)) : List Int := pl.filterMap id
def fC : Cont → Bool
  | .mark n => below 4294967296 [n]
  | .node lv ch => below 256 [lv] && (decide (ch.length = 32) && ch.all fAd)
  | .item ep ix _ key val => below 4294967296 [ep, ix, key] && fVal val
  | .root n ep tr jr pl er bd => !(decide (48 < jr.length) || (decide (48 < pl.length) || (decide (48 < er.length) || decide (48 < bd.length)))) && (below 4294967296 (n :: ep :: er) && (fAd tr && below 48 (jr ++ (named pl ++ bd))))
/-! the bodies -/
def bAd : Option (Int × Int) → List Int
  | none => [255, 255]
  | some q => [q.1, q.2]
def bPl (p : Option Int) : Int := p.getD 255
def bVal : Option (List Int) → List Int
  | none => [0]
  | some l => [1] ++ rowOf 2 l.length ++ l
def bit (b : Bool) : Int := if b then 1 else 0
def body : Cont → List Int
  | .mark n => rowOf 4 n
  | .node lv ch => lv :: ch.flatMap bAd
  | .item ep ix la key val => rowOf 4 ep ++ rowOf 4 ix ++ [bit la] ++ rowOf 4 key ++ bVal val
  | .root n ep tr jr pl er bd => rowOf 4 n ++ rowOf 4 ep ++ bAd tr ++ ([(jr.length : Int)] ++ jr ++ [(pl.length : Int)] ++ pl.map bPl ++ [(er.length : Int)]) ++ er.flatMap (rowOf 4) ++ ([(bd.length : Int)] ++ bd)
/-! ### data in heaps -/
section
variable {K : PySem.W.Frag} {H H' : Hp}
mutual
theorem dp_same (e : Same H H') : ∀ (d : PyData) (v : V), Dp K H v d → Dp K H' v d
  | .none, _, h => by cases h; exact .non
  | .bool b, _, h => by cases h; exact .bl b
  | .int i, _, h => by cases h; exact .int i
  | .str x, _, h => by cases h; exact .str x
  | .list ds, _, h => by
    cases h with
    | lst hs ha => exact .lst (e.seq hs) (dpAll_same e ds _ ha)
  | .tuple ds, _, h => by
    cases h with
    | tup hs ha => exact .tup (same_tup e hs) (dpAll_same e ds _ ha)
  | .dict _, _, h => by cases h
theorem dpAll_same (e : Same H H') : ∀ (ds : List PyData) (vs : List V), DpAll K H vs ds → DpAll K H' vs ds
  | [], _, h => by cases h; exact .nil
  | d :: ds, _, h => by
    cases h with
    | cons h1 h2 => exact .cons (dp_same e d _ h1) (dpAll_same e ds _ h2)
end
theorem dp_int {v : V} {i : Int} (h : Dp K H v (.int i)) : v = .int i := by cases h; rfl
theorem dp_bool {v : V} {b : Bool} (h : Dp K H v (.bool b)) : v = .bl b := by cases h; rfl
theorem dp_str {v : V} {x : Str} (h : Dp K H v (.str x)) : v = .str x := by cases h; rfl
theorem dp_none {v : V} (h : Dp K H v .none) : v = .non := by cases h; rfl
theorem dp_tup {v : V} {ds : List PyData} (h : Dp K H v (.tuple ds)) : ∃ a xs, v = .ref a ∧ SqT K H a xs ∧ DpAll K H xs ds := by
  cases h with
  | tup hs ha => exact ⟨_, _, rfl, hs, ha⟩
theorem dpAll_ints' : ∀ {l : List Int} {vs : List V}, DpAll K H vs (l.map PyData.int) → vs = l.map V.int
  | [], _, h => by cases h; rfl
  | x :: r, _, h => by
    cases h with
    | cons h1 h2 => rw [dp_int h1, dpAll_ints' h2]; rfl
theorem dp_ti {v : V} {l : List Int} (h : Dp K H v (dTi l)) : ∃ a, v = .ref a ∧ SqT K H a (l.map V.int) := by
  obtain ⟨a, xs, rfl, hs, ha⟩ := dp_tup h
  rw [dpAll_ints' ha] at hs
  exact ⟨a, rfl, hs⟩
theorem ti_dp {a : Addr} {l : List Int} (h : SqT K H a (l.map V.int)) : Dp K H (.ref a) (dTi l) := dp_tints h
theorem dp_ad_some {v : V} {q : Int × Int} (h : Dp K H v (dAd (some q))) : ∃ a, v = .ref a ∧ SqT K H a [.int q.1, .int q.2] := dp_ti (l := [q.1, q.2]) h
theorem ad_dp {a : Addr} {b g : Int} (h : SqT K H a [.int b, .int g]) : Dp K H (.ref a) (dAd (some (b, g))) := dp_tints (ns := [b, g]) h
theorem ad_non {v : V} {q : Option (Int × Int)} (h : Dp K H v (dAd q)) : decide (v = .non) = q.isNone := by
  cases q with
  | none => rw [dp_none h]; rfl
  | some q =>
    obtain ⟨a, rfl, _⟩ := dp_ad_some h
    simp
theorem pl_dp : ∀ {p : Option Int} {v : V}, Dp K H v (dPl p) → v = (match p with | none => .non | some b => .int b)
  | none, _, h => dp_none h
  | some b, _, h => dp_int h
def vPl : Option Int → V
  | none => .non
  | some b => .int b
theorem dpAll_pl : ∀ {l : List (Option Int)} {vs : List V}, DpAll K H vs (l.map dPl) → vs = l.map vPl
  | [], _, h => by cases h; rfl
  | x :: r, _, h => by
    cases h with
    | cons h1 h2 =>
      rw [dpAll_pl h2]
      cases x with
      | none => rw [dp_none h1]; rfl
      | some b => rw [dp_int h1]; rfl
theorem pl_dpAll : ∀ (l : List (Option Int)), DpAll K H (l.map vPl) (l.map dPl)
  | [] => .nil
  | none :: r => .cons .non (pl_dpAll r)
  | some b :: r => .cons (.int b) (pl_dpAll r)
theorem dpAll_get : ∀ {ds : List PyData} {vs : List V} {i : Nat} {v : V}, DpAll K H vs ds → vs[i]? = some v → ∃ d, ds[i]? = some d ∧ Dp K H v d
  | [], _, i, v, h, e => by cases h; simp at e
  | d :: ds, _, 0, v, h, e => by
    cases h with
    | cons h1 h2 => obtain rfl := Option.some.inj e; exact ⟨d, rfl, h1⟩
  | d :: ds, _, i + 1, v, h, e => by
    cases h with
    | cons h1 h2 =>
      obtain ⟨d', h', q⟩ := dpAll_get (i := i) h2 (by simpa using e)
      exact ⟨d', by simpa using h', q⟩
theorem dpAll_len : ∀ {ds : List PyData} {vs : List V}, DpAll K H vs ds → vs.length = ds.length
  | [], _, h => by cases h; rfl
  | d :: ds, _, h => by
    cases h with
    | cons h1 h2 => rw [List.length_cons, List.length_cons, dpAll_len h2]
/-- a list that is no part of the data may change: data made of tuples alone -/
theorem dpAd_upd {D : Addr} {o : HO} {xs : List V} (hk : H D = some (.lst xs)) : ∀ {c : Option (Int × Int)} {v : V}, Dp K H v (dAd c) → Dp K (upd H D o) v (dAd c)
  | none, _, h => by rw [dp_none h]; exact .non
  | some q, _, h => by
    obtain ⟨a, rfl, hT⟩ := dp_ad_some h
    refine ad_dp ?_
    rcases hT with (z | ⟨u, z⟩) | z
    · exact .inl (.inl (upd_get (ne_of z hk (by intro e; cases e)) z))
    · exact .inl (.inr ⟨u, upd_get (ne_of z hk (by intro e; cases e)) z⟩)
    · exact .inr z
theorem dpAll_upd {D : Addr} {o : HO} {xs : List V} (hk : H D = some (.lst xs)) : ∀ {ch : List (Option (Int × Int))} {vs : List V}, DpAll K H vs (ch.map dAd) → DpAll K (upd H D o) vs (ch.map dAd)
  | [], _, h => by cases h; exact .nil
  | c :: ch, _, h => by
    cases h with
    | cons h1 h2 => exact .cons (dpAd_upd hk h1) (dpAll_upd hk h2)
theorem dpAll_snoc : ∀ {ds : List PyData} {vs : List V} {d : PyData} {v : V}, DpAll K H vs ds → Dp K H v d → DpAll K H (vs ++ [v]) (ds ++ [d])
  | [], _, d, v, h, q => by cases h; exact .cons q .nil
  | _ :: _, _, d, v, h, q => by
    cases h with
    | cons h1 h2 => exact .cons h1 (dpAll_snoc h2 q)
/-- a content's tuple, part by part -/
theorem c_mark {v : V} {n : Int} (h : Dp K H v (dC (.mark n))) : ∃ p, v = .ref p ∧ SqT K H p [.str "mark", .int n] := by
  obtain ⟨p, xs, rfl, hs, ha⟩ := dp_tup h
  cases ha with | cons a1 ha => cases ha with | cons a2 ha => cases ha; cases a1; cases a2; exact ⟨p, rfl, hs⟩
theorem c_node {v : V} {lv : Int} {ch : List (Option (Int × Int))} (h : Dp K H v (dC (.node lv ch))) : ∃ p c xs, v = .ref p ∧ SqT K H p [.str "node", .int lv, .ref c] ∧ SqT K H c xs ∧ DpAll K H xs (ch.map dAd) := by
  obtain ⟨p, xs, rfl, hs, ha⟩ := dp_tup h
  cases ha with | cons a1 ha => cases ha with | cons a2 ha => cases ha with | cons a3 ha =>
    cases ha; cases a1; cases a2
    obtain ⟨c, ys, rfl, hc, hd⟩ := dp_tup a3
    exact ⟨p, c, ys, rfl, hs, hc, hd⟩
theorem c_item {v : V} {ep ix key : Int} {la : Bool} {val : Option (List Int)} (h : Dp K H v (dC (.item ep ix la key val))) : ∃ p u, v = .ref p ∧ SqT K H p [.str "item", .int ep, .int ix, .bl la, .int key, u] ∧ Dp K H u (dVal val) := by
  obtain ⟨p, xs, rfl, hs, ha⟩ := dp_tup h
  cases ha with | cons a1 ha => cases ha with | cons a2 ha => cases ha with | cons a3 ha => cases ha with | cons a4 ha => cases ha with | cons a5 ha => cases ha with | cons a6 ha =>
    cases ha; cases a1; cases a2; cases a3; cases a4; cases a5
    exact ⟨p, _, rfl, hs, a6⟩
theorem c_root {v : V} {n ep : Int} {tr : Option (Int × Int)} {jr : List Int} {pl : List (Option Int)} {er bd : List Int} (h : Dp K H v (dC (.root n ep tr jr pl er bd))) :
    ∃ p t j q e d, v = .ref p ∧ SqT K H p [.str "root", .int n, .int ep, t, .ref j, .ref q, .ref e, .ref d] ∧ Dp K H t (dAd tr) ∧ SqT K H j (jr.map V.int) ∧ SqT K H q (pl.map vPl) ∧ SqT K H e (er.map V.int) ∧ SqT K H d (bd.map V.int) := by
  obtain ⟨p, xs, rfl, hs, ha⟩ := dp_tup h
  cases ha with | cons a1 ha => cases ha with | cons a2 ha => cases ha with | cons a3 ha => cases ha with | cons a4 ha => cases ha with | cons a5 ha => cases ha with | cons a6 ha => cases ha with | cons a7 ha => cases ha with | cons a8 ha =>
    cases ha; cases a1; cases a2; cases a3
    obtain ⟨j, rfl, hj⟩ := dp_ti a5
    obtain ⟨e, rfl, he⟩ := dp_ti a7
    obtain ⟨d, rfl, hd⟩ := dp_ti a8
    obtain ⟨q, ys, rfl, hq, hqa⟩ := dp_tup a6
    rw [dpAll_pl hqa] at hq
    exact ⟨p, _, j, q, e, d, rfl, hs, a4, hj, hq, he, hd⟩
theorem mark_c {p : Addr} {n : Int} (h : SqT K H p [.str "mark", .int n]) : Dp K H (.ref p) (dC (.mark n)) := .tup h (.cons (.str _) (.cons (.int _) .nil))
theorem node_c {p c : Addr} {lv : Int} {xs : List V} {ch : List (Option (Int × Int))} (h : SqT K H p [.str "node", .int lv, .ref c]) (hc : SqT K H c xs) (hd : DpAll K H xs (ch.map dAd)) : Dp K H (.ref p) (dC (.node lv ch)) :=
  .tup h (.cons (.str _) (.cons (.int _) (.cons (.tup hc hd) .nil)))
theorem item_c {p : Addr} {ep ix key : Int} {la : Bool} {u : V} {val : Option (List Int)} (h : SqT K H p [.str "item", .int ep, .int ix, .bl la, .int key, u]) (hu : Dp K H u (dVal val)) : Dp K H (.ref p) (dC (.item ep ix la key val)) :=
  .tup h (.cons (.str _) (.cons (.int _) (.cons (.int _) (.cons (.bl _) (.cons (.int _) (.cons hu .nil))))))
theorem root_c {p j q e d : Addr} {t : V} {n ep : Int} {tr : Option (Int × Int)} {jr : List Int} {pl : List (Option Int)} {er bd : List Int} (h : SqT K H p [.str "root", .int n, .int ep, t, .ref j, .ref q, .ref e, .ref d])
    (ht : Dp K H t (dAd tr)) (hj : SqT K H j (jr.map V.int)) (hq : SqT K H q (pl.map vPl)) (he : SqT K H e (er.map V.int)) (hd : SqT K H d (bd.map V.int)) : Dp K H (.ref p) (dC (.root n ep tr jr pl er bd)) :=
  .tup h (.cons (.str _) (.cons (.int _) (.cons (.int _) (.cons ht (.cons (ti_dp hj) (.cons (.tup hq (pl_dpAll pl)) (.cons (ti_dp he) (.cons (ti_dp hd) .nil))))))))
end
/-! ### further rules -/
section
variable {X : Cx} {K : PySem.W.Frag} {tg e : Expr} {te : TE} {t : TA} {p : Pos} {es : List Expr}
/-- what is walked is a list or a tuple -/
def iLT (K : PySem.W.Frag) (te : TE) : TI := fun σ H R => iList K te σ H R ∨ iTup K te σ H R
theorem q_pilt (he : PE X e te) (z : X.K = K := by rfl) : PI X tg e (iLT K te) :=
  ⟨fun pins s σ H R I h => h.elim (fun h => (q_pil (tg := tg) he z).run pins s σ H R I h) (fun h => (q_pit (tg := tg) he z).run pins s σ H R I h)⟩
def rdStar (K : PySem.W.Frag) (te : TE) (t : TA) : TA := fun σ H Q => te σ H fun x H1 => ∃ p xs, x = V.ref p ∧ (SqT K H1 p xs ∨ SqL K H1 p xs) ∧ t σ H1 fun ys H2 => Q (xs ++ ys) H2
theorem q_star (he : PE X e te) (hr : PA X es t) (hs : starEach (.Starred e p :: es) X.env = (true, eval e X.env) :: starEach es X.env := by rfl) (z : X.K = K := by rfl) : PA X (.Starred e p :: es) (rdStar K te t) := by
  subst z; exact StX.pa_star he hr hs
def kSt2 (xs : List V) (Q : List V → Hp → Prop) : List V → Hp → Prop := fun ys H2 => Q (xs ++ ys) H2
def kSt1 (K : PySem.W.Frag) (t : TA) (σ : St) (Q : List V → Hp → Prop) : VK := fun x H1 => ∃ p xs, x = V.ref p ∧ (SqT K H1 p xs ∨ SqL K H1 p xs) ∧ t σ H1 (kSt2 xs Q)
end
section
variable {σ : St} {H : Hp} {Q : VK} {K : PySem.W.Frag}
theorem i_star {te : TE} {t : TA} {Q : List V → Hp → Prop} (h : te σ H (kSt1 K t σ Q)) : rdStar K te t σ H Q := h
theorem i_kSt1L {t : TA} {Q : List V → Hp → Prop} {p : Addr} {xs : List V} (s : SqL K H p xs) (h : t σ H (kSt2 xs Q)) : kSt1 K t σ Q (.ref p) H := ⟨p, xs, rfl, .inr s, h⟩
theorem i_kSt1T {t : TA} {Q : List V → Hp → Prop} {p : Addr} {xs : List V} (s : SqT K H p xs) (h : t σ H (kSt2 xs Q)) : kSt1 K t σ Q (.ref p) H := ⟨p, xs, rfl, .inl s, h⟩
theorem i_kSt2 {xs ys : List V} {Q : List V → Hp → Prop} (h : Q (xs ++ ys) H) : kSt2 xs Q ys H := h
theorem i_all {a : Addr} {bs : List Bool} (s : SqL K H a (bs.map V.bl)) (h : Q (.bl (bs.all id)) H) : rAll K [.ref a] H Q := ⟨a, bs, rfl, s, h⟩
theorem i_any {a : Addr} {bs : List Bool} (s : SqL K H a (bs.map V.bl)) (h : Q (.bl (bs.any id)) H) : rAny K [.ref a] H Q := ⟨a, bs, rfl, s, h⟩
end
/-! ### both kinds walked by a comprehension; slices of tuples -/
section
variable {σ : St} {H : Hp} {Q : VK} {K : PySem.W.Frag} {X : Cx}
theorem i_lcLT {i : Nat} {a : Addr} {g : TG} {tt : TT} {te : TE} {vs : List Nat} (e : σ[i]? = some (some (.ref a))) (xs : List V) (Pv : Addr → Nat → Hp → Prop) (s : SqL K H a xs ∨ SqT K H a xs)
    (hsame : ∀ D i H1, Pv D i H1 → Same H H1) (h0 : ∀ D, H D = none → Pv D 0 (upd H D (.lst [])))
    (hs : ∀ D i x H1, H D = none → xs[i]? = some x → Pv D i H1 → g x (wipe σ vs) H1 (kLc1 tt te vs σ D (Pv D (i + 1)))) (hd : ∀ D H1, H D = none → Pv D xs.length H1 → Q (.ref D) H1) :
    iLT K (tVar i) σ H (kLc g tt te vs σ Q) := by
  rcases s with s | s
  · exact .inl (i_iList (i_var e (i_kIL s (i_lcL xs Pv h0 (fun D i H1 _ _ p => (hsame D i H1 p).seq s) hs hd))))
  · exact .inr (i_iTup (i_var e (i_kIT s (i_lcT xs Pv h0 (fun D i H1 _ _ p => same_tup (hsame D i H1 p) s) hs hd))))
theorem i_kLc2t {te : TE} {D : Addr} {N : Hp → Prop} {b : Bool} (e : b = true) (h : te σ H (kLc3 D N)) : kLc2 te σ D N b H := by subst e; exact i_kLc2T h
theorem i_kLc2f {te : TE} {D : Addr} {N : Hp → Prop} {b : Bool} (e : b = false) (h : N H) : kLc2 te σ D N b H := by subst e; exact i_kLc2F h
theorem get_map {α β : Type} {f : α → β} {l : List α} {i : Nat} {y : β} (h : (l.map f)[i]? = some y) : ∃ z, l[i]? = some z ∧ y = f z := by
  rw [List.getElem?_map] at h
  cases e : l[i]? with
  | none => rw [e] at h; cases h
  | some z => rw [e] at h; exact ⟨z, rfl, (Option.some.inj h).symm⟩
theorem tk_bind {α β : Type} {f : α → List β} {l : List α} {i : Nat} {z : α} (h : l[i]? = some z) : (l.take (i + 1)).flatMap f = (l.take i).flatMap f ++ f z := by
  rw [List.take_add_one, h, List.flatMap_append]; simp
theorem lt_of_get {α : Type} {l : List α} {i : Nat} {z : α} (h : l[i]? = some z) : i < l.length := (List.getElem?_eq_some_iff.mp h).1
theorem big {n : Nat} (h : n ≤ 100000) : n ≤ sizeLine := Nat.le_trans h (by decide)
theorem bigl {n : Nat} (h : n ≤ 100000) : n < sizeLine := Nat.lt_of_le_of_lt h (by decide)
theorem tk_map {α β : Type} {f : α → β} {l : List α} {i : Nat} {z : α} (h : l[i]? = some z) : (l.take (i + 1)).map f = (l.take i).map f ++ [f z] := by
  rw [List.take_add_one, h, List.map_append]; rfl
theorem q_slt (z : X.K = K := by rfl) : SlR X (rSlA K) := by subst z; exact sl_tupA
/-- t[k:], k within it -/
theorem i_slTF {b : Addr} {xs : List V} {k : Int} (j : Nat) (s : SqT K H b xs) (hj : 0 < j) (hl : j ≤ xs.length) (h : ∀ p, H p = none → Q (.ref p) (upd H p (.tup (xs.drop j)))) (e : k = (j : Int) := by first | rfl | omega) : rSlA K (.ref b) (some k) none H Q := by
  subst e
  refine ⟨b, xs, rfl, s, fun hw => ?_, fun _ p hp => ?_⟩
  · have := hw.1
    rw [sIx_n] at this
    omega
  · rw [cut_from]; exact h p hp
end
/-! ### steps that name the heap behind -/
section
variable {H H0 : Hp} {Q : VK} {K : PySem.W.Frag}
theorem same_mut {H' : Hp} {l : Addr} (n : H0 l = none) (s : Same H0 H) (k : ∀ b o, b ≠ l → H b = some o → H' b = some o) : Same H0 H' := fun b o e => k b o (ne_of_none e n) (s b o e)
theorem a_lst {xs : List V} (l : xs.length ≤ sizeLine) (h : ∀ p H', Same H H' → H p = none → H' p = some (.lst xs) → Q (.ref p) H') : kLst Q xs H := i_kLst l fun p hp => h p _ (same_upd hp) hp upd_same
theorem a_lstI {l : List Int} {xs : List V} (e : xs = l.map V.int) (z : l.length ≤ 100000) (h : ∀ p H', Same H H' → H p = none → H' p = some (.lst (l.map V.int)) → Q (.ref p) H') : kLst Q xs H := by
  subst e; exact a_lst (big (by rw [List.length_map]; exact z)) h
theorem a_tup {xs : List V} (l : xs.length ≤ sizeLine) (h : ∀ p H', Same H H' → H p = none → H' p = some (.tup xs) → Q (.ref p) H') : kTup Q xs H := i_kTup l fun p hp => h p _ (same_upd hp) hp upd_same
theorem a_cat {a b : Addr} {xs zs : List Int} (ha : H a = some (.lst (xs.map V.int))) (hb : H b = some (.lst (zs.map V.int))) (z : xs.length + zs.length ≤ 100000) (h : ∀ p H', Same H H' → H p = none → H' p = some (.lst ((xs ++ zs).map V.int)) → Q (.ref p) H') : rCat (.ref a) (.ref b) H Q :=
  i_cat ha hb (big (by rw [List.length_map, List.length_map]; exact z)) fun p hp => h p _ (same_upd hp) hp (by rw [upd_same, List.map_append])
theorem a_append {a : Addr} {xs : List Int} {y : Int} (ha : H a = some (.lst (xs.map V.int))) (z : xs.length < 100000) (h : ∀ H', (∀ b o, b ≠ a → H b = some o → H' b = some o) → H' a = some (.lst ((xs ++ [y]).map V.int)) → Q .non H') : rAppend (.ref a) [.int y] H Q :=
  i_append ha (bigl (by rw [List.length_map]; omega)) (h _ (fun b o n e => upd_get n e) (by rw [upd_same, List.map_append]; rfl))
theorem a_extend {a b : Addr} {xs zs : List Int} (ha : H a = some (.lst (xs.map V.int))) (hb : H b = some (.lst (zs.map V.int))) (z : xs.length + zs.length ≤ 100000) (h : ∀ H', (∀ b o, b ≠ a → H b = some o → H' b = some o) → H' a = some (.lst ((xs ++ zs).map V.int)) → Q .non H') : rExtend (.ref a) [.ref b] H Q :=
  i_extend ha hb (big (by rw [List.length_map, List.length_map]; exact z)) (h _ (fun b o n e => upd_get n e) (by rw [upd_same, List.map_append]))
theorem a_listT {p : Addr} {ys : List V} (s : SqT K H p ys) (h : ∀ l H', Same H H' → H l = none → H' l = some (.lst ys) → Q (.ref l) H') : rListOf K [.ref p] H Q := i_listT s fun l hl => h l _ (same_upd hl) hl upd_same
theorem a_listL {p : Addr} {ys : List V} (s : SqL K H p ys) (h : ∀ l H', Same H H' → H l = none → H' l = some (.lst ys) → Q (.ref l) H') : rListOf K [.ref p] H Q := i_listL s fun l hl => h l _ (same_upd hl) hl upd_same
theorem a_tupL {p : Addr} {ys : List V} (s : SqL K H p ys) (h : ∀ l H', Same H H' → H l = none → H' l = some (.tup ys) → Q (.ref l) H') : rTupOf K [.ref p] H Q := i_tupL s fun l hl => h l _ (same_upd hl) hl upd_same
theorem a_rep {a : Addr} {x : Int} {k : Int} (ha : H a = some (.lst [.int x])) (k0 : 0 ≤ k) (k1 : k ≤ 100000) (h : ∀ p H', Same H H' → H p = none → H' p = some (.lst ((List.replicate k.toNat x).map V.int)) → Q (.ref p) H') : rRep (.ref a) (.int k) H Q :=
  i_rep ha (by omega) (by omega) (big (by simp; omega)) fun p hp => h p _ (same_upd hp) hp (by rw [upd_same, rep_map V.int])
end
end Tm

/-! Tx: data without lists stay when a list changes; items by place -/
namespace Tm
open PySem PySem.Spec PyProof.Rows L2
mutual
def noL : PyData → Bool
  | .none => true
  | .bool _ => true
  | .int _ => true
  | .str _ => true
  | .tuple ds => noLs ds
  | _ => false
def noLs : List PyData → Bool
  | [] => true
  | d :: ds => noL d && noLs ds
end
mutual
theorem noL_upd {K : PySem.W.Frag} {H : Hp} {D : Addr} {o : HO} {xs : List V} (hk : H D = some (.lst xs)) : ∀ (d : PyData) (v : V), noL d = true → Dp K H v d → Dp K (upd H D o) v d
  | .none, _, _, .non => .non
  | .bool _, _, _, .bl b => .bl b
  | .int _, _, _, .int i => .int i
  | .str _, _, _, .str x => .str x
  | .tuple ds, _, n, .tup s a => .tup (by
      rcases s with (z | ⟨u, z⟩) | z
      · exact .inl (.inl (upd_get (ne_of z hk (by intro e; cases e)) z))
      · exact .inl (.inr ⟨u, upd_get (ne_of z hk (by intro e; cases e)) z⟩)
      · exact .inr z) (noLs_upd hk ds _ n a)
  | .list _, _, n, _ => by cases n
theorem noLs_upd {K : PySem.W.Frag} {H : Hp} {D : Addr} {o : HO} {xs : List V} (hk : H D = some (.lst xs)) : ∀ (ds : List PyData) (vs : List V), noLs ds = true → DpAll K H vs ds → DpAll K (upd H D o) vs ds
  | [], _, _, .nil => .nil
  | d :: ds, _, n, .cons h t => by
    rw [noLs, Bool.and_eq_true] at n
    exact .cons (noL_upd hk d _ n.1 h) (noLs_upd hk ds _ n.2 t)
end
theorem noLs_map {α : Type} {f : α → PyData} (h : ∀ x, noL (f x) = true) : ∀ l : List α, noLs (l.map f) = true
  | [] => rfl
  | x :: l => by rw [List.map_cons, noLs, h x, noLs_map h l]; rfl
theorem atI_of {α : Type} {xs : List α} {j : Nat} {k : Int} {v : α} (h : xs[j]? = some v) (e : k = (j : Int)) : atI xs k = some v := by subst e; exact atI_nat h
theorem atI_0 {α : Type} {a : α} {xs : List α} : atI (a :: xs) 0 = some a := atI_nat (j := 0) rfl
theorem atI_1 {α : Type} {a b : α} {xs : List α} : atI (a :: b :: xs) 1 = some b := atI_nat (j := 1) rfl
theorem noLs_append : ∀ (l r : List PyData), noLs l = true → noLs r = true → noLs (l ++ r) = true
  | [], _, _, h => h
  | x :: l, r, h, g => by
    rw [noLs, Bool.and_eq_true] at h
    rw [List.cons_append, noLs, h.1, noLs_append l r h.2 g]; rfl
theorem hu65 {A : Around} {k : Nat} (hr : Room (k + 1) A) : A.units + 65 < cLine := by have := hr.un; omega
theorem atI_2 {α : Type} {a b c : α} {xs : List α} : atI (a :: b :: c :: xs) 2 = some c := atI_nat (j := 2) rfl
theorem atI_3 {α : Type} {a b c d : α} {xs : List α} : atI (a :: b :: c :: d :: xs) 3 = some d := atI_nat (j := 3) rfl
theorem sqT_mut {K : PySem.W.Frag} {H : Hp} {a D : Addr} {o : HO} {xs ys : List V} (hk : H D = some (.lst ys)) (s : SqT K H a xs) : SqT K (upd H D o) a xs := by
  rcases s with (z | ⟨u, z⟩) | z
  · exact .inl (.inl (upd_get (ne_of z hk (by intro e; cases e)) z))
  · exact .inl (.inr ⟨u, upd_get (ne_of z hk (by intro e; cases e)) z⟩)
  · exact .inr z
end Tm

/-! Tw: sets of ints, made by a comprehension, sorted; how many different ones a list has -/
namespace L2
open PySem PySem.Spec PyProof.Rows Tm
/-- what becomes of the value of a turn: it goes into the set at D -/
def scN (w : World) (D : Addr) (N : Hp → Prop) : VK := fun y G =>
  ∃ (c : Int) (S : Int → Bool) (n : Nat), y = .int c ∧ G D = some (SetO w D S n) ∧ n + 1 < scanBound ∧
    N (upd G D (SetO w D (fun j => S j || decide (j = c)) (if S c = true then n else n + 1)))
def scB (w : World) (te : TE) (D : Addr) (N : Hp → Prop) (τ : L2.St) : Bool → Hp → Prop :=
  fun b G => if b = true then te τ G (scN w D N) else N G
def scG (w : World) (tt : TT) (te : TE) (vs : List Nat) (σ : L2.St) (D : Addr) (N : Hp → Prop) : L2.St → Hp → Prop :=
  fun τ G => wipe τ vs = wipe σ vs ∧ tt τ G (scB w te D N τ)
def scJ (w : World) (g : TG) (tt : TT) (te : TE) (vs : List Nat) (σ : L2.St) (Q : VK) : It → Hp → Prop := fun J F =>
  ∀ D, F D = none → ∃ W : Nat → Nat → Hp → Prop, (∃ m, W 0 m (upd F D (SetO w D (fun _ => false) 0))) ∧ ∀ i m G, W i m G →
    (J.stop i G ∧ Q (.ref D) G) ∨
    (J.go i G ∧ ∃ N : Hp → Prop, (∀ G', N G' → ∃ m', m' < m ∧ W (i + 1) m' G') ∧
      ∀ x G', J.yld i G x G' → g x (wipe σ vs) G' (scG w tt te vs σ D N))
def tSci (w : World) (wi : TI) (g : TG) (tt : TT) (te : TE) (vs : List Nat) : TE := fun σ H Q => wi σ H (scJ w g tt te vs σ Q)
section
variable {X : Cx}
theorem addI_ok {pins : List (Addr × Obj)} {σ : L2.St} {G : Hp} {s : Shared} {E : Value → Shared → Prop} {D : Addr} {S : Int → Bool} {n : Nat} {c : Int} {u : Value} {R : Value → Shared → Prop}
    (I : Inv X pins σ G s) (hD : G D = some (SetO X.w D S n)) (hu : RelV (.int c) u) (hn : n + 1 < scanBound)
    (k : ∀ s', Inv X pins σ (upd G D (SetO X.w D (fun j => S j || decide (j = c)) (if S c = true then n else n + 1))) s' → R .none s') :
    wpAny (model X.prog X.w) X.A (call (.builtin "set.add") [.ref D, u]) R E s := by
  obtain ⟨tk, rfl⟩ := hu
  refine setR_add (setO_get I hD) hn fun h2 same made => k _ (I.write (e := D) (t' := s.toks + 1) ?_ (.inl rfl) ?_ ?_ (setO_new made))
  · rw [hD]; trivial
  · exact fun b v nb hv => (same.2 b nb).trans hv
  · obtain ⟨o, _, _, _, at_, _⟩ := made
    exact ⟨o, at_⟩
abbrev fresh0 (X : Cx) : Obj := { cls := .type "set", dict := none, data := .set #[] 0 (.fresh 0 0 (!X.w.params.followText "set-order")) }
theorem sci_core {pins : List (Addr × Obj)} {s : Shared} {σ : L2.St} {H : Hp} {Q : VK} {elt tg iter : Expr} {ifs : List Expr} {scope : Scope}
    {own : List (PySem.Str × Nat)} {pos pos' : Pos} {wi : TI} {g : TG} {tt : TT} {te : TE} {use : Option (Value → Sem Unit)} {Qf : Value → Shared → Prop}
    (hc : X.calm = true) (nd : X.N.Nodup) (I : Inv X pins σ H s) (walked : PI X tg iter wi) (ok : BlkOk X.N X.env.scope scope own)
    (hg : ∀ (z : Shared) (F : Hp) (C : Addr) (cl : List (PySem.Str × Addr)) (fp : List Addr), PG (X.blk z F scope (compEnvC scope cl C X.env) fp) tg g)
    (ht : ∀ (z : Shared) (F : Hp) (C : Addr) (cl : List (PySem.Str × Addr)) (fp : List Addr), PTs (X.blk z F scope (compEnvC scope cl C X.env) fp) ifs tt)
    (he : ∀ (z : Shared) (F : Hp) (C : Addr) (cl : List (PySem.Str × Addr)) (fp : List Addr), PE (X.blk z F scope (compEnvC scope cl C X.env) fp) elt te)
    (plain : ∀ v, foldedSetIterable iter X.env v = pure v) (h : tSci X.w wi g tt te (own.map (·.2)) σ H Q)
    (leave : ∀ D C z m F, Inv X pins σ F z → Q (.ref D) F → z.heap.Ns C m → FpOk X pins F C → compPost (model X.prog X.w) X.A X.xe use Qf (.ref D) C (.ok .next) z) :
    wpAny (model X.prog X.w) X.A (comprehension (.SetComp elt [⟨tg, iter, ifs, 0⟩] scope pos) scope X.env pos' (newSet (.type "set")) false (eval iter X.env) use) Qf X.xe s := by
  have free : ∀ y ∈ scope.names, y.2 = .free → ∃ c, X.env.cells.lookup y.1 = some c := by
    intro y hy e
    rcases ok.free y hy e with q | q
    · exact I.ok.has _ (.inl q)
    · exact I.ok.has _ (.inr q)
  refine wpAny_comprehension_free (use := use) rfl plain (closure_ok free) ok.kind (fun y hy e => by rw [ok.uniq y hy, e]) ?_
  refine thn (walked.run pins s σ H _ I h) fun xv s1 r1 => thn r1 fun itv s2 r2 => ?_
  obtain ⟨it, fp, tn, J, F, rfl, I2, T, st2, f2, q⟩ := r2
  refine PpSet.newSet_ok (newEnv_comp ?_)
  obtain ⟨D, hD⟩ : ∃ D, s2.heap.objs.size = D := ⟨_, rfl⟩
  rw [hD]
  obtain ⟨W, ⟨m0, w0⟩, turn⟩ := q D (I2.hok.fresh (Nat.le_of_eq hD))
  obtain ⟨s3, hs3⟩ : ∃ s3 : Shared, ({ s2 with heap := s2.heap.push (fresh0 X) } : Shared) = s3 := ⟨_, rfl⟩
  have h3 : s3.heap = s2.heap.push (fresh0 X) := by rw [← hs3]
  have I3 : Inv X pins σ (upd F D (SetO X.w D (fun _ => false) 0)) s3 := by
    subst hs3
    refine I2.laid (t' := s2.toks) (fun b o e => Heap.get?_push_of_some _ e) (Nat.le_of_eq hD) (setO_new ?_)
    subst hD
    refine ⟨_, #[], 0, _, Heap.get?_push_size _ rfl, ⟨rfl, rfl, rfl⟩, rfl, ?_, ?_, ?_, by decide, by rfl, rfl, List.Pairwise.nil, ?_⟩
    · intro e z; simp at z
    · simp
    · intro k; simp
    · cases X.w.params.followText "set-order"
      · exact .inr rfl
      · exact .inl rfl
  have below : ∀ b ∈ fp, b < s2.heap.objs.size := by
    intro b hb
    obtain ⟨o, e, _⟩ := T.obj _ _ st2 b hb
    exact Heap.lt_size e
  have f3 : ∀ b ∈ fp, FpOk X pins (upd F D (SetO X.w D (fun _ => false) 0)) b ∧ b < s3.heap.objs.size := by
    intro b hb
    have lt := below b hb
    refine ⟨⟨?_, (f2 b hb).2⟩, by rw [h3, Heap.size_push]; exact Nat.lt_succ_of_lt lt⟩
    rw [upd_ne (by rw [← hD]; exact Nat.ne_of_lt lt)]
    exact (f2 b hb).1
  have st3 : tn 0 s3.heap := by
    refine T.keep _ _ _ st2 fun b _ o e => ?_
    rw [h3]; exact Heap.get?_push_of_some _ e
  have I4 := block_start I3 ok nd f3
  obtain ⟨F3, hF3⟩ : ∃ F3, upd F D (SetO X.w D (fun _ => false) 0) = F3 := ⟨_, rfl⟩
  rw [hF3] at I3 I4 w0 f3
  obtain ⟨C, hC⟩ : ∃ C, s3.heap.objs.size = C := ⟨_, rfl⟩
  have pg := hg s3 F3 C (cellsFrom (C + 1) scope.names (cloFrom X.env.cells scope.names [])) fp
  have pt := ht s3 F3 C (cellsFrom (C + 1) scope.names (cloFrom X.env.cells scope.names [])) fp
  have pe := he s3 F3 C (cellsFrom (C + 1) scope.names (cloFrom X.env.cells scope.names [])) fp
  rw [hC] at I4
  have startAt : ({ s2 with heap := s2.heap.push (fresh0 X) } : Shared) = s3 := hs3
  show codeAny _ _ (.compStart (.SetComp elt [⟨tg, iter, ifs, 0⟩] scope pos) 0 (.ref it) (.ref D) (compEnvC scope (cellsFrom ((s2.heap.push (fresh0 X)).objs.size + 1) scope.names (cloFrom X.env.cells scope.names [])) (s2.heap.push (fresh0 X)).objs.size X.env)) (compPost (model X.prog X.w) X.A X.xe use Qf (.ref D) (s2.heap.push (fresh0 X)).objs.size) { s2 with heap := pushCells ((s2.heap.push (fresh0 X)).push { cls := .type "dict", data := .dict #[] }) scope.names }
  rw [← h3, hC]
  have nfp : ∀ b ∈ fp, F3 b = none := fun b hb => (f3 b hb).1.1
  obtain ⟨ce, hce⟩ : ∃ ce, compEnvC scope (cellsFrom (C + 1) scope.names (cloFrom X.env.cells scope.names [])) C X.env = ce := ⟨_, rfl⟩
  rw [hce] at I4 pg pt pe ⊢
  have cl : ce.locals = C := by subst hce; rfl
  obtain ⟨s4, hs4⟩ : ∃ s4 : Shared, ({ s3 with heap := pushCells (s3.heap.push { cls := .type "dict", data := .dict #[] }) scope.names } : Shared) = s4 := ⟨_, rfl⟩
  have same4 : ({ s2 with heap := pushCells (s3.heap.push { cls := .type "dict", data := .dict #[] }) scope.names } : Shared) = s4 := by rw [← hs4, ← hs3]
  rw [same4]
  rw [hs4] at I4
  have st4 : tn 0 s4.heap := by
    refine T.keep _ _ _ st3 fun b _ o e => ?_
    rw [← hs4]
    exact pushCells_keeps _ _ _ _ (Heap.get?_push_of_some _ e)
  have stays : ∀ {τ : L2.St} {G : Hp} {z : Shared}, Inv (X.blk s3 F3 scope ce fp) [] τ G z → (∀ b ∈ fp, G b = none) → ∀ b ∈ fp, FpOk (X.blk s3 F3 scope ce fp) [] G b := by
    intro τ G z I' no b hb
    exact ⟨no b hb, (I'.ok.exf b hb).1, I'.ok.exfs b hb, .inl hb, fun x c e => (I'.ok.exf b hb).2 x c e, fun p hp => absurd (show p ∈ ([] : List (Addr × Obj)) ++ [] from hp) (by simp)⟩
  refine PpSet.codeAny_compStart_set ?loop (T.self X.A 0 _ _ _ st4 ?loop)
  refine PpSet.compLoopS_any (fun n z => ∃ i G, Inv (X.blk s3 F3 scope ce fp) [] (wipe σ (own.map (·.2))) G z ∧ tn i z.heap ∧ (∀ b ∈ fp, G b = none) ∧ W i n G) ?_ m0 ⟨0, F3, I4, st4, nfp, w0⟩
  rintro n s5 ⟨i, G5, I5, st5, n5, w5⟩
  rcases turn i n G5 w5 with ⟨stop, qq⟩ | ⟨go, Nx, hNx, step⟩
  · refine thnF (T.done (X.blk s3 F3 scope ce fp) rfl rfl rfl hc i [] s5 _ G5 (fun _ _ => False) I5 (stays I5 n5) st5 stop) fun r s6 a6 => ?_
    obtain ⟨rfl, I6⟩ := a6
    have back : Inv X pins σ G5 s6 := I3.call' (ch := fp) I6.os I6.base I6.hok I6.bare fun b hb =>
      ⟨(f3 b hb).1.2.2.2.1, (f3 b hb).1.2.1, (f3 b hb).1.2.2.2.2.1, (f3 b hb).1.2.2.2.2.2⟩
    have noC : G5 C = none := by
      have z : G5 ce.locals = none := I6.free
      rw [cl] at z; exact z
    obtain ⟨m, hn, _⟩ := I6.loc
    have hn : s6.heap.Ns ce.locals m := hn
    rw [cl] at hn
    exact leave D C s6 m G5 back qq hn (I3.fpOk (Nat.le_of_eq hC) noC)
  · refine thnF (T.item (X.blk s3 F3 scope ce fp) rfl rfl rfl hc i [] s5 _ G5 (fun _ _ => False) I5 (stays I5 n5) st5 go) fun r s6 a6 => ?_
    obtain ⟨u, rfl, h6⟩ := a6
    refine thnF h6 fun _ s7 a7 => ?_
    obtain ⟨x, G7, I7, r7, y7, st7, n7⟩ := a7
    have I7' := I7.pinned (stays I7 n7) (T.obj _ _ st7)
    refine thnF (pg.run _ s7 _ G7 x u _ I7' r7 (step x G7 y7)) fun _ s8 a8 => ?_
    obtain ⟨τ, G8, I8, hw8, q8⟩ := a8
    refine thnF (pt.run _ s8 τ G8 _ I8 q8) fun b s9 a9 => ?_
    obtain ⟨G9, I9, q9⟩ := a9
    have fin : ∀ {z : Shared} {G : Hp}, Inv (X.blk s3 F3 scope ce fp) ([] ++ pinsAt fp s7.heap) τ G z → Nx G →
        ∃ m, m < n ∧ ∃ i G, Inv (X.blk s3 F3 scope ce fp) [] (wipe σ (own.map (·.2))) G z ∧ tn i z.heap ∧ (∀ b ∈ fp, G b = none) ∧ W i m G := by
      intro z G I' nx
      obtain ⟨m', hm, w'⟩ := hNx G nx
      have pinned : ∀ b ∈ fp, ∀ o, s7.heap.get? b = some o → z.heap.get? b = some o ∧ G b = none := by
        intro b hb o e
        have z := I'.pin (b, o) (List.mem_append_right _ (List.mem_append_right _ (mem_pinsAt hb e)))
        exact ⟨z.1, z.2.1⟩
      have hl : (wipe σ (own.map (·.2))).length = τ.length := by rw [← hw8, wipe_length]
      refine ⟨m', hm, i + 1, G, (I'.unpinned (pins := [])).weak hl ?_, T.keep _ _ _ st7 fun b hb o e => (pinned b hb o e).1, ?_, w'⟩
      · intro j v e
        rw [← hw8] at e
        exact (wipe_some e).1
      · intro b hb
        obtain ⟨o, e, _⟩ := T.obj _ _ st7 b hb
        exact (pinned b hb o e).2
    cases b with
    | false =>
      simp only [scB, Bool.false_eq_true, if_false] at q9 ⊢
      exact fin I9 q9
    | true =>
      simp only [scB, if_true] at q9 ⊢
      refine thnF (pe.run _ s9 τ G9 _ I9 q9) fun z s10 a10 => ?_
      obtain ⟨yv, G10, I10, r10, c, S0, n0, rfl, hD10, hz10, nx⟩ := a10
      exact addI_ok (X := X.blk s3 F3 scope ce fp) I10 hD10 r10 hz10 fun s11 I11 => fin I11 nx
theorem pe_sci {elt tg iter : Expr} {ifs : List Expr} {scope : Scope} {own : List (PySem.Str × Nat)} {pos : Pos} {wi : TI} {g : TG} {tt : TT} {te : TE}
    (hc : X.calm = true) (nd : X.N.Nodup) (walked : PI X tg iter wi) (ok : BlkOk X.N X.env.scope scope own)
    (hg : ∀ (z : Shared) (F : Hp) (C : Addr) (cl : List (PySem.Str × Addr)) (fp : List Addr), PG (X.blk z F scope (compEnvC scope cl C X.env) fp) tg g)
    (ht : ∀ (z : Shared) (F : Hp) (C : Addr) (cl : List (PySem.Str × Addr)) (fp : List Addr), PTs (X.blk z F scope (compEnvC scope cl C X.env) fp) ifs tt)
    (he : ∀ (z : Shared) (F : Hp) (C : Addr) (cl : List (PySem.Str × Addr)) (fp : List Addr), PE (X.blk z F scope (compEnvC scope cl C X.env) fp) elt te)
    (plain : ∀ v, foldedSetIterable iter X.env v = pure v := by intro _; rfl) :
    PE X (.SetComp elt [⟨tg, iter, ifs, 0⟩] scope pos) (tSci X.w wi g tt te (own.map (·.2))) := by
  constructor
  intro pins s σ H Q I h
  rw [PpSet.eval_SetComp]
  refine sci_core hc nd I walked ok hg ht he plain h fun D C z m F I' q hn f => ?_
  refine ⟨m, hn, fun h2 sb => ?_⟩
  obtain ⟨f0, f1, _, f3, f4, f5⟩ := f
  refine ⟨.ref D, F, I'.turned (t' := z.toks) (fun b o hb e => (sb.2 b hb).trans e) f0 f1 f3 f4 f5, rfl, q⟩
/-- how many different ints a list has -/
def ded (ns : List Int) : List Int := firstMet (fun i => ns.getD i 0) ns.length
def tLenSetA (K : PySem.W.Frag) (ta : TE) : TE := fun σ H Q => ta σ H fun x F =>
  ∃ (l : Addr) (ns : List Int), x = .ref l ∧ SqL K F l (ns.map V.int) ∧ ns.length ≤ 4000 ∧ Q (.int ((ded ns).length : Nat)) F
theorem pe_lenSetA {a : Expr} {ta : TE} {p p2 q pos : Pos} (hg : Gl X "len") (hm : X.mg "len" = none) (hg2 : Gl X "set") (hm2 : X.mg "set" = none) (ha : PE X a ta)
    (hc : X.calm = true := by rfl) (one : starEach [a] X.env = (false, eval a X.env) :: starEach [] X.env := by rfl) :
    PE X (.Call (.Name "len" p) [.Call (.Name "set" p2) [a] [] q] [] pos) (tLenSetA X.K ta) := by
  constructor
  intro pins s σ H Q I h
  refine Call_ (ld_blt I hg hm boot_len (PyProof.Rows.callWith_builtin1 (PyProof.Rows.args_cons ?_ rfl) rfl rfl))
  refine Call_ (ld_blt I hg2 hm2 boot_set (PyProof.Rows.callWith_type1 (PyProof.Rows.args_cons ?_ one) one rfl))
  refine thn (ha.run pins s σ H _ I h) fun v s1 r1 => PyProof.Rows.args_nil ?_
  obtain ⟨_, F, I1, r1, l, ns, rfl, hq, hl, q1⟩ := r1
  cases r1
  obtain ⟨its, r, pl, _⟩ := I1.list hq
  have hlen : its.toArray.size = ns.length := by rw [List.size_toArray, ← r.length, List.length_map]
  have hints := RZ.intsAre_vals r
  refine call_set_list (I1.ok.hd hc) pl.isList (by simpa using hints) ?_ ?_
  · rw [hlen]; unfold scanBound; omega
  intro h2 tk isSet kept
  refine PyProof.Rows.args_nil ?_
  rw [hlen] at isSet
  obtain ⟨o, es, ep, t, ho, hex, hd, _, _, _, hf, hn⟩ := isSet
  have few : (ded ns).length ≤ ns.length := PyProof.Rows.firstMet_length_le _ _
  have hn : es.size = (ded ns).length := hn
  have I2 : Inv X pins σ F { s1 with heap := h2, toks := tk } := I1.kept fun b o e => kept b o (Heap.lt_size e) e
  exact call_len_set ho hex hd hf (by rw [hn] <;> omega) ⟨.int (ded ns).length, F, I2.tok _, ⟨_, by rw [hn]⟩, q1⟩
end
end L2
namespace Tm
open PySem PySem.Spec PyProof.Rows L2
section
variable {σ σ' : St} {H : Hp} {Q : VK} {K : PySem.W.Frag} {w : World}
theorem i_sci {wi : TI} {g : TG} {tt : TT} {te : TE} {vs : List Nat} (h : wi σ H (scJ w g tt te vs σ Q)) : tSci w wi g tt te vs σ H Q := h
theorem i_scG {tt : TT} {te : TE} {vs : List Nat} {τ : St} {D : Addr} {N : Hp → Prop} (e : wipe τ vs = wipe σ vs) (h : tt τ H (scB w te D N τ)) : scG w tt te vs σ D N τ H := ⟨e, h⟩
theorem i_scBT {te : TE} {D : Addr} {N : Hp → Prop} (h : te σ H (scN w D N)) : scB w te D N σ true H := h
theorem i_scBF {te : TE} {D : Addr} {N : Hp → Prop} (h : N H) : scB w te D N σ false H := by show if false = true then _ else _; rw [if_neg Bool.false_ne_true]; exact h
theorem i_scN {D : Addr} {N : Hp → Prop} {c : Int} {S : Int → Bool} {n : Nat} (e : H D = some (SetO w D S n)) (z : n + 1 < scanBound) (h : N (upd H D (SetO w D (fun j => S j || decide (j = c)) (if S c = true then n else n + 1)))) : scN w D N (.int c) H := ⟨c, S, n, rfl, e, z, h⟩
/-- over a list that stands still -/
theorem i_sciL {a : Addr} {g : TG} {tt : TT} {te : TE} {vs : List Nat} (xs : List V) (Pv : Addr → Nat → Hp → Prop) (h0 : ∀ D, H D = none → Pv D 0 (upd H D (SetO w D (fun _ => false) 0))) (hl : ∀ D i G, H D = none → i ≤ xs.length → Pv D i G → SqL K G a xs)
    (hs : ∀ D i x G, H D = none → xs[i]? = some x → Pv D i G → g x (wipe σ vs) G (scG w tt te vs σ D (Pv D (i + 1)))) (hd : ∀ D G, H D = none → Pv D xs.length G → Q (.ref D) G) : scJ w g tt te vs σ Q (Itl K a) H := by
  intro D hD
  refine ⟨fun i m G => m = xs.length - i ∧ i ≤ xs.length ∧ Pv D i G, ⟨xs.length, by simp, Nat.zero_le _, h0 D hD⟩, ?_⟩
  rintro i m G ⟨rfl, hi, p⟩
  have q := hl D i G hD hi p
  by_cases hlt : i < xs.length
  · refine .inr ⟨⟨xs, xs[i], q, by simp [hlt]⟩, Pv D (i + 1), fun G' p' => ⟨xs.length - (i + 1), by omega, rfl, hlt, p'⟩, fun x G' y => ?_⟩
    obtain ⟨rfl, y⟩ := y
    exact hs D i x _ hD (y xs q) p
  · have e : i = xs.length := by omega
    subst e
    exact .inl ⟨⟨xs, q, Nat.le_refl _⟩, hd D G hD p⟩
def kLenSet (K : PySem.W.Frag) (Q : VK) : VK := fun x F => ∃ (l : Addr) (ns : List Int), x = .ref l ∧ SqL K F l (ns.map V.int) ∧ ns.length ≤ 4000 ∧ Q (.int ((ded ns).length : Nat)) F
theorem i_lenSet {ta : TE} (h : ta σ H (kLenSet K Q)) : tLenSetA K ta σ H Q := h
theorem i_kLenSet {l : Addr} {ns : List Int} (s : SqL K H l (ns.map V.int)) (z : ns.length ≤ 4000) (h : Q (.int ((ded ns).length : Nat)) H) : kLenSet K Q (.ref l) H := ⟨l, ns, rfl, s, z, h⟩
theorem i_sortedSet {a : Addr} {S : Int → Bool} {n : Nat} (e : H a = some (SetO w a S n)) (z : n < 64) (h : ∀ (ns : List Int) (p : Addr), ns.Pairwise (· < ·) → (∀ k : Int, k ∈ ns ↔ S k = true) → ns.length = n → H p = none → Q (.ref p) (upd H p (.lst (ns.map V.int)))) : rSortedSet w [.ref a] H Q := ⟨a, S, n, rfl, e, z, h⟩
end
/-! the different ints of a list -/
theorem firstMet_mem (f : Nat → Int) (k : Int) : ∀ i, k ∈ firstMet f i ↔ ∃ j, j < i ∧ f j = k
  | 0 => by rw [firstMet_zero]; simp
  | i + 1 => by
    rw [firstMet_succ]
    have ih := firstMet_mem f k i
    show k ∈ (if (firstMet f i).any (· == f i) then firstMet f i else firstMet f i ++ [f i]) ↔ _
    split
    · next h =>
      rw [ih]
      constructor
      · rintro ⟨j, hj, e⟩; exact ⟨j, by omega, e⟩
      · rintro ⟨j, hj, e⟩
        by_cases c : j < i
        · exact ⟨j, c, e⟩
        · obtain rfl : j = i := by omega
          obtain ⟨y, hy, ey⟩ := List.any_eq_true.mp h
          rw [eq_of_beq ey, e] at hy
          exact ih.mp hy
    · rw [List.mem_append, List.mem_singleton, ih]
      constructor
      · rintro (⟨j, hj, e⟩ | rfl)
        · exact ⟨j, by omega, e⟩
        · exact ⟨i, by omega, rfl⟩
      · rintro ⟨j, hj, e⟩
        by_cases c : j < i
        · exact .inl ⟨j, c, e⟩
        · obtain rfl : j = i := by omega
          exact .inr e.symm
theorem firstMet_nd (f : Nat → Int) : ∀ i, (firstMet f i).Nodup
  | 0 => by rw [firstMet_zero]; exact List.nodup_nil
  | i + 1 => by
    rw [firstMet_succ]
    have ih := firstMet_nd f i
    show (if (firstMet f i).any (· == f i) then firstMet f i else firstMet f i ++ [f i]).Nodup
    split
    · exact ih
    · next h =>
      rw [List.nodup_append]
      refine ⟨ih, by simp, fun a ha b hb e => h (List.any_eq_true.mpr ⟨a, ha, ?_⟩)⟩
      rw [List.mem_singleton] at hb
      rw [e, hb]; exact beq_self_eq_true _
theorem ded_nd (ns : List Int) : (ded ns).Nodup := firstMet_nd _ _
theorem ded_mem (ns : List Int) (k : Int) : k ∈ ded ns ↔ k ∈ ns := by
  unfold ded
  rw [firstMet_mem]
  constructor
  · rintro ⟨j, hj, e⟩
    rw [List.getD_eq_getElem?_getD, List.getElem?_eq_getElem hj] at e
    rw [← e]; exact List.getElem_mem hj
  · intro h
    obtain ⟨j, hj, e⟩ := List.mem_iff_getElem.mp h
    refine ⟨j, hj, ?_⟩
    rw [List.getD_eq_getElem?_getD, List.getElem?_eq_getElem hj]; exact e
theorem nd_len {α : Type} [DecidableEq α] {xs ys : List α} (h1 : xs.Nodup) (h2 : ys.Nodup) (h : ∀ k, k ∈ xs ↔ k ∈ ys) : xs.length = ys.length :=
  ((List.perm_ext_iff_of_nodup h1 h2).mpr h).length_eq
theorem pw_nd {xs : List Int} (h : xs.Pairwise (· < ·)) : xs.Nodup := h.imp fun z e => by omega
end Tm

/-! the steps as one word -/
local macro_rules | `(tactic| walk_at "set") => `(tactic| ((repeat (with_reducible apply Tm.set_s)); exact Tm.set_z))
local macro_rules | `(tactic| walk_at "sc") => `(tactic| first | omega | (with_reducible assumption) | (dsimp only; first | omega | (with_reducible assumption)) | exact ⟨by omega, by omega⟩ | exact Or.inl ⟨by omega, by omega⟩ | exact Or.inr ⟨by omega, by omega⟩)
local macro_rules | `(tactic| walk_at "ne") => `(tactic| first | assumption | (apply Ne.symm; assumption) | (refine' L2.ne_of_none ?h ?n; (case n => assumption); (case h => walk_at "hp")) | (apply Ne.symm; refine' L2.ne_of_none ?h ?n; (case n => assumption); (case h => walk_at "hp")))
local macro_rules | `(tactic| walk_at "hp") => `(tactic| first | assumption | with_reducible exact L2.upd_same | ((with_reducible refine' Tm.upd_get ?n ?h); (case n => walk_at "ne"); (case h => walk_at "hp")) | (refine' (show L2.Same _ _ by assumption) _ _ ?h; (case h => walk_at "hp")))
local macro_rules | `(tactic| walk_at "sq") => `(tactic| first | assumption | ((with_reducible refine' L2.SqL.of ?h); (case h => walk_at "hp")) | ((with_reducible refine' L2.SqT.of ?h); (case h => walk_at "hp")) | ((with_reducible refine' Tm.sqL_new ?n ?h); (case n => assumption); (case h => walk_at "sq")) | ((with_reducible refine' Tm.sqT_new ?n ?h); (case n => assumption); (case h => walk_at "sq")) | ((with_reducible refine' Tm.sqL_upd ?n ?h); (case n => walk_at "ne"); (case h => walk_at "sq")) | ((with_reducible refine' Tm.sqT_upd ?n ?h); (case n => walk_at "ne"); (case h => walk_at "sq")) | (refine' L2.Same.seq (by assumption) ?h; (case h => walk_at "sq")) | (refine' Tm.same_tup (by assumption) ?h; (case h => walk_at "sq")))
local macro_rules | `(tactic| walk_at "s") => `(tactic| first
  | with_reducible refine' Tm.i_seq ?_
  | ((with_reducible refine' Tm.i_var ?k ?_); (case k => exact rfl))
  | with_reducible refine' Tm.i_c ?_
  | with_reducible refine' Tm.i_op ?_
  | with_reducible refine' Tm.i_kO1 ?_
  | with_reducible refine' Tm.i_kO2 ?_
  | with_reducible refine' Tm.i_asg ?_
  | with_reducible refine' Tm.i_kAsg ?_
  | ((with_reducible refine' Tm.i_gName ?k ?_); (case k => walk_at "set"))
  | with_reducible refine' Tm.i_rI0 ?_
  | ((with_reducible refine' Tm.i_rI ?k ?_); (case k => walk_at "sc"))
  | with_reducible refine' Tm.i_rU ?_
  | with_reducible refine' Tm.i_rEqI ?_
  | with_reducible refine' Tm.i_rNeI ?_
  | with_reducible refine' Tm.i_rEqS ?_
  | with_reducible refine' Tm.i_rNeS ?_
  | with_reducible refine' Tm.i_rEqB ?_
  | with_reducible refine' Tm.i_rNeB ?_
  | with_reducible refine' Tm.i_test ?_
  | with_reducible refine' Tm.i_tB ?_
  | with_reducible refine' Tm.i_kB ?_
  | with_reducible refine' Tm.i_ifS ?_
  | with_reducible refine' Tm.i_kIfT ?_
  | with_reducible refine' Tm.i_kIfF ?_
  | with_reducible refine' Tm.i_kIfn ?_
  | with_reducible refine' Tm.i_and ?_
  | with_reducible refine' Tm.i_or ?_
  | with_reducible refine' Tm.i_not ?_
  | with_reducible refine' Tm.i_kNot ?_
  | with_reducible refine' Tm.i_kAndT ?_
  | with_reducible refine' Tm.i_kAndF ?_
  | with_reducible refine' Tm.i_kOrT ?_
  | with_reducible refine' Tm.i_kOrF ?_
  | with_reducible refine' Tm.i_andV ?_
  | with_reducible refine' Tm.i_orV ?_
  | with_reducible refine' Tm.i_notV ?_
  | with_reducible refine' Tm.i_kNotV ?_
  | with_reducible refine' Tm.i_ifE ?_
  | with_reducible refine' Tm.i_kIfET ?_
  | with_reducible refine' Tm.i_kIfEF ?_
  | with_reducible refine' Tm.i_cons ?_
  | with_reducible refine' Tm.i_nil ?_
  | with_reducible refine' Tm.i_kA1 ?_
  | with_reducible refine' Tm.i_kA2 ?_
  | with_reducible refine' Tm.i_drop ?_
  | with_reducible refine' Tm.i_kDrop ?_
  | with_reducible refine' Tm.i_ret ?_
  | with_reducible refine' Tm.i_retN ?_
  | with_reducible refine' Tm.i_next ?_
  | with_reducible refine' Tm.i_brk ?_
  | with_reducible refine' Tm.i_cnt ?_
  | with_reducible refine' Tm.i_body ?_
  | ((with_reducible refine' Tm.i_aug ?k ?_); (case k => exact rfl))
  | with_reducible refine' Tm.i_kAug1 ?_
  | ((with_reducible refine' Tm.i_kAug2 ?k ?_); (case k => walk_at "set"))
  | with_reducible refine' Tm.i_ipI ?_
  | with_reducible refine' Tm.i_un ?_
  | with_reducible refine' Tm.i_kU ?_
  | with_reducible refine' Tm.i_cb ?_
  | with_reducible refine' Tm.i_kCB ?_
  | with_reducible refine' Tm.i_call ?_
  | with_reducible refine' Tm.i_kCall ?_
  | with_reducible refine' Tm.i_bm ?_
  | with_reducible refine' Tm.i_bm0 ?_
  | ((with_reducible refine' Tm.i_kBMl ?k ?_); (case k => walk_at "sq"))
  | ((with_reducible refine' Tm.i_kBM0l ?k ?_); (case k => walk_at "sq"))
  | with_reducible refine' Tm.i_kBM2 ?_
  | with_reducible refine' Tm.i_int ?_
  | ((with_reducible refine' Tm.i_lenL ?k ?_); (case k => walk_at "sq"))
  | ((with_reducible refine' Tm.i_lenT ?k ?_); (case k => walk_at "sq"))
  | with_reducible refine' Tm.i_isN ?_
  | with_reducible refine' Tm.i_notN ?_
  | with_reducible refine' Tm.i_tup ?_
  | with_reducible refine' Tm.i_lst ?_
  | with_reducible refine' Tm.i_sl ?_
  | with_reducible refine' Tm.i_kS1 ?_
  | with_reducible refine' Tm.i_kS2 ?_
  | with_reducible refine' Tm.i_kS3 ?_
  | with_reducible refine' Tm.i_noPart ?_
  | with_reducible refine' Tm.i_part ?_
  | with_reducible refine' Tm.i_kPart ?_
  | with_reducible refine' Tm.i_chain ?_
  | with_reducible refine' Tm.i_kC1 ?_
  | with_reducible refine' Tm.i_kC2 ?_
  | with_reducible refine' Tm.i_kC3 ?_
  | with_reducible refine' Tm.i_for ?_
  | with_reducible refine' Tm.i_lc ?_
  | with_reducible refine' Tm.i_iList ?_
  | with_reducible refine' Tm.i_iTup ?_
  | with_reducible refine' Tm.i_iRng1 ?_
  | with_reducible refine' Tm.i_iRng2 ?_
  | ((with_reducible refine' Tm.i_kIL ?k ?_); (case k => walk_at "sq"))
  | ((with_reducible refine' Tm.i_kIT ?k ?_); (case k => walk_at "sq"))
  | ((with_reducible refine' Tm.i_kIR1 ?k1 ?k2 ?_); (case k1 => walk_at "sc"); (case k2 => walk_at "sc"))
  | ((with_reducible refine' Tm.i_kIR2 ?k1 ?k2 ?k3 ?k4 ?_); (case k1 => walk_at "sc"); (case k2 => walk_at "sc"); (case k3 => walk_at "sc"); (case k4 => walk_at "sc"))
  | with_reducible refine' Tm.i_fld ?_
  | with_reducible refine' Tm.i_sFld ?_
  | with_reducible refine' Tm.i_kSF1 ?_
  | with_reducible refine' Tm.i_meth ?_
  | with_reducible refine' Tm.i_kM2 ?_
  | with_reducible refine' Tm.i_make ?_
  | with_reducible refine' Tm.i_yes ?_
  | with_reducible refine' Tm.i_gCons ?_
  | with_reducible refine' Tm.i_gNil ?_
  | ((with_reducible refine' Tm.i_gTup ?k1 ?k2 ?_); (case k1 => walk_at "sq"); (case k2 => exact rfl))
  | with_reducible refine' Tm.i_star ?_
  | ((with_reducible refine' Tm.i_kSt1T ?k1 ?_); (case k1 => walk_at "sq"))
  | ((with_reducible refine' Tm.i_kSt1L ?k1 ?_); (case k1 => walk_at "sq"))
  | with_reducible refine' Tm.i_kSt2 ?_
  | with_reducible refine' Tm.i_gSub ?_
  | with_reducible refine' Tm.i_kG1 ?_
  | ((with_reducible refine' Tm.i_gNameW ?k1 ?k2 ?k3 ?_); (case k1 => exact rfl); (case k2 => walk_at "set"); (case k3 => walk_at "set"))
  | ((with_reducible refine' Tm.i_kLc1 ?k ?_); (case k => exact rfl))
  | ((with_reducible refine' Tm.i_ixL ?k ?e ?_); (case k => walk_at "sq"); (case e => exact rfl))
  | ((with_reducible refine' Tm.i_ixI ?k ?e ?l1 ?l2 ?_); (case k => walk_at "sq"); (case e => first | exact Int.toNat_zero | exact Int.toNat_one | exact Int.toNat_ofNat _ | exact Int.toNat_natCast _); (case l1 => omega); (case l2 => omega))
  | ((with_reducible refine' Tm.i_ixT ?k ?e ?_); (case k => walk_at "sq"); (case e => exact rfl))
  | ((with_reducible refine' Tm.i_eqLL ?k1 ?k2 ?_); (case k1 => walk_at "sq"); (case k2 => walk_at "sq"))
  | ((with_reducible refine' Tm.i_neLL ?k1 ?k2 ?_); (case k1 => walk_at "sq"); (case k2 => walk_at "sq"))
  | ((with_reducible refine' Tm.i_eqTT ?k1 ?k2 ?_); (case k1 => walk_at "sq"); (case k2 => walk_at "sq"))
  | with_reducible refine' Tm.i_lstRev ?_
  | with_reducible refine' Tm.i_kLc2T ?_
  | with_reducible refine' Tm.i_kLc2F ?_
  | ((with_reducible refine' Tm.i_kIfdF ?k ?_); (case k => decide))
  | ((with_reducible refine' Tm.i_kIfdT ?k ?_); (case k => decide))
  | ((with_reducible refine' Tm.i_kIfdF ?k ?_); (case k => (intro hh; cases hh; done)))
  | ((with_reducible refine' Tm.i_kIfEdT ?k ?_); (case k => exact rfl))
  | ((with_reducible refine' Tm.i_kIfEdF ?k ?_); (case k => (intro hh; cases hh; done))))
local macro_rules | `(tactic| walk_at "go") => `(tactic| repeat walk_at "s")
local macro_rules | `(tactic| walk_at "s") => `(tactic| first
  | with_reducible refine' Tm.i_sci ?_
  | ((with_reducible refine' Tm.i_scG ?k ?_); (case k => exact rfl))
  | with_reducible refine' Tm.i_scBT ?_
  | with_reducible refine' Tm.i_scBF ?_
  | with_reducible refine' Tm.i_lenSet ?_)
namespace P14
open PySem PySem.Spec PyProof.Rows L2 Tm
abbrev St := L2.St
def topS (i : Nat) : Stmt := PySem.Challenge.pw_tidemark_k14_pages_counted_for_keys.main.body.getD i (.Pass ⟨0, 0, 0, 0⟩)
abbrev s_nodes_counted : Stmt := topS 3
abbrev N_nodes_counted : List Str := ["keys", "many", "numbers", "_", "number"]
theorem sc_nodes_counted : FnScope N_nodes_counted ["keys"] (defScope s_nodes_counted) := ⟨rfl, rfl, rfl, by decide +kernel, rfl, by decide +kernel, by decide +kernel⟩
abbrev s_pages_counted : Stmt := topS 4
abbrev N_pages_counted : List Str := ["keys"]
theorem sc_pages_counted : FnScope N_pages_counted ["keys"] (defScope s_pages_counted) := ⟨rfl, rfl, rfl, by decide +kernel, rfl, by decide +kernel, by decide +kernel⟩
abbrev s__law_draws : Stmt := topS 6
abbrev N__law_draws : List Str := ["script", "count", "draws", "k", "cell"]
theorem sc__law_draws : FnScope N__law_draws ["script", "count"] (defScope s__law_draws) := ⟨rfl, rfl, rfl, by decide +kernel, rfl, by decide +kernel, by decide +kernel⟩
abbrev s__law_key : Stmt := topS 7
abbrev N__law_key : List Str := ["draw"]
theorem sc__law_key : FnScope N__law_key ["draw"] (defScope s__law_key) := ⟨rfl, rfl, rfl, by decide +kernel, rfl, by decide +kernel, by decide +kernel⟩
abbrev s__law_span : Stmt := topS 8
abbrev N__law_span : List Str := ["level"]
theorem sc__law_span : FnScope N__law_span ["level"] (defScope s__law_span) := ⟨rfl, rfl, rfl, by decide +kernel, rfl, by decide +kernel, by decide +kernel⟩
abbrev s_law : Stmt := topS 9
abbrev N_law : List Str := ["script", "draws", "keys", "seen", "nodes", "key", "level", "draw"]
theorem sc_law : FnScope N_law ["script"] (defScope s_law) := ⟨rfl, rfl, rfl, by decide +kernel, rfl, by decide +kernel, by decide +kernel⟩
/-- where the text's things stand -/
structure Ad where
  f_nodes_counted : Addr
  d_nodes_counted : FuncData
  f_pages_counted : Addr
  d_pages_counted : FuncData
  f__law_draws : Addr
  d__law_draws : FuncData
  f__law_key : Addr
  d__law_key : FuncData
  f__law_span : Addr
  d__law_span : FuncData
  f_law : Addr
  d_law : FuncData
  v_LEVELS : Value
  v_CHILDREN : Value
/-- what the top has written -/
structure Txt (w : World) (K : PySem.W.Frag) (mg : Str → Option Value) (a : Ad) : Prop where
  F_nodes_counted : Fun K "nodes_counted" "nodes_counted" s_nodes_counted a.f_nodes_counted a.d_nodes_counted
  b_nodes_counted : Binds K a.d_nodes_counted ["keys"] []
  g_nodes_counted : mg "nodes_counted" = some (.ref a.f_nodes_counted)
  F_pages_counted : Fun K "pages_counted" "pages_counted" s_pages_counted a.f_pages_counted a.d_pages_counted
  b_pages_counted : Binds K a.d_pages_counted ["keys"] []
  g_pages_counted : mg "pages_counted" = some (.ref a.f_pages_counted)
  F__law_draws : Fun K "_law_draws" "_law_draws" s__law_draws a.f__law_draws a.d__law_draws
  b__law_draws : Binds K a.d__law_draws ["script", "count"] []
  g__law_draws : mg "_law_draws" = some (.ref a.f__law_draws)
  F__law_key : Fun K "_law_key" "_law_key" s__law_key a.f__law_key a.d__law_key
  b__law_key : Binds K a.d__law_key ["draw"] []
  g__law_key : mg "_law_key" = some (.ref a.f__law_key)
  F__law_span : Fun K "_law_span" "_law_span" s__law_span a.f__law_span a.d__law_span
  b__law_span : Binds K a.d__law_span ["level"] []
  g__law_span : mg "_law_span" = some (.ref a.f__law_span)
  F_law : Fun K "law" "law" s_law a.f_law a.d_law
  b_law : Binds K a.d_law ["script"] []
  g_law : mg "law" = some (.ref a.f_law)
  z_range : mg "range" = none
  z_len : mg "len" = none
  z_sorted : mg "sorted" = none
  z_set : mg "set" = none
  z_int : mg "int" = none
  c_LEVELS : mg "LEVELS" = some a.v_LEVELS ∧ RelV (V.int 4) a.v_LEVELS
  c_CHILDREN : mg "CHILDREN" = some a.v_CHILDREN ∧ RelV (V.int 32) a.v_CHILDREN

/-- how many nodes of the lowest i levels cover a key -/
def cnt (ns : List Int) : Nat → Int
  | 0 => 0
  | i + 1 => cnt ns i + (ded (ns.map (· / 32 ^ (i + 1)))).length
theorem ded_congr {xs ys : List Int} (h : ∀ k, k ∈ xs ↔ k ∈ ys) : (ded xs).length = (ded ys).length :=
  nd_len (ded_nd xs) (ded_nd ys) fun k => by rw [ded_mem, ded_mem, h]
theorem map_congr {xs ys : List Int} {f : Int → Int} (h : ∀ k, k ∈ xs ↔ k ∈ ys) (k : Int) : k ∈ xs.map f ↔ k ∈ ys.map f := by
  rw [List.mem_map, List.mem_map]
  exact ⟨fun ⟨z, a, b⟩ => ⟨z, (h z).mp a, b⟩, fun ⟨z, a, b⟩ => ⟨z, (h z).mpr a, b⟩⟩
theorem cnt_congr {xs ys : List Int} (h : ∀ k, k ∈ xs ↔ k ∈ ys) : ∀ i, cnt xs i = cnt ys i
  | 0 => rfl
  | i + 1 => by rw [cnt, cnt, cnt_congr h i, ded_congr (map_congr h)]
theorem div_next (z : Int) (i : Nat) : z / 32 ^ i / 32 = z / 32 ^ (i + 1) := by
  rw [Int.pow_succ, Int.ediv_ediv_of_nonneg (Int.le_of_lt (Int.pow_pos (by decide)))]
/-- the nodes that the law keeps: level and number -/
def dN (q : Nat × Int) : PyData := .tuple [.int q.1, .int q.2]
theorem noL_N (q : Nat × Int) : noL (dN q) = true := rfl
theorem lay_N : ∀ l : List (Nat × Int), PyData.canLayAll0 (l.map dN) = true
  | [] => by simp [PyData.canLayAll0]
  | q :: l => by rw [List.map_cons, PyData.canLayAll0, lay_N l]; simp [dN, PyData.canLay0, PyData.canLayAll0]
theorem dep_N : ∀ l : List (Nat × Int), PyData.depthAll (l.map dN) ≤ 4
  | [] => by simp [PyData.depthAll]
  | q :: l => by
    have := dep_N l
    have e : (dN q).depth ≤ 4 := by simp [dN, PyData.depth, PyData.depthAll]
    rw [List.map_cons, PyData.depthAll]; omega
theorem shaped_N (q : Nat × Int) : SeqAt.shaped (dN q) = true := shaped_of (by simp [dN, PyData.canLay0, PyData.canLayAll0]) (by simp [dN, PyData.depth, PyData.depthAll])
theorem shaped_Ns (l : List (Nat × Int)) : SeqAt.shaped (.list (l.map dN)) = true := shaped_of (by rw [PyData.canLay0]; exact lay_N l) (by have := dep_N l; rw [PyData.depth]; omega)
theorem any_N (q : Nat × Int) : ∀ l : List (Nat × Int), ((l.map dN).any fun z => PyData.eqv z (dN q)) = decide (q ∈ l)
  | [] => by simp
  | r :: l => by
    rw [List.map_cons, List.any_cons, any_N q l]
    have e : PyData.eqv (dN r) (dN q) = decide (r = q) := by
      obtain ⟨a, x⟩ := r
      obtain ⟨b, y⟩ := q
      simp only [dN, PyData.eqv, PyData.eqvAll]
      by_cases h1 : a = b <;> by_cases h2 : x = y <;> simp [h1, h2, Int.ofNat_inj] <;> omega
    rw [e]
    by_cases h1 : r = q <;> by_cases h2 : q ∈ l <;> simp [h1, h2, eq_comm]
    · intro h; exact absurd h.symm h1
theorem split4 : ∀ l : List (Nat × Int), (∀ q ∈ l, q.1 < 4) → l.length = ((l.filter (fun q => decide (q.1 = 0))).length + (l.filter (fun q => decide (q.1 = 1))).length) + ((l.filter (fun q => decide (q.1 = 2))).length + (l.filter (fun q => decide (q.1 = 3))).length)
  | [], _ => rfl
  | (a, x) :: l, h => by
    have ih := split4 l fun q hq => h q (List.mem_cons_of_mem _ hq)
    have ha : a < 4 := h (a, x) (List.mem_cons_self ..)
    have : a = 0 ∨ a = 1 ∨ a = 2 ∨ a = 3 := by omega
    rcases this with rfl | rfl | rfl | rfl <;> simp [List.filter_cons] <;> omega
/-- what the law has noted behind i keys and the lowest m levels of the next one -/
def Noted (kn : List Int) (i m : Nat) (nds : List (Nat × Int)) : Prop :=
  nds.Nodup ∧ ∀ q : Nat × Int, q ∈ nds ↔ q.1 < 4 ∧ ∃ j, j < kn.length ∧ (j < i ∨ (j = i ∧ q.1 < m)) ∧ q.2 = kn.getD j 0 / 32 ^ (q.1 + 1)
theorem noted_len {kn : List Int} {nds : List (Nat × Int)} (h : Noted kn kn.length 0 nds) : (nds.length : Int) = cnt kn 4 := by
  obtain ⟨nd, hm⟩ := h
  have part : ∀ l, l < 4 → (nds.filter (fun q => decide (q.1 = l))).length = (ded (kn.map (· / 32 ^ (l + 1)))).length := by
    intro l hl
    rw [← List.length_map (f := fun q : Nat × Int => q.2)]
    refine nd_len ?_ (ded_nd _) fun k => ?_
    · refine List.pairwise_map.mpr ((nd.filter _).imp_of_mem ?_)
      intro a b ha hb hab e
      have h1 : a.1 = l := of_decide_eq_true (List.mem_filter.mp ha).2
      have h2 : b.1 = l := of_decide_eq_true (List.mem_filter.mp hb).2
      exact hab (Prod.ext (h1.trans h2.symm) e)
    · rw [ded_mem, List.mem_map, List.mem_map]
      constructor
      · rintro ⟨q, hq, rfl⟩
        obtain ⟨hq1, hq2⟩ := List.mem_filter.mp hq
        have hq2 : q.1 = l := of_decide_eq_true hq2
        obtain ⟨_, j, hj, _, e⟩ := (hm q).mp hq1
        rw [hq2] at e
        refine ⟨kn[j], List.getElem_mem hj, ?_⟩
        rw [e, List.getD_eq_getElem?_getD, List.getElem?_eq_getElem hj]; rfl
      · rintro ⟨z, hz, rfl⟩
        obtain ⟨j, hj, rfl⟩ := List.mem_iff_getElem.mp hz
        refine ⟨(l, kn[j] / 32 ^ (l + 1)), List.mem_filter.mpr ⟨(hm _).mpr ⟨hl, j, hj, .inl hj, ?_⟩, decide_eq_true rfl⟩, rfl⟩
        rw [List.getD_eq_getElem?_getD, List.getElem?_eq_getElem hj]; rfl
  have := split4 nds fun q hq => ((hm q).mp hq).1
  rw [part 0 (by decide), part 1 (by decide), part 2 (by decide), part 3 (by decide)] at this
  simp only [cnt]
  omega
theorem noted_skip {kn : List Int} {i m : Nat} {nds : List (Nat × Int)} (h : Noted kn i m nds) (hi : i < kn.length) (hm4 : m < 4) (hin : (m, kn.getD i 0 / 32 ^ (m + 1)) ∈ nds) : Noted kn i (m + 1) nds := by
  refine ⟨h.1, fun q => (h.2 q).trans ?_⟩
  constructor
  · rintro ⟨a, j, b, c, d⟩
    refine ⟨a, j, b, ?_, d⟩
    rcases c with c | ⟨c1, c2⟩
    · exact .inl c
    · exact .inr ⟨c1, by omega⟩
  · rintro ⟨a, j, b, c, d⟩
    by_cases c' : j < i ∨ j = i ∧ q.1 < m
    · exact ⟨a, j, b, c', d⟩
    · obtain ⟨rfl, e⟩ : j = i ∧ q.1 = m := by omega
      have e2 : q = (m, kn.getD j 0 / 32 ^ (m + 1)) := Prod.ext e (by rw [d, e])
      rw [← e2] at hin
      exact (h.2 q).mp hin
theorem noted_add {kn : List Int} {i m : Nat} {nds : List (Nat × Int)} (h : Noted kn i m nds) (hi : i < kn.length) (hm4 : m < 4) (hin : (m, kn.getD i 0 / 32 ^ (m + 1)) ∉ nds) : Noted kn i (m + 1) (nds ++ [(m, kn.getD i 0 / 32 ^ (m + 1))]) := by
  refine ⟨List.nodup_append.mpr ⟨h.1, by simp, fun a ha b hb e => ?_⟩, fun q => ?_⟩
  · rw [List.mem_singleton] at hb
    rw [← hb, ← e] at hin; exact hin ha
  · rw [List.mem_append, List.mem_singleton, h.2 q]
    constructor
    · rintro (⟨a, j, b, c, d⟩ | rfl)
      · refine ⟨a, j, b, ?_, d⟩
        rcases c with c | ⟨c1, c2⟩
        · exact .inl c
        · exact .inr ⟨c1, by omega⟩
      · exact ⟨hm4, i, hi, .inr ⟨rfl, Nat.lt_succ_self _⟩, rfl⟩
    · rintro ⟨a, j, b, c, d⟩
      by_cases c' : j < i ∨ j = i ∧ q.1 < m
      · exact .inl ⟨a, j, b, c', d⟩
      · obtain ⟨rfl, e⟩ : j = i ∧ q.1 = m := by omega
        exact .inr (Prod.ext e (by rw [d, e]))
theorem noted_next {kn : List Int} {i : Nat} {nds : List (Nat × Int)} (h : Noted kn i 4 nds) : Noted kn (i + 1) 0 nds := by
  refine ⟨h.1, fun q => (h.2 q).trans ?_⟩
  constructor
  · rintro ⟨a, j, b, c, d⟩; exact ⟨a, j, b, .inl (by omega), d⟩
  · rintro ⟨a, j, b, c, d⟩; exact ⟨a, j, b, by omega, d⟩
theorem span_at (l : Nat) (h : l < 4) : atI [V.int 32, V.int 1024, V.int 32768, V.int 1048576] (l : Int) = some (V.int (32 ^ (l + 1))) := by
  have : l = 0 ∨ l = 1 ∨ l = 2 ∨ l = 3 := by omega
  rcases this with rfl | rfl | rfl | rfl <;> rfl
theorem rev_mem {kn : List Int} {k : Int} (n : Nat) : k ∈ kn.reverse ++ kn.take n ↔ k ∈ kn := by
  rw [List.mem_append, List.mem_reverse]
  exact ⟨fun h => h.elim id (fun z => List.mem_of_mem_take z), .inl⟩
def kRev (K : PySem.W.Frag) (Q : VK) : VK := fun x H1 => ∃ a xs, x = .ref a ∧ SqL K H1 a xs ∧ ∀ p, H1 p = none → Q (.ref p) (upd H1 p (.lst xs.reverse))
theorem i_rev {K : PySem.W.Frag} {σ : St} {H : Hp} {Q : VK} {te : TE} (h : te σ H (kRev K Q)) : tRevL K te σ H Q := h

section
variable {P : Program} {w : World} {K : PySem.W.Frag} {mg : Str → Option Value} {base : Heap} {a : Ad}
def sp_nodes_counted (K : PySem.W.Frag) : Sp := fun vs H Q _ => ∃ (p : Addr) (ns : List Int), vs = [.ref p] ∧ SqL K H p (ns.map V.int) ∧ ns.length ≤ 60 ∧ ∀ H', Same H H' → Q (.int (cnt ns 4)) H'
set_option maxHeartbeats 20000000 in
theorem ok_nodes_counted (T : Txt w K mg a) : FnOk P w K mg base CX0 1 a.f_nodes_counted a.d_nodes_counted ["keys"] (sp_nodes_counted K) := by
  refine T.F_nodes_counted.ok sc_nodes_counted (fun vs H Q E h => ?_) (fun cdv A outer s H vs Q E hr h => ?_)
  · obtain ⟨p, ns, rfl, hp, hl, q⟩ := h
    rfl
  · obtain ⟨p, ns, rfl, hp, hl, q⟩ := h
    refine ⟨_, (pss_cons (ps_set (i := 1) sc_nodes_counted.nd rfl (.inl rfl) pe_int)
        (pss_cons (ps_set (i := 2) sc_nodes_counted.nd rfl (.inl rfl) (pv 0))
        (pss_cons (ps_for PassesOwn.never rfl (pi_range1 (by rfl) T.z_range (pa_cons (pe_glob rfl T.c_LEVELS.1 T.c_LEVELS.2) pa_nil)) (pg_name (i := 3) sc_nodes_counted.nd rfl (.inl rfl)) (pss_cons (ps_set (i := 2) sc_nodes_counted.nd rfl (.inl rfl) (pe_callB (cr_sortedSet rfl) (by rfl) T.z_sorted (by decide +kernel) (pa_cons (pe_sci (own := [("number", 4)]) (g := gName 4) (tt := tYes) rfl sc_nodes_counted.nd (q_pil (K := K) (pv 2)) (blkOk_by (own := [("number", 4)]) (N := N_nodes_counted) (sc := defScope s_nodes_counted) (by decide +kernel)) (fun _ _ _ _ _ => pg_name (i := 4) sc_nodes_counted.nd rfl (Or.inl rfl)) (fun _ _ _ _ _ => pts_nil) (fun _ _ _ _ _ => (pe_op op_fdiv (pv 4) (pe_glob rfl T.c_CHILDREN.1 T.c_CHILDREN.2)))) pa_nil)))
        (pss_one (ps_aug (i := 1) sc_nodes_counted.nd rfl (.inl rfl) (pe_callB (q_len (K := K)) (by rfl) T.z_len (by decide +kernel) (pa_cons (pv 2) pa_nil)) ip_add))))
        (pss_one (ps_ret (pv 1)))))), ?_⟩
    refine i_st (σ' := [some (.ref p), none, none, none, none]) rfl ?_
    walk_at "go"
    refine i_forR0 (fun i σ H' => ∃ (r : Addr) (us : List Int) (y3 : Option V), σ = [some (.ref p), some (.int (cnt ns i)), some (.ref r), y3, none] ∧ Same H H' ∧ SqL K H' r (us.map V.int) ∧ us.length ≤ 60 ∧ ∀ k, k ∈ us ↔ k ∈ ns.map (· / 32 ^ i)) ⟨p, ns, none, rfl, Same.refl H, hp, hl, fun k => by simp⟩ ?_ ?_
    · rintro i σ H1 hi ⟨r, us, y3, rfl, sm, hrs, hul, hmem⟩
      walk_at "go"
      refine i_sciL (us.map V.int) (fun D j G => ∃ (S : Int → Bool) (n : Nat), Same H1 G ∧ G D = some (SetO w D S n) ∧ n ≤ j ∧ ∀ k, S k = true ↔ k ∈ (us.take j).map (· / 32)) ?_ ?_ ?_ ?_
      · exact fun D hD => ⟨_, 0, same_upd hD, upd_same, Nat.le_refl _, fun k => by simp⟩
      · rintro D j G hD _ ⟨S, n, sm2, _⟩
        exact sm2.seq hrs
      · rintro D j x G hD hx ⟨S, n, sm2, hO, hn, hm⟩
        obtain ⟨u, hu, rfl⟩ := map_at hx
        have hj : j < us.length := lt_of_get hu
        walk_at "go"
        refine i_scN hO (by unfold scanBound; omega) ⟨_, _, same_wr hD sm2, upd_same, by split <;> omega, fun k => ?_⟩
        rw [Bool.or_eq_true, decide_eq_true_eq, hm k, List.take_add_one, hu, List.map_append, List.mem_append]
        simp
      · rintro D G hD ⟨S, n, sm2, hO, hn, hm⟩
        rw [List.length_map] at hn hm
        rw [List.take_length] at hm
        walk_at "go"
        refine i_sortedSet hO (by omega) fun ms t pw hms hml nt => ?_
        walk_at "go"
        have hmem2 : ∀ k, k ∈ ms ↔ k ∈ ns.map (· / 32 ^ (i + 1)) := fun k => by
          rw [hms, hm, map_congr hmem k, List.map_map, List.mem_map, List.mem_map]
          exact ⟨fun ⟨z, a, b⟩ => ⟨z, a, by rw [← b]; exact (div_next z i).symm⟩, fun ⟨z, a, b⟩ => ⟨z, a, by rw [← b]; exact div_next z i⟩⟩
        have ec : cnt ns (i + 1) = cnt ns i + (ms.map V.int).length := by
          rw [cnt, List.length_map, nd_len (ded_nd _) (pw_nd pw) fun k => by rw [ded_mem, hmem2 k]]
        refine ⟨t, ms, _, by rw [ec], Same.trans sm (Same.trans sm2 (same_upd nt)), SqL.of upd_same, by omega, hmem2⟩
    · rintro σ H1 ⟨r, us, y3, rfl, sm, _⟩
      walk_at "go"
      exact q H1 sm
def sp_pages_counted (K : PySem.W.Frag) : Sp := fun vs H Q _ => ∃ (p : Addr) (ns : List Int), vs = [.ref p] ∧ SqL K H p (ns.map V.int) ∧ ns.length ≤ 60 ∧ ∀ H', Same H H' → Q (.int ((ded ns).length + 2 * cnt ns 4)) H'
set_option maxHeartbeats 20000000 in
theorem ok_pages_counted (T : Txt w K mg a) : FnOk P w K mg base CX0 2 a.f_pages_counted a.d_pages_counted ["keys"] (sp_pages_counted K) := by
  refine T.F_pages_counted.ok sc_pages_counted (fun vs H Q E h => ?_) (fun cdv A outer s H vs Q E hr h => ?_)
  · obtain ⟨p, ns, rfl, hp, hl, q⟩ := h
    rfl
  · obtain ⟨p, ns, rfl, hp, hl, q⟩ := h
    refine ⟨_, (pss_one (ps_ret (pe_op op_add (pe_lenSetA (by rfl) T.z_len (by rfl) T.z_set (pv 0)) (pe_op op_mul pe_int (pe_call (ok_nodes_counted (K := K) T) (hr.mono (by decide)) (by rfl) T.g_nodes_counted T.F_nodes_counted.kp T.b_nodes_counted .nil pass0 (pa_cons (pv 0) pa_nil)))))), ?_⟩
    refine i_st (σ' := [some (.ref p)]) rfl ?_
    walk_at "go"
    refine i_kLenSet hp (by omega) ?_
    walk_at "go"
    refine ⟨p, ns, rfl, hp, hl, fun H1 sm => ?_⟩
    walk_at "go"
    exact q H1 sm
def sp__law_draws (K : PySem.W.Frag) : Sp := fun vs H Q _ => ∃ (b : Addr) (ns : List Int) (n : Int), vs = [.ref b, .int n] ∧ SqL K H b (ns.map V.int) ∧ 0 ≤ n ∧ n ≤ 63 ∧
  ∀ H' p (ds : List Int), Same H H' → H p = none → H' p = some (.lst (ds.map V.int)) → ds.length = n.toNat → (∀ d ∈ ds, 0 ≤ d) → Q (.ref p) H'
set_option maxHeartbeats 20000000 in
theorem ok__law_draws (T : Txt w K mg a) : FnOk P w K mg base CX0 1 a.f__law_draws a.d__law_draws ["script", "count"] (sp__law_draws K) := by
  refine T.F__law_draws.ok sc__law_draws (fun vs H Q E h => ?_) (fun cdv A outer s H vs Q E hr h => ?_)
  · obtain ⟨b, ns, n, rfl, hS, n0, n1, q⟩ := h
    rfl
  · obtain ⟨b, ns, n, rfl, hS, n0, n1, q⟩ := h
    refine ⟨_, (pss_cons (ps_set (i := 2) sc__law_draws.nd rfl (.inl rfl) (pe_lst pa_nil))
        (pss_cons (ps_for PassesOwn.never rfl (pi_range1 (by rfl) T.z_range (pa_cons (pv 1) pa_nil)) (pg_name (i := 3) sc__law_draws.nd rfl (.inl rfl)) (pss_cons (ps_set (i := 4) sc__law_draws.nd rfl (.inl rfl) pe_int)
        (C8.pss_cut (ps_if (pt_cmpR op_gt (pe_callB (q_len (K := K)) (by rfl) T.z_len (by decide +kernel) (pa_cons (pv 0) pa_nil)) pe_int (nomark _)) (pss_one (ps_set (i := 4) sc__law_draws.nd rfl (.inl rfl) (pe_callTy c_int (by rfl) T.z_int (by decide +kernel) (pa_cons (pe_ix (q_ixl (K := K)) (pv 0) (pe_op op_mod (pv 3) (pe_callB (q_len (K := K)) (by rfl) T.z_len (by decide +kernel) (pa_cons (pv 0) pa_nil))) (fun _ _ => rfl)) pa_nil)))) pss_nil)
        (C8.pss_cut (ps_if (pt_cmpR op_lt (pv 4) pe_int (nomark _)) (pss_one (ps_set (i := 4) sc__law_draws.nd rfl (.inl rfl) (pe_op op_sub pe_int (pe_op op_mul pe_int (pv 4))))) pss_nil)
        (C8.pss_cut (ps_if (PW.pt (pw_or (pt_cmpR op_lt (pv 4) pe_int (nomark _)) (pw_or1 (pt_cmpR op_ge (pv 3) (pe_callB (q_len (K := K)) (by rfl) T.z_len (by decide +kernel) (pa_cons (pv 0) pa_nil)) (nomark _))))) (pss_cons (ps_set (i := 4) sc__law_draws.nd rfl (.inl rfl) (pe_op op_mod (pe_callTy c_int (by rfl) T.z_int (by decide +kernel) (pa_cons (pe_op op_add (pe_op op_mul (pv 4) pe_int) (pe_op op_mul pe_int (pe_op op_add (pv 3) pe_int))) pa_nil)) pe_int))
        (pss_one (ps_set (i := 4) sc__law_draws.nd rfl (.inl rfl) (pe_op op_mod (pe_callTy c_int (by rfl) T.z_int (by decide +kernel) (pa_cons (pe_op op_add (pe_op op_add (pe_op op_mul (pv 4) pe_int) pe_int) (pv 3)) pa_nil)) pe_int)))) pss_nil)
        (pss_one (ps_expr (pe_bm PySem.F.plainAttrs_list PySem.F.slot_list_append PySem.F.type_list_append mt_append (pv 2) (pa_cons (pv 4) pa_nil)))))))))
        (pss_one (ps_ret (pv 2))))), ?_⟩
    refine i_st (σ' := [some (.ref b), some (.int n), none, none, none]) rfl ?_
    walk_at "go"
    refine i_kLst (Nat.zero_le _) fun p hp => ?_
    walk_at "go"
    refine i_forR0 (fun i σ H1 => ∃ (ds : List Int) (y3 y4 : Option V), σ = [some (.ref b), some (.int n), some (.ref p), y3, y4] ∧ Same H H1 ∧ H1 p = some (.lst (ds.map V.int)) ∧ ds.length = i ∧ ∀ d ∈ ds, 0 ≤ d)
      ⟨[], none, none, rfl, same_upd hp, upd_same, rfl, by simp⟩ ?_ ?_
    · rintro i σ H1 hi ⟨ds, y3, y4, rfl, sm, hP, hl, h0⟩
      have hS1 : SqL K H1 b (ns.map V.int) := sm.seq hS
      have hlen : ((ns.map V.int).length : Int) = ns.length := by rw [List.length_map]
      walk_at "go"
      refine i_cut (fun σ' H' => H' = H1 ∧ ∃ c : Int, σ' = [some (.ref b), some (.int n), some (.ref p), some (.int i), some (.int c)]) ?_ ?_
      · walk_at "go"
        refine i_kIfd (fun h => ?_) (fun h => ?_)
        · walk_at "go"
          rw [hlen] at h
          have hlt := Int.emod_lt_of_pos (i : Int) h
          have hge := Int.emod_nonneg (i : Int) (Int.ne_of_gt h)
          rw [hlen]
          refine i_ixL hS1 (atI_map V.int ns _ 0 hge hlt) ?_
          walk_at "go"
          exact ⟨rfl, _, rfl⟩
        · walk_at "go"
          exact ⟨rfl, _, rfl⟩
      rintro σ2 H2 ⟨rfl, c, rfl⟩
      refine i_cut (fun σ' H' => H' = H2 ∧ ∃ c : Int, 0 ≤ c ∧ σ' = [some (.ref b), some (.int n), some (.ref p), some (.int i), some (.int c)]) ?_ ?_
      · walk_at "go"
        refine i_kIfd (fun h => ?_) (fun h => ?_)
        · walk_at "go"
          exact ⟨rfl, _, by omega, rfl⟩
        · walk_at "go"
          exact ⟨rfl, _, by omega, rfl⟩
      rintro σ3 H3 ⟨rfl, c2, hc2, rfl⟩
      refine i_cut (fun σ' H' => H' = H3 ∧ ∃ c : Int, 0 ≤ c ∧ σ' = [some (.ref b), some (.int n), some (.ref p), some (.int i), some (.int c)]) ?_ ?_
      · walk_at "go"
        refine i_kOr (fun _ => ?_) (fun _ => ?_)
        · walk_at "go"
          exact ⟨rfl, _, Int.emod_nonneg _ (by decide), rfl⟩
        · walk_at "go"
          refine i_kIfd (fun h => ?_) (fun h => ?_)
          · walk_at "go"
            exact ⟨rfl, _, Int.emod_nonneg _ (by decide), rfl⟩
          · walk_at "go"
            exact ⟨rfl, _, hc2, rfl⟩
      rintro σ4 H4 ⟨rfl, c3, hc3, rfl⟩
      walk_at "go"
      refine i_append hP (small1000 (by rw [List.length_map]; omega)) ?_
      walk_at "go"
      refine ⟨ds ++ [c3], _, _, rfl, fun x o e => upd_get (ne_of_none e hp) (sm x o e), by rw [upd_same, List.map_append]; rfl, by rw [List.length_append, hl]; rfl, fun d hd => ?_⟩
      rcases List.mem_append.mp hd with hd | hd
      · exact h0 d hd
      · rw [List.mem_singleton.mp hd]; exact hc3
    · rintro σ H1 ⟨ds, y3, y4, rfl, sm, hP, hl, h0⟩
      walk_at "go"
      exact q H1 p ds sm hp hP hl h0
def sp__law_key (K : PySem.W.Frag) : Sp := fun vs H Q _ => ∃ d : Int, vs = [.int d] ∧ 0 ≤ d ∧ ∀ k : Int, Q (.int k) H
set_option maxHeartbeats 20000000 in
theorem ok__law_key (T : Txt w K mg a) : FnOk P w K mg base CX0 1 a.f__law_key a.d__law_key ["draw"] (sp__law_key K) := by
  refine T.F__law_key.ok sc__law_key (fun vs H Q E h => ?_) (fun cdv A outer s H vs Q E hr h => ?_)
  · obtain ⟨d, rfl, d0, q⟩ := h
    rfl
  · obtain ⟨d, rfl, d0, q⟩ := h
    refine ⟨_, (pss_cons (ps_if (pt_cmpR op_eq (pe_op op_mod (pv 0) pe_int) pe_int (nomark _)) (pss_one (ps_ret (pe_op op_sub pe_int (pe_op op_mod (pe_op op_fdiv (pv 0) pe_int) pe_int)))) pss_nil)
        (pss_one (ps_ret (pe_op op_add (pe_op op_add (pe_op op_add (pe_op op_mod (pv 0) pe_int) (pe_op op_mul pe_int (pe_op op_mod (pe_op op_fdiv (pv 0) pe_int) pe_int))) (pe_op op_mul pe_int (pe_op op_mod (pe_op op_fdiv (pv 0) pe_int) pe_int))) (pe_op op_mul pe_int (pe_op op_mod (pe_op op_fdiv (pv 0) pe_int) pe_int)))))), ?_⟩
    refine i_st (σ' := [some (.int d)]) rfl ?_
    walk_at "go"
    refine i_kIfd (fun h => ?_) (fun h => ?_)
    · walk_at "go"
      exact q _
    · walk_at "go"
      exact q _
def sp__law_span (K : PySem.W.Frag) : Sp := fun vs H Q _ => ∃ l : Nat, vs = [.int l] ∧ l < 4 ∧ ∀ H', Same H H' → Q (.int (32 ^ (l + 1))) H'
set_option maxHeartbeats 20000000 in
theorem ok__law_span (T : Txt w K mg a) : FnOk P w K mg base CX0 1 a.f__law_span a.d__law_span ["level"] (sp__law_span K) := by
  refine T.F__law_span.ok sc__law_span (fun vs H Q E h => ?_) (fun cdv A outer s H vs Q E hr h => ?_)
  · obtain ⟨l, rfl, hl, q⟩ := h
    rfl
  · obtain ⟨l, rfl, hl, q⟩ := h
    refine ⟨_, (pss_one (ps_ret (pe_ix (q_ixt (K := K)) (pe_tup (pa_cons pe_int (pa_cons pe_int (pa_cons pe_int (pa_cons pe_int pa_nil))))) (pv 0) (fun _ _ => rfl)))), ?_⟩
    refine i_st (σ' := [some (.int l)]) rfl ?_
    walk_at "go"
    refine a_tup (sz (by simp)) fun t H1 sm nt ht => ?_
    walk_at "go"
    refine i_ixT (SqT.of ht) (span_at l hl) ?_
    exact q H1 sm
def sp_law (K : PySem.W.Frag) : Sp := fun vs H Q _ => ∃ (b : Addr) (ns : List Int), vs = [.ref b] ∧ SqL K H b (ns.map V.int) ∧ ns.length ≤ 63 ∧ ∀ H', Q (.bl true) H'
theorem law_start {K : PySem.W.Frag} {H : Hp} {b : Addr} {ns : List Int} (hl : ns.length ≤ 63) (hO : Only H) (hS : SqL K H b (ns.map V.int)) : sp_law K [.ref b] H (fun v _ => v = .bl true) (fun _ _ _ => False) := ⟨b, ns, rfl, hS, hl, fun _ => rfl⟩
set_option maxHeartbeats 20000000 in
theorem ok_law (T : Txt w K mg a) : FnOk P w K mg base CX0 3 a.f_law a.d_law ["script"] (sp_law K) := by
  refine T.F_law.ok sc_law (fun vs H Q E h => ?_) (fun cdv A outer s H vs Q E hr h => ?_)
  · obtain ⟨b, ns, rfl, hS, hlen, q⟩ := h
    rfl
  · obtain ⟨b, ns, rfl, hS, hlen, q⟩ := h
    refine ⟨_, (pss_cons (ps_set (i := 1) sc_law.nd rfl (.inl rfl) (pe_call (ok__law_draws (K := K) T) (hr.mono (by decide)) (by rfl) T.g__law_draws T.F__law_draws.kp T.b__law_draws .nil pass0 (pa_cons (pv 0) (pa_cons pe_int pa_nil))))
        (pss_cons (ps_setLc (i := 2) (own := [("draw", 7)]) (g := gName 7) (tt := tYes) rfl sc_law.nd rfl rfl (sw_true rfl rfl rfl (by decide +kernel)) (q_pil (K := K) (pe_slice (q_sll (K := K)) (pv 1) po_none (po_some (pe_op op_mod (pe_ix (q_ixl (K := K)) (pv 1) pe_int (fun _ _ => rfl)) pe_int)))) (blkOk_by (own := [("draw", 7)]) (N := N_law) (sc := defScope s_law) (by decide +kernel)) (fun _ _ _ _ _ => pg_name (i := 7) sc_law.nd rfl (Or.inl rfl)) (fun _ _ _ _ _ => pts_nil) (fun _ _ _ _ _ => (pe_call (ok__law_key (K := K) T) (hr.mono (by decide)) (by rfl) T.g__law_key T.F__law_key.kp T.b__law_key .nil pass0 (pa_cons (pv 7) pa_nil))))
        (pss_cons (ps_set (i := 3) sc_law.nd rfl (.inl rfl) (pe_lst pa_nil))
        (pss_cons (ps_set (i := 4) sc_law.nd rfl (.inl rfl) (pe_lst pa_nil))
        (pss_cons (ps_for PassesOwn.never rfl (q_pil (K := K) (pv 2)) (pg_name (i := 5) sc_law.nd rfl (.inl rfl)) (C8.pss_cut (ps_if (pt_cmpR (op_notInD (hu65 hr)) (pv 5) (pv 3) (by rfl)) (pss_one (ps_expr (pe_bm PySem.F.plainAttrs_list PySem.F.slot_list_append PySem.F.type_list_append mt_append (pv 3) (pa_cons (pv 5) pa_nil)))) pss_nil)
        (pss_one (ps_for PassesOwn.never rfl (pi_range1 (by rfl) T.z_range (pa_cons pe_int pa_nil)) (pg_name (i := 6) sc_law.nd rfl (.inl rfl)) (pss_one (ps_if (pt_cmpR (op_notInD (hu65 hr)) (pe_tup (pa_cons (pv 6) (pa_cons (pe_op op_fdiv (pv 5) (pe_call (ok__law_span (K := K) T) (hr.mono (by decide)) (by rfl) T.g__law_span T.F__law_span.kp T.b__law_span .nil pass0 (pa_cons (pv 6) pa_nil))) pa_nil))) (pv 4) (by rfl)) (pss_one (ps_expr (pe_bm PySem.F.plainAttrs_list PySem.F.slot_list_append PySem.F.type_list_append mt_append (pv 4) (pa_cons (pe_tup (pa_cons (pv 6) (pa_cons (pe_op op_fdiv (pv 5) (pe_call (ok__law_span (K := K) T) (hr.mono (by decide)) (by rfl) T.g__law_span T.F__law_span.kp T.b__law_span .nil pass0 (pa_cons (pv 6) pa_nil))) pa_nil))) pa_nil)))) pss_nil))))))
        (pss_cons (ps_if (PW.pt (pw_or (pt_cmpR op_ne (pe_call (ok_nodes_counted (K := K) T) (hr.mono (by decide)) (by rfl) T.g_nodes_counted T.F_nodes_counted.kp T.b_nodes_counted .nil pass0 (pa_cons (pv 2) pa_nil)) (pe_callB (q_len (K := K)) (by rfl) T.z_len (by decide +kernel) (pa_cons (pv 4) pa_nil)) (nomark _)) (pw_or1 (pt_cmpR op_ne (pe_call (ok_pages_counted (K := K) T) (hr.mono (by decide)) (by rfl) T.g_pages_counted T.F_pages_counted.kp T.b_pages_counted .nil pass0 (pa_cons (pv 2) pa_nil)) (pe_op op_add (pe_callB (q_len (K := K)) (by rfl) T.z_len (by decide +kernel) (pa_cons (pv 3) pa_nil)) (pe_op op_mul pe_int (pe_callB (q_len (K := K)) (by rfl) T.z_len (by decide +kernel) (pa_cons (pv 4) pa_nil)))) (nomark _))))) (pss_one (ps_ret pe_bl)) pss_nil)
        (pss_one (ps_ret (pe_cmpR op_eq (pe_call (ok_pages_counted (K := K) T) (hr.mono (by decide)) (by rfl) T.g_pages_counted T.F_pages_counted.kp T.b_pages_counted .nil pass0 (pa_cons (pe_op op_cat (pe_revL (pv 2)) (pe_slice (q_sll (K := K)) (pv 2) po_none (po_some pe_int))) pa_nil)) (pe_call (ok_pages_counted (K := K) T) (hr.mono (by decide)) (by rfl) T.g_pages_counted T.F_pages_counted.kp T.b_pages_counted .nil pass0 (pa_cons (pv 2) pa_nil)) (nomark _)))))))))), ?_⟩
    refine i_st (σ' := [some (.ref b), none, none, none, none, none, none, none]) rfl ?_
    walk_at "go"
    refine ⟨b, ns, 21, rfl, hS, by decide, by decide, fun H1 p ds sm np hp hl hd => ?_⟩
    have hl : ds.length = 21 := hl
    have hpS : SqL K H1 p (ds.map V.int) := SqL.of hp
    walk_at "go"
    obtain ⟨m, hm, hm2⟩ : ∃ m : Nat, ds.getD 20 0 % 21 = (m : Int) ∧ m < 21 := ⟨(ds.getD 20 0 % 21).toNat, by omega, by omega⟩
    rw [hm]
    refine i_slT m hpS fun p2 np2 => ?_
    have sm2 : Same H1 (upd H1 p2 (.lst ((ds.take m).map V.int))) := same_upd np2
    have hp2 : SqL K (upd H1 p2 (.lst ((ds.take m).map V.int))) p2 ((ds.take m).map V.int) := SqL.of upd_same
    generalize upd H1 p2 (.lst ((ds.take m).map V.int)) = H2 at sm2 hp2 ⊢
    walk_at "go"
    refine i_lcL ((ds.take m).map V.int) (fun D i G => ∃ kn : List Int, Same H2 G ∧ G D = some (.lst (kn.map V.int)) ∧ kn.length = i) ?_ ?_ ?_ ?_
    · exact fun D hD => ⟨[], same_upd hD, upd_same, rfl⟩
    · rintro D i G hD _ ⟨kn, smG, _⟩
      exact smG.seq hp2
    · rintro D i x G hD hx ⟨kn, smG, hO, hkl⟩
      obtain ⟨u, hu, rfl⟩ := map_at hx
      have hi := lt_of_get hu
      rw [List.length_take] at hi
      walk_at "go"
      refine ⟨u, rfl, hd u (List.mem_of_mem_take (List.mem_of_getElem? hu)), fun k => ?_⟩
      refine i_kLc3 hO (small1000 (by rw [List.length_map]; omega)) ⟨kn ++ [k], same_wr hD smG, by rw [upd_same, List.map_append]; rfl, by rw [List.length_append, hkl]; rfl⟩
    rintro D H3 hD ⟨kn, sm3, hO, hkl⟩
    have hkl : kn.length ≤ 20 := by rw [List.length_map, List.length_take] at hkl; omega
    have hkS : SqL K H3 D (kn.map V.int) := SqL.of hO
    walk_at "go"
    refine a_lst (Nat.zero_le _) fun s H4 sm4 ns4 hs4 => ?_
    walk_at "go"
    refine a_lst (Nat.zero_le _) fun t H5 sm5 nt5 ht5 => ?_
    walk_at "go"
    have nst : t ≠ s := fun e => by rw [e] at nt5; rw [nt5] at hs4; cases hs4
    have n3t : H3 t = none := Same.free sm4 nt5
    refine i_forL (kn.map V.int) (fun i σ H' => ∃ (us : List V) (nds : List (Nat × Int)) (y5 y6 : Option V), σ = [some (.ref b), some (.ref p), some (.ref D), some (.ref s), some (.ref t), y5, y6, none] ∧ Same H3 H' ∧ H' s = some (.lst ((PyProof.Rows.firstMet (fun i => kn.getD i 0) i).map V.int)) ∧ H' t = some (.lst us) ∧ DpAll K H' us (nds.map dN) ∧ nds.length ≤ 4 * i ∧ Noted kn i 0 nds) ?_ ?_ ?_ ?_
    · exact ⟨[], [], none, none, rfl, Same.trans sm4 sm5, sm5 _ _ hs4, ht5, .nil, by simp, by simp, fun q => by simp⟩
    · rintro i σ H' _ ⟨us, nds, y5, y6, rfl, sm', _⟩
      exact sm'.seq hkS
    · rintro i x σ H6 hx ⟨us, nds, y5, y6, rfl, sm6, hs6, ht6, hd6, hn6, nt6⟩
      obtain ⟨key, hk, rfl⟩ := map_at hx
      have hi := lt_of_get hk
      have ek : kn.getD i 0 = key := by rw [List.getD_eq_getElem?_getD, hk]; rfl
      walk_at "go"
      have hfl := PyProof.Rows.firstMet_length_le (fun i => kn.getD i 0) i
      refine i_cut (fun σ' H' => σ' = [some (.ref b), some (.ref p), some (.ref D), some (.ref s), some (.ref t), some (.int key), y6, none] ∧ Same H3 H' ∧ H' s = some (.lst ((PyProof.Rows.firstMet (fun i => kn.getD i 0) (i + 1)).map V.int)) ∧ H' t = some (.lst us) ∧ DpAll K H' us (nds.map dN)) ?_ ?_
      · walk_at "go"
        have ha : (((PyProof.Rows.firstMet (fun i => kn.getD i 0) i).map PyData.int).any fun z => PyData.eqv z (.int key)) = (PyProof.Rows.firstMet (fun i => kn.getD i 0) i).any (· == key) := by
          rw [List.any_map]
          refine congrArg (fun f => List.any _ f) (funext fun z => ?_)
          show PyData.eqv (.int z) (.int key) = (z == key)
          rw [PyData.eqv]
        refine ⟨.int key, _, .int key, dp_ints (SqL.of hs6), rfl, shaped_ints _, ?_⟩
        rw [ha]
        have ef : PyProof.Rows.firstMet (fun i => kn.getD i 0) (i + 1) = if (PyProof.Rows.firstMet (fun i => kn.getD i 0) i).any (· == key) then PyProof.Rows.firstMet (fun i => kn.getD i 0) i else PyProof.Rows.firstMet (fun i => kn.getD i 0) i ++ [key] := by
          rw [PyProof.Rows.firstMet_succ, ek]; rfl
        cases hb : (PyProof.Rows.firstMet (fun i => kn.getD i 0) i).any (· == key)
        · rw [hb] at ef
          rw [Bool.not_false]
          walk_at "go"
          refine i_append hs6 (small1000 (by rw [List.length_map]; omega)) ?_
          walk_at "go"
          refine ⟨rfl, same_wr (ns4) sm6, ?_, upd_get nst ht6, noLs_upd hs6 _ _ (noLs_map noL_N nds) hd6⟩
          rw [upd_same, ef]; simp
        · rw [hb] at ef
          rw [Bool.not_true]
          walk_at "go"
          exact ⟨rfl, sm6, by rw [ef]; exact hs6, ht6, hd6⟩
      rintro σ7 H7 ⟨rfl, sm7, hs7, ht7, hd7⟩
      walk_at "go"
      refine i_forR0 (fun l σ H' => ∃ (us : List V) (nds : List (Nat × Int)) (y6 : Option V), σ = [some (.ref b), some (.ref p), some (.ref D), some (.ref s), some (.ref t), some (.int key), y6, none] ∧ Same H3 H' ∧ H' s = some (.lst ((PyProof.Rows.firstMet (fun i => kn.getD i 0) (i + 1)).map V.int)) ∧ H' t = some (.lst us) ∧ DpAll K H' us (nds.map dN) ∧ nds.length ≤ 4 * i + l ∧ Noted kn i l nds) ⟨us, nds, y6, rfl, sm7, hs7, ht7, hd7, by omega, nt6⟩ ?_ ?_
      · rintro l σ H8 hl4 ⟨us8, nds8, y8, rfl, sm8, hs8, ht8, hd8, hn8, nt8⟩
        have hl4 : l < 4 := hl4
        have hi20 : i < kn.length := hi
        have hus := dpAll_len hd8
        rw [List.length_map] at hus
        walk_at "go"
        refine ⟨l, rfl, hl4, fun H9 sm9 => ?_⟩
        have pw : (32 : Int) ^ (l + 1) = 32 ∨ (32 : Int) ^ (l + 1) = 1024 ∨ (32 : Int) ^ (l + 1) = 32768 ∨ (32 : Int) ^ (l + 1) = 1048576 := by
          have : l = 0 ∨ l = 1 ∨ l = 2 ∨ l = 3 := by omega
          rcases this with rfl | rfl | rfl | rfl <;> simp
        generalize hpw : (32 : Int) ^ (l + 1) = w32 at pw ⊢
        walk_at "go"
        refine a_tup (sz (by simp)) fun r H10 sm10 nr hr10 => ?_
        walk_at "go"
        have sm8x : Same H8 H10 := Same.trans sm9 sm10
        have hd10 := dpAll_same sm8x _ _ hd8
        have ht10 := sm8x _ _ ht8
        refine ⟨dN (l, key / w32), nds8.map dN, .tup (SqT.of hr10) (.cons (.int _) (.cons (.int _) .nil)), .lst (SqL.of ht10) hd10, shaped_N _, shaped_Ns _, ?_⟩
        rw [any_N]
        walk_at "go"
        refine i_kIfd (fun hin => ?_) (fun hin => ?_)
        · walk_at "go"
          refine ⟨us8, nds8, _, rfl, Same.trans sm8 sm8x, sm8x _ _ hs8, ht10, hd10, by omega, noted_skip nt8 hi20 hl4 ?_⟩
          rw [ek, hpw]; exact hin
        · walk_at "go"
          refine ⟨l, rfl, hl4, fun H11 sm11 => ?_⟩
          rw [hpw]
          walk_at "go"
          refine a_tup (sz (by simp)) fun r2 H12 sm12 nr2 hr12 => ?_
          walk_at "go"
          have sm10x : Same H10 H12 := Same.trans sm11 sm12
          have ht12 := sm10x _ _ ht10
          refine i_append ht12 (small1000 (by rw [hus]; omega)) ?_
          walk_at "go"
          have hd12 := dpAll_same sm10x _ _ hd10
          refine ⟨us8 ++ [.ref r2], nds8 ++ [(l, kn.getD i 0 / 32 ^ (l + 1))], _, rfl, same_wr n3t (Same.trans sm8 (Same.trans sm8x sm10x)), upd_get (fun e => nst e.symm) (sm10x _ _ (sm8x _ _ hs8)), upd_same, ?_, by rw [List.length_append]; simp; omega, noted_add nt8 hi20 hl4 ?_⟩
          · rw [List.map_append]
            refine noLs_upd ht12 _ _ (noLs_append _ _ (noLs_map noL_N _) rfl) (dpAll_snoc hd12 ?_)
            rw [ek, hpw]
            exact .tup (SqT.of hr12) (.cons (.int _) (.cons (.int _) .nil))
          · rw [ek, hpw]; exact hin
      · rintro σ H8 ⟨us8, nds8, y8, rfl, sm8, hs8, ht8, hd8, hn8, nt8⟩
        have hn8 : nds8.length ≤ 4 * i + 4 := hn8
        exact ⟨us8, nds8, _, _, rfl, sm8, hs8, ht8, hd8, by omega, noted_next nt8⟩
    rintro σ H6 ⟨us, nds, y5, y6, rfl, sm6, hs6, ht6, hd6, hn6, nt6⟩
    have ek : (kn.map V.int).length = kn.length := List.length_map _
    rw [ek] at hs6 nt6
    have hus := dpAll_len hd6
    rw [List.length_map] at hus
    have hnl := noted_len nt6
    have hk6 := sm6.seq hkS
    walk_at "go"
    refine ⟨D, kn, rfl, hk6, by omega, fun H7 sm7 => ?_⟩
    have hk7 := sm7.seq hk6
    have ht7 : SqL K H7 t us := SqL.of (sm7 _ _ ht6)
    have hs7 : SqL K H7 s ((ded kn).map V.int) := SqL.of (sm7 _ _ hs6)
    walk_at "go"
    rw [hus, ← hnl, decide_eq_true (rfl : (nds.length : Int) = nds.length), Bool.not_true]
    walk_at "go"
    refine ⟨D, kn, rfl, hk7, by omega, fun H8 sm8 => ?_⟩
    have hk8 := sm8.seq hk7
    have ht8 := sm8.seq ht7
    have hs8 := sm8.seq hs7
    walk_at "go"
    rw [hus, ← hnl, List.length_map, decide_eq_true (rfl : ((ded kn).length : Int) + 2 * (nds.length : Int) = (ded kn).length + 2 * nds.length)]
    walk_at "go"
    refine i_rev ?_
    walk_at "go"
    refine ⟨D, kn.map V.int, rfl, hk8, fun r nr => ?_⟩
    rw [← List.map_reverse]
    have sm9 : Same H8 (upd H8 r (.lst (kn.reverse.map V.int))) := same_upd nr
    have hr9 : (upd H8 r (.lst (kn.reverse.map V.int))) r = some (.lst (kn.reverse.map V.int)) := upd_same
    generalize upd H8 r (.lst (kn.reverse.map V.int)) = H9 at sm9 hr9 ⊢
    have hk9 := sm9.seq hk8
    walk_at "go"
    refine i_slT 2 hk9 fun r2 nr2 => ?_
    have sm10 : Same H9 (upd H9 r2 (.lst ((kn.take 2).map V.int))) := same_upd nr2
    have hr10 : (upd H9 r2 (.lst ((kn.take 2).map V.int))) r2 = some (.lst ((kn.take 2).map V.int)) := upd_same
    generalize upd H9 r2 (.lst ((kn.take 2).map V.int)) = H10 at sm10 hr10 ⊢
    walk_at "go"
    refine a_cat (sm10 _ _ hr9) hr10 (by rw [List.length_reverse, List.length_take]; omega) fun r3 H11 sm11 nr3 hr11 => ?_
    walk_at "go"
    refine ⟨r3, kn.reverse ++ kn.take 2, rfl, SqL.of hr11, by rw [List.length_append, List.length_reverse, List.length_take]; omega, fun H12 sm12 => ?_⟩
    have hk12 := sm12.seq (sm11.seq (sm10.seq hk9))
    walk_at "go"
    refine ⟨D, kn, rfl, hk12, by omega, fun H13 sm13 => ?_⟩
    walk_at "go"
    rw [ded_congr (fun k => rev_mem 2 (kn := kn) (k := k)), cnt_congr (fun k => rev_mem 2 (kn := kn) (k := k)), decide_eq_true (rfl : ((ded kn).length : Int) + 2 * cnt kn 4 = (ded kn).length + 2 * cnt kn 4)]
    exact q _
end
/-! ### what the top has left -/
theorem all_facts {w : World} {K : PySem.W.Frag} {h : Heap} {mg : Str → Option Value} {fa : Addr} (X : K.In h) (G : h.Ns mainGlobals mg) (hfa : mg "law" = some (.ref fa))
    {od0 an0 : Option Addr} {sl0 : Array (Option Value)} {oc0 kV0 dc0 pm0 cd0 ct0 : Value} {f0 : Addr}
    {od1 an1 : Option Addr} {sl1 : Array (Option Value)} {oc1 kV1 dc1 pm1 cd1 ct1 : Value} {f1 : Addr}
    {od2 an2 : Option Addr} {sl2 : Array (Option Value)} {oc2 kV2 dc2 pm2 cd2 ct2 : Value} {f2 : Addr}
    {od3 an3 : Option Addr} {sl3 : Array (Option Value)} {oc3 kV3 dc3 pm3 cd3 ct3 : Value} {f3 : Addr}
    {od4 an4 : Option Addr} {sl4 : Array (Option Value)} {oc4 kV4 dc4 pm4 cd4 ct4 : Value} {f4 : Addr}
    {od5 an5 : Option Addr} {sl5 : Array (Option Value)} {oc5 kV5 dc5 pm5 cd5 ct5 : Value} {f5 : Addr}
    {u_LEVELS : Value}
    {u_CHILDREN : Value}
    (a0 : PySem.W.nsIn K mainGlobals "nodes_counted" = some (some (.ref f0)))
    (l0 : K.lookup f0 = some ⟨oc0, od0, .func (PySem.W.fnOf "nodes_counted" "nodes_counted" (defArgs s_nodes_counted) (defBody s_nodes_counted) (defScope s_nodes_counted) .none kV0 dc0 pm0 an0 cd0 ct0), sl0⟩)
    (c0 : PySem.W.codeIn K cd0 "nodes_counted" = true) (k0 : PySem.W.keepIn K (.ref f0) = true)
    (a1 : PySem.W.nsIn K mainGlobals "pages_counted" = some (some (.ref f1)))
    (l1 : K.lookup f1 = some ⟨oc1, od1, .func (PySem.W.fnOf "pages_counted" "pages_counted" (defArgs s_pages_counted) (defBody s_pages_counted) (defScope s_pages_counted) .none kV1 dc1 pm1 an1 cd1 ct1), sl1⟩)
    (c1 : PySem.W.codeIn K cd1 "pages_counted" = true) (k1 : PySem.W.keepIn K (.ref f1) = true)
    (a2 : PySem.W.nsIn K mainGlobals "_law_draws" = some (some (.ref f2)))
    (l2 : K.lookup f2 = some ⟨oc2, od2, .func (PySem.W.fnOf "_law_draws" "_law_draws" (defArgs s__law_draws) (defBody s__law_draws) (defScope s__law_draws) .none kV2 dc2 pm2 an2 cd2 ct2), sl2⟩)
    (c2 : PySem.W.codeIn K cd2 "_law_draws" = true) (k2 : PySem.W.keepIn K (.ref f2) = true)
    (a3 : PySem.W.nsIn K mainGlobals "_law_key" = some (some (.ref f3)))
    (l3 : K.lookup f3 = some ⟨oc3, od3, .func (PySem.W.fnOf "_law_key" "_law_key" (defArgs s__law_key) (defBody s__law_key) (defScope s__law_key) .none kV3 dc3 pm3 an3 cd3 ct3), sl3⟩)
    (c3 : PySem.W.codeIn K cd3 "_law_key" = true) (k3 : PySem.W.keepIn K (.ref f3) = true)
    (a4 : PySem.W.nsIn K mainGlobals "_law_span" = some (some (.ref f4)))
    (l4 : K.lookup f4 = some ⟨oc4, od4, .func (PySem.W.fnOf "_law_span" "_law_span" (defArgs s__law_span) (defBody s__law_span) (defScope s__law_span) .none kV4 dc4 pm4 an4 cd4 ct4), sl4⟩)
    (c4 : PySem.W.codeIn K cd4 "_law_span" = true) (k4 : PySem.W.keepIn K (.ref f4) = true)
    (a5 : PySem.W.nsIn K mainGlobals "law" = some (some (.ref f5)))
    (l5 : K.lookup f5 = some ⟨oc5, od5, .func (PySem.W.fnOf "law" "law" (defArgs s_law) (defBody s_law) (defScope s_law) .none kV5 dc5 pm5 an5 cd5 ct5), sl5⟩)
    (c5 : PySem.W.codeIn K cd5 "law" = true) (k5 : PySem.W.keepIn K (.ref f5) = true)
    (z_range : PySem.W.nsIn K mainGlobals "range" = some none)
    (z_len : PySem.W.nsIn K mainGlobals "len" = some none)
    (z_sorted : PySem.W.nsIn K mainGlobals "sorted" = some none)
    (z_set : PySem.W.nsIn K mainGlobals "set" = some none)
    (z_int : PySem.W.nsIn K mainGlobals "int" = some none)
    (e_LEVELS : PySem.W.nsIn K mainGlobals "LEVELS" = some (some u_LEVELS))
    (e_CHILDREN : PySem.W.nsIn K mainGlobals "CHILDREN" = some (some u_CHILDREN))
    (r_LEVELS : RelV (V.int 4) u_LEVELS)
    (r_CHILDREN : RelV (V.int 32) u_CHILDREN) :
    ∃ fd : FuncData, (∀ (s : Shared) (v : Value), BindsTo s fd ⟨[v], []⟩ [("script", v)]) ∧ ∀ {P : Program} (base : Heap), FnOk P w K mg base CX0 3 fa fd ["script"] (sp_law K) := by
  have e := hfa.symm.trans (PySem.W.mg_of X G a5)
  cases e
  have F0 := fun_mk (st := s_nodes_counted) l0 c0 k0
  have B0 := F0.binds (ps := ["keys"]) fun _ _ _ _ _ _ us hl => match us, hl with | [_], _ => rfl
  have F1 := fun_mk (st := s_pages_counted) l1 c1 k1
  have B1 := F1.binds (ps := ["keys"]) fun _ _ _ _ _ _ us hl => match us, hl with | [_], _ => rfl
  have F2 := fun_mk (st := s__law_draws) l2 c2 k2
  have B2 := F2.binds (ps := ["script", "count"]) fun _ _ _ _ _ _ us hl => match us, hl with | [_, _], _ => rfl
  have F3 := fun_mk (st := s__law_key) l3 c3 k3
  have B3 := F3.binds (ps := ["draw"]) fun _ _ _ _ _ _ us hl => match us, hl with | [_], _ => rfl
  have F4 := fun_mk (st := s__law_span) l4 c4 k4
  have B4 := F4.binds (ps := ["level"]) fun _ _ _ _ _ _ us hl => match us, hl with | [_], _ => rfl
  have F5 := fun_mk (st := s_law) l5 c5 k5
  have B5 := F5.binds (ps := ["script"]) fun _ _ _ _ _ _ us hl => match us, hl with | [_], _ => rfl
  have T : Txt w K mg ⟨f0, _, f1, _, f2, _, f3, _, f4, _, _, _, u_LEVELS, u_CHILDREN⟩ := {
    F_nodes_counted := F0
    b_nodes_counted := B0
    g_nodes_counted := PySem.W.mg_of X G a0
    F_pages_counted := F1
    b_pages_counted := B1
    g_pages_counted := PySem.W.mg_of X G a1
    F__law_draws := F2
    b__law_draws := B2
    g__law_draws := PySem.W.mg_of X G a2
    F__law_key := F3
    b__law_key := B3
    g__law_key := PySem.W.mg_of X G a3
    F__law_span := F4
    b__law_span := B4
    g__law_span := PySem.W.mg_of X G a4
    F_law := F5
    b_law := B5
    g_law := PySem.W.mg_of X G a5
    z_range := PySem.W.mg_none_of X G z_range
    z_len := PySem.W.mg_none_of X G z_len
    z_sorted := PySem.W.mg_none_of X G z_sorted
    z_set := PySem.W.mg_none_of X G z_set
    z_int := PySem.W.mg_none_of X G z_int
    c_LEVELS := ⟨PySem.W.mg_of X G e_LEVELS, r_LEVELS⟩
    c_CHILDREN := ⟨PySem.W.mg_of X G e_CHILDREN, r_CHILDREN⟩
  }
  exact ⟨_, fun s v => .of_eq rfl, fun base => ok_law T⟩
end P14
open PySem PySem.W PyProof.Rows
set_option maxHeartbeats 0 in
theorem PySem.Challenge.cw_tidemark_k14_pages_counted_for_keys_holds : PySem.Challenge.rw_tidemark_k14_pages_counted_for_keys.Holds := by
  w_on; o_law; k_head; (case hw => w_witness2)
  k_fill
  refine L2.walk_ofK (l := PySem.Challenge.rw_tidemark_k14_pages_counted_for_keys) (n := 63) (k := 3) (x := "script") (CX := L2.CX0) (sp := P14.sp_law) rfl (by decide) rfl ⟨rfl, by decide, by decide⟩ (fun w h Y => PySem.W.kIn_of Y) ?F (fun K H b ns hl hO hS => P14.law_start hl hO hS) (fun _ _ _ _ z => z)
  case F =>
    intro w mg fa h KX G hmg
    have q := @P14.all_facts
    obtain ⟨fd, h1, h2⟩ : ∃ fd : FuncData, (∀ (s : Shared) (v : Value), BindsTo s fd ⟨[v], []⟩ [("script", v)]) ∧ ∀ {P : Program} (base : Heap), L2.FnOk P w _ mg base L2.CX0 3 fa fd ["script"] (P14.sp_law _) := by
      refine' P14.all_facts (w := w) KX G hmg ?a0 ?l0 ?c0 ?k0 ?a1 ?l1 ?c1 ?k1 ?a2 ?l2 ?c2 ?k2 ?a3 ?l3 ?c3 ?k3 ?a4 ?l4 ?c4 ?k4 ?a5 ?l5 ?c5 ?k5 ?z_range ?z_len ?z_sorted ?z_set ?z_int ?e_LEVELS ?e_CHILDREN ?r_LEVELS ?r_CHILDREN
      (case a0 => k_is); (case l0 => k_is); (case c0 => k_is); (case k0 => k_is); (case a1 => k_is); (case l1 => k_is)
      (case c1 => k_is); (case k1 => k_is); (case a2 => k_is); (case l2 => k_is); (case c2 => k_is); (case k2 => k_is)
      (case a3 => k_is); (case l3 => k_is); (case c3 => k_is); (case k3 => k_is); (case a4 => k_is); (case l4 => k_is)
      (case c4 => k_is); (case k4 => k_is); (case a5 => k_is); (case l5 => k_is); (case c5 => k_is); (case k5 => k_is)
      (case z_range => k_is); (case z_len => k_is); (case z_sorted => k_is); (case z_set => k_is); (case z_int => k_is); (case e_LEVELS => k_is)
      (case e_CHILDREN => k_is); (case r_LEVELS => exact ⟨_, rfl⟩); (case r_CHILDREN => exact ⟨_, rfl⟩)
    exact ⟨fd, h1, fun base _ _ => h2 base⟩
