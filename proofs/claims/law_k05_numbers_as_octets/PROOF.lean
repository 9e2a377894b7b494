import PyProof.Rows.All
import Wide.All
import OpenK.AllK
import Wide.FinOn
import HandS.ForMost
import HandS.Base
import HandS.Call
import HandS.List
import HandS.Comp
import HandS.Ends
import HandS.Dict
import HandS.Iter
import HandS.Text
import HandS.Words
import HandS.WordsList
import HandS.Codes
import HandS.Rev
import HandS.Conv
import HandS.TupAny
import HandS.SortInts
import PySem.Challenge.RW_tidemark_k05_numbers_as_octets
set_option Elab.async false
set_option linter.all false
set_option maxRecDepth 100000
/-! Tm: short steps over the readings, one lemma a reading; continuations by name. -/
namespace Tm
open PySem PySem.Spec PyProof.Rows L2
abbrev St := L2.St

/-! ### continuations by name -/
def kAsg (g : TG) (σ : St) (nx : St → Hp → Prop) : VK := fun x H => g x σ H nx
def kDrop (nx : St → Hp → Prop) (σ : St) : VK := fun _ H => nx σ H
def kIf (t u : TS) (D : Ends) (σ : St) : Bool → Hp → Prop := fun b H => if b = true then t D σ H else u D σ H
def kO2 (r : R2) (x : V) (Q : VK) : VK := fun y H => r x y H Q
def kO1 (r : R2) (tb : TE) (σ : St) (Q : VK) : VK := fun x H => tb σ H (kO2 r x Q)
def kU (r : V → Hp → VK → Prop) (Q : VK) : VK := fun x H => r x H Q
def kB (Q : Bool → Hp → Prop) : VK := fun x H => ∃ k, x = .bl k ∧ Q k H
def kAnd (u : TT) (σ : St) (Q : Bool → Hp → Prop) : Bool → Hp → Prop := fun c H => if c = true then u σ H Q else Q false H
def kOr (u : TT) (σ : St) (Q : Bool → Hp → Prop) : Bool → Hp → Prop := fun c H => if c = true then Q true H else u σ H Q
def kNot (Q : Bool → Hp → Prop) : Bool → Hp → Prop := fun c H => Q (!c) H
def kAndV (tb : TE) (σ : St) (Q : VK) : VK := fun x H => ∃ c, x = .bl c ∧ if c = true then tb σ H Q else Q (.bl false) H
def kOrV (tb : TE) (σ : St) (Q : VK) : VK := fun x H => ∃ c, x = .bl c ∧ if c = true then Q (.bl true) H else tb σ H Q
def kNotV (Q : VK) : VK := fun x H => ∃ c, x = .bl c ∧ Q (.bl (!c)) H
def kIfE (ta tb : TE) (σ : St) (Q : VK) : Bool → Hp → Prop := fun c H => if c = true then ta σ H Q else tb σ H Q
def kC3 (r' : R2) (y : V) (Q : VK) : VK := fun z H => r' y z H Q
def kC2' (r' : R2) (tc : TE) (σ : St) (y : V) (Q : VK) : VK := fun z H => ∃ k, z = .bl k ∧ (if k = true then tc σ H (kC3 r' y Q) else Q (.bl false) H)
def kC2 (r r' : R2) (tc : TE) (σ : St) (x : V) (Q : VK) : VK := fun y H => r x y H (kC2' r' tc σ y Q)
def kC1 (r r' : R2) (tb tc : TE) (σ : St) (Q : VK) : VK := fun x H => tb σ H (kC2 r r' tc σ x Q)
def kA2 (x : V) (Q : List V → Hp → Prop) : List V → Hp → Prop := fun xs H => Q (x :: xs) H
def kA1 (tr : TA) (σ : St) (Q : List V → Hp → Prop) : VK := fun x H => tr σ H (kA2 x Q)
def kTup (Q : VK) : List V → Hp → Prop := fun xs H => xs.length ≤ sizeLine ∧ ∀ p, H p = none → Q (.ref p) (upd H p (.tup xs))
def kLst (Q : VK) : List V → Hp → Prop := fun xs H => xs.length ≤ sizeLine ∧ ∀ p, H p = none → Q (.ref p) (upd H p (.lst xs))
def kCall (sp : Sp) (E : XK) (Q : VK) : List V → Hp → Prop := fun vs H => sp vs H Q E
def kM2 (sp : Sp) (x : V) (E : XK) (Q : VK) : List V → Hp → Prop := fun vs H => sp (x :: vs) H Q E
def kM1 (m : Str) (C : Addr) (sp : Sp) (E : XK) (t : TA) (σ : St) (Q : VK) : VK := fun x H => ∃ a dx fs, x = .ref a ∧ H a = some (.ins C dx fs) ∧ fs.lookup m = none ∧ t σ H (kM2 sp x E Q)
def kMk (C : Addr) (sp : Sp) (E : XK) (Q : VK) : List V → Hp → Prop := fun vs H => ∀ x dx, H x = none → H dx = none → dx ≠ x → sp (.ref x :: vs) (upd (upd H dx (.own x)) x (.ins C dx [])) (fun v H2 => v = .non ∧ Q (.ref x) H2) E
def kFld (K : PySem.W.Frag) (f : Str) (Q : VK) : VK := fun x H => ∃ a C dx fs v, x = .ref a ∧ H a = some (.ins C dx fs) ∧ Cls K C ∧ NoAttr K C f ∧ fs.lookup f = some v ∧ Q v H
def kSF2 (K : PySem.W.Frag) (f : Str) (y : V) (σ : St) (nx : St → Hp → Prop) : VK := fun x H => ∃ a C dx fs, x = .ref a ∧ H a = some (.ins C dx fs) ∧ Cls K C ∧ NoAttr K C f ∧ fs.length < 1000 ∧ nx σ (upd H a (.ins C dx (putF f y fs)))
def kSF1 (K : PySem.W.Frag) (ta : TE) (f : Str) (σ : St) (nx : St → Hp → Prop) : VK := fun y H => ta σ H (kSF2 K f y σ nx)
def kCB (r : List V → Hp → VK → Prop) (Q : VK) : List V → Hp → Prop := fun vs H => r vs H Q
def kBM2 (r : V → List V → Hp → VK → Prop) (x : V) (Q : VK) : List V → Hp → Prop := fun xs H => r x xs H Q
def kBM (K : PySem.W.Frag) (T : String) (r : V → List V → Hp → VK → Prop) (t : TA) (σ : St) (Q : VK) : VK := fun x H => tyV K T x H ∧ t σ H (kBM2 r x Q)
def kBM0 (K : PySem.W.Frag) (T : String) (r : V → List V → Hp → VK → Prop) (Q : VK) : VK := fun x H => tyV K T x H ∧ r x [] H Q
def kS3 (r : V → Option Int → Option Int → Hp → VK → Prop) (x : V) (l : Option Int) (Q : VK) : Option Int → Hp → Prop := fun u H => r x l u H Q
def kS2 (r : V → Option Int → Option Int → Hp → VK → Prop) (th : TO) (σ : St) (x : V) (Q : VK) : Option Int → Hp → Prop := fun l H => th σ H (kS3 r x l Q)
def kS1 (r : V → Option Int → Option Int → Hp → VK → Prop) (tl th : TO) (σ : St) (Q : VK) : VK := fun x H => tl σ H (kS2 r th σ x Q)
def kPart (Q : Option Int → Hp → Prop) : VK := fun x H => ∃ i, x = .int i ∧ Q (some i) H
def kAug2 (i : Nat) (σ : St) (nx : St → Hp → Prop) : VK := fun z H => nx (σ.set i (some z)) H
def kAug1 (i : Nat) (ti : TIp) (x : V) (σ : St) (nx : St → Hp → Prop) : VK := fun y H => ti x y H (kAug2 i σ nx)
def kIL (K : PySem.W.Frag) (R : It → Hp → Prop) : VK := fun x H => ∃ a, x = .ref a ∧ (∃ xs, SqL K H a xs) ∧ R (Itl K a) H
def kIT (K : PySem.W.Frag) (R : It → Hp → Prop) : VK := fun x H => ∃ a, x = .ref a ∧ (∃ xs, SqT K H a xs) ∧ R (Itt K a) H
def kIR1 (R : It → Hp → Prop) : List V → Hp → Prop := fun vs H => ∃ j : Int, vs = [.int j] ∧ -(2 ^ 62) ≤ j ∧ j < 2 ^ 62 ∧ R (Itr 0 j.toNat) H
def kIR2 (R : It → Hp → Prop) : List V → Hp → Prop := fun vs H => ∃ i j : Int, vs = [.int i, .int j] ∧ (-(2 ^ 62) ≤ i ∧ i < 2 ^ 62 ∧ -(2 ^ 62) ≤ j ∧ j < 2 ^ 62) ∧ R (Itr i (j - i).toNat) H
/-- what is left of a for: the walked thing is there -/
def kFor (g : TG) (tb : TS) (D : Ends) (σ : St) : It → Hp → Prop := fun J H1 => ∃ W : Nat → Nat → St → Hp → Prop, (∃ m, W 0 m σ H1) ∧ ∀ i m σ H, W i m σ H →
  (J.stop i H ∧ D.nx σ H) ∨ (J.go i H ∧ ∃ N : St → Hp → Prop, (∀ σ' H', N σ' H' → ∃ m', m' < m ∧ W (i + 1) m' σ' H') ∧ ∀ x H', J.yld i H x H' → g x σ H' fun σ2 H2 => tb { D with nx := N, ct := N, bk := D.nx } σ2 H2)
/-- a turn's body, behind its target -/
def kBody (tb : TS) (D : Ends) : St → Hp → Prop := fun σ H => tb D σ H
def kLc3 (D : Addr) (N : Hp → Prop) : VK := fun y H4 => ∃ acc, H4 D = some (.lst acc) ∧ acc.length < sizeLine ∧ N (upd H4 D (.lst (acc ++ [y])))
def kLc2 (te : TE) (σ : St) (D : Addr) (N : Hp → Prop) : Bool → Hp → Prop := fun b H3 => if b = true then te σ H3 (kLc3 D N) else N H3
def kLc1 (tt : TT) (te : TE) (vs : List Nat) (σ : St) (D : Addr) (N : Hp → Prop) : St → Hp → Prop := fun σ2 H2 => wipe σ2 vs = wipe σ vs ∧ tt σ2 H2 (kLc2 te σ2 D N)
def kLc (g : TG) (tt : TT) (te : TE) (vs : List Nat) (σ : St) (Q : VK) : It → Hp → Prop := fun J H1 => ∀ D, H1 D = none → ∃ W : Nat → Nat → Hp → Prop, (∃ m, W 0 m (upd H1 D (.lst []))) ∧ ∀ i m H, W i m H →
  (J.stop i H ∧ Q (.ref D) H) ∨ (J.go i H ∧ ∃ Nx : Hp → Prop, (∀ H', Nx H' → ∃ m', m' < m ∧ W (i + 1) m' H') ∧ ∀ x H', J.yld i H x H' → g x (wipe σ vs) H' (kLc1 tt te vs σ D Nx))

section steps
variable {σ σ' : St} {H : Hp} {Q : VK} {nx bk ct : St → Hp → Prop} {rt : VK} {K : PySem.W.Frag}
/-! ### statements -/
theorem i_st {t : TS} {D : Ends} (e : σ = σ') (h : t D σ' H) : t D σ H := by rw [e]; exact h
theorem i_seq {t u : TS} (h : t ⟨u ⟨nx, rt, bk, ct⟩, rt, bk, ct⟩ σ H) : tSeq t u ⟨nx, rt, bk, ct⟩ σ H := h
theorem i_next (h : nx σ H) : tNext ⟨nx, rt, bk, ct⟩ σ H := h
theorem i_brk (h : bk σ H) : tBreak ⟨nx, rt, bk, ct⟩ σ H := h
theorem i_cnt (h : ct σ H) : tCont ⟨nx, rt, bk, ct⟩ σ H := h
theorem i_drop {te : TE} (h : te σ H (kDrop nx σ)) : tDrop te ⟨nx, rt, bk, ct⟩ σ H := h
theorem i_kDrop {x : V} (h : nx σ H) : kDrop nx σ x H := h
theorem i_ret {te : TE} (h : te σ H rt) : tRet te ⟨nx, rt, bk, ct⟩ σ H := h
theorem i_retN (h : rt .non H) : tRetN ⟨nx, rt, bk, ct⟩ σ H := h
theorem i_ifS {c : TT} {t u : TS} {D : Ends} (h : c σ H (kIf t u D σ)) : tIfS c t u D σ H := h
theorem i_kIfT {t u : TS} {D : Ends} (h : t D σ H) : kIf t u D σ true H := h
theorem i_kIfF {t u : TS} {D : Ends} (h : u D σ H) : kIf t u D σ false H := by show if false = true then _ else _; rw [if_neg Bool.false_ne_true]; exact h
theorem i_kIf {t u : TS} {D : Ends} {b : Bool} (h1 : b = true → t D σ H) (h2 : b = false → u D σ H) : kIf t u D σ b H := by
  cases b with
  | true => exact h1 rfl
  | false => exact i_kIfF (h2 rfl)
theorem i_kIfd {t u : TS} {D : Ends} {p : Prop} [Decidable p] (h1 : p → t D σ H) (h2 : ¬ p → u D σ H) : kIf t u D σ (decide p) H := i_kIf (fun e => h1 (of_decide_eq_true e)) (fun e => h2 (of_decide_eq_false e))
theorem i_kIfn {t u : TS} {D : Ends} {b : Bool} (h : kIf u t D σ b H) : kIf t u D σ (!b) H := by
  cases b with
  | true => exact i_kIfF h
  | false => exact i_kIfT (by exact h)
theorem i_kIfdT {t u : TS} {D : Ends} {p : Prop} [Decidable p] (hp : p) (h : t D σ H) : kIf t u D σ (decide p) H := i_kIfd (fun _ => h) (fun n => absurd hp n)
theorem i_kIfdF {t u : TS} {D : Ends} {p : Prop} [Decidable p] (hp : ¬ p) (h : u D σ H) : kIf t u D σ (decide p) H := i_kIfd (fun n => absurd n hp) (fun _ => h)
theorem i_asg {te : TE} {g : TG} (h : te σ H (kAsg g σ nx)) : tAsg te g ⟨nx, rt, bk, ct⟩ σ H := h
theorem i_kAsg {g : TG} {x : V} (h : g x σ H nx) : kAsg g σ nx x H := h
theorem i_gName {i : Nat} {v : V} (e : σ.set i (some v) = σ') (h : nx σ' H) : gName i v σ H nx := by show nx (σ.set i (some v)) H; rw [e]; exact h
theorem i_gNameW {i j : Nat} {v : V} {σ1 σ2 : St} {vs : List Nat} (hv : vs = [j]) (e1 : σ.set j none = σ1) (e2 : σ1.set i (some v) = σ2) (h : nx σ2 H) : gName i v (wipe σ vs) H nx := by
  subst hv
  show nx ((wipe σ [j]).set i (some v)) H
  have e : wipe σ [j] = σ.set j none := rfl
  rw [e, e1, e2]; exact h
theorem i_gTup {n : Nat} {t : TGs} {a : Addr} {xs : List V} (s : SqT K H a xs) (l : xs.length = n) (h : t xs σ H nx) : gTup K n t (.ref a) σ H nx := ⟨a, xs, rfl, s, l, h⟩
theorem i_gCons {t : TG} {u : TGs} {v : V} {r : List V} (h : t v σ H fun σ' H' => u r σ' H' nx) : gCons t u (v :: r) σ H nx := ⟨v, r, rfl, h⟩
theorem i_gNil (h : nx σ H) : gNil [] σ H nx := ⟨rfl, h⟩
theorem i_aug {i : Nat} {te : TE} {ti : TIp} {x : V} (e : σ[i]? = some (some x)) (h : te σ H (kAug1 i ti x σ nx)) : tAug i te ti ⟨nx, rt, bk, ct⟩ σ H := ⟨x, e, h⟩
theorem i_kAug1 {i : Nat} {ti : TIp} {x y : V} (h : ti x y H (kAug2 i σ nx)) : kAug1 i ti x σ nx y H := h
theorem i_kAug2 {i : Nat} {z : V} (e : σ.set i (some z) = σ') (h : nx σ' H) : kAug2 i σ nx z H := by show nx (σ.set i (some z)) H; rw [e]; exact h
theorem i_ipI {f : Int → Int → Int} {i j : Int} (h : Q (.int (f i j)) H) : ipI f (.int i) (.int j) H Q := ⟨i, j, rfl, rfl, h⟩
theorem i_sFld {ta tv : TE} {f : Str} (h : tv σ H (kSF1 K ta f σ nx)) : sFld K ta tv f ⟨nx, rt, bk, ct⟩ σ H := h
theorem i_kSF1 {ta : TE} {f : Str} {y : V} (h : ta σ H (kSF2 K f y σ nx)) : kSF1 K ta f σ nx y H := h
theorem i_kSF2 {f : Str} {y : V} {a C dx : Addr} {fs : List (Str × V)} (hp : H a = some (.ins C dx fs)) (c : Cls K C) (n : NoAttr K C f) (l : fs.length < 1000) (h : nx σ (upd H a (.ins C dx (putF f y fs)))) : kSF2 K f y σ nx (.ref a) H := ⟨a, C, dx, fs, rfl, hp, c, n, l, h⟩
theorem i_cut {t u : TS} (M : St → Hp → Prop) (h1 : t ⟨M, rt, bk, ct⟩ σ H) (h2 : ∀ σ' H', M σ' H' → u ⟨nx, rt, bk, ct⟩ σ' H') : C8.tCut t u ⟨nx, rt, bk, ct⟩ σ H := ⟨M, h1, h2⟩
/-! ### expressions -/
theorem i_var {i : Nat} {v : V} (e : σ[i]? = some (some v)) (h : Q v H) : tVar i σ H Q := ⟨v, e, h⟩
theorem i_c {v : V} (h : Q v H) : tC v σ H Q := h
theorem i_op {r : R2} {ta tb : TE} (h : ta σ H (kO1 r tb σ Q)) : tOp r ta tb σ H Q := h
theorem i_kO1 {r : R2} {tb : TE} {x : V} (h : tb σ H (kO2 r x Q)) : kO1 r tb σ Q x H := h
theorem i_kO2 {r : R2} {x y : V} (h : r x y H Q) : kO2 r x Q y H := h
theorem i_un {r : V → Hp → VK → Prop} {ta : TE} (h : ta σ H (kU r Q)) : tUn r ta σ H Q := h
theorem i_kU {r : V → Hp → VK → Prop} {x : V} (h : r x H Q) : kU r Q x H := h
theorem i_rI {C : Int → Int → Prop} {g : Int → Int → V} {i j : Int} (c : C i j) (h : Q (g i j) H) : rI C g (.int i) (.int j) H Q := ⟨i, j, rfl, rfl, c, h⟩
theorem i_rI0 {g : Int → Int → V} {i j : Int} (h : Q (g i j) H) : rI0 g (.int i) (.int j) H Q := ⟨i, j, rfl, rfl, h⟩
theorem i_rU {g : Int → V} {i : Int} (h : Q (g i) H) : rU g (.int i) H Q := ⟨i, rfl, h⟩
theorem i_rEqI {i j : Int} (h : Q (.bl (decide (i = j))) H) : rEq (.int i) (.int j) H Q := ⟨rfl, by
  have e : decide (V.int i = V.int j) = decide (i = j) := by by_cases z : i = j <;> simp [z]
  rw [e]; exact h⟩
theorem i_rNeI {i j : Int} (h : Q (.bl (!decide (i = j))) H) : rNe (.int i) (.int j) H Q := ⟨rfl, by
  have e : decide (V.int i = V.int j) = decide (i = j) := by by_cases z : i = j <;> simp [z]
  rw [e]; exact h⟩
theorem i_rEqS {i j : Str} (h : Q (.bl (decide (i = j))) H) : rEq (.str i) (.str j) H Q := ⟨rfl, by
  have e : decide (V.str i = V.str j) = decide (i = j) := by by_cases z : i = j <;> simp [z]
  rw [e]; exact h⟩
theorem i_rNeS {i j : Str} (h : Q (.bl (!decide (i = j))) H) : rNe (.str i) (.str j) H Q := ⟨rfl, by
  have e : decide (V.str i = V.str j) = decide (i = j) := by by_cases z : i = j <;> simp [z]
  rw [e]; exact h⟩
theorem i_rEqB {i j : Bool} (h : Q (.bl (decide (i = j))) H) : rEq (.bl i) (.bl j) H Q := ⟨rfl, by
  have e : decide (V.bl i = V.bl j) = decide (i = j) := by by_cases z : i = j <;> simp [z]
  rw [e]; exact h⟩
theorem i_rNeB {i j : Bool} (h : Q (.bl (!decide (i = j))) H) : rNe (.bl i) (.bl j) H Q := ⟨rfl, by
  have e : decide (V.bl i = V.bl j) = decide (i = j) := by by_cases z : i = j <;> simp [z]
  rw [e]; exact h⟩
theorem i_test {t : TE} {Q : Bool → Hp → Prop} (h : t σ H (kB Q)) : tTest t σ H Q := h
theorem i_tB {t : TE} {Q : Bool → Hp → Prop} (h : t σ H (kB Q)) : tB t σ H Q := h
theorem i_kB {b : Bool} {Q : Bool → Hp → Prop} (h : Q b H) : kB Q (.bl b) H := ⟨b, rfl, h⟩
theorem i_and {t u : TT} {Q : Bool → Hp → Prop} (h : t σ H (kAnd u σ Q)) : tAnd t u σ H Q := h
theorem i_or {t u : TT} {Q : Bool → Hp → Prop} (h : t σ H (kOr u σ Q)) : tOr t u σ H Q := h
theorem i_not {t : TT} {Q : Bool → Hp → Prop} (h : t σ H (kNot Q)) : tNot t σ H Q := h
theorem i_kNot {c : Bool} {Q : Bool → Hp → Prop} (h : Q (!c) H) : kNot Q c H := h
theorem i_kAndT {u : TT} {Q : Bool → Hp → Prop} (h : u σ H Q) : kAnd u σ Q true H := h
theorem i_kAndF {u : TT} {Q : Bool → Hp → Prop} (h : Q false H) : kAnd u σ Q false H := by show if false = true then _ else _; rw [if_neg Bool.false_ne_true]; exact h
theorem i_kOrT {u : TT} {Q : Bool → Hp → Prop} (h : Q true H) : kOr u σ Q true H := h
theorem i_kOrF {u : TT} {Q : Bool → Hp → Prop} (h : u σ H Q) : kOr u σ Q false H := by show if false = true then _ else _; rw [if_neg Bool.false_ne_true]; exact h
theorem i_kAnd {u : TT} {Q : Bool → Hp → Prop} {b : Bool} (h1 : b = true → u σ H Q) (h2 : b = false → Q false H) : kAnd u σ Q b H := by
  cases b with
  | true => exact h1 rfl
  | false => exact i_kAndF (h2 rfl)
theorem i_kOr {u : TT} {Q : Bool → Hp → Prop} {b : Bool} (h1 : b = true → Q true H) (h2 : b = false → u σ H Q) : kOr u σ Q b H := by
  cases b with
  | true => exact h1 rfl
  | false => exact i_kOrF (h2 rfl)
theorem i_andV {ta tb : TE} (h : ta σ H (kAndV tb σ Q)) : tAndV ta tb σ H Q := h
theorem i_orV {ta tb : TE} (h : ta σ H (kOrV tb σ Q)) : tOrV ta tb σ H Q := h
theorem i_notV {ta : TE} (h : ta σ H (kNotV Q)) : tNotV ta σ H Q := h
theorem i_kNotV {c : Bool} (h : Q (.bl (!c)) H) : kNotV Q (.bl c) H := ⟨c, rfl, h⟩
theorem i_kAndV {tb : TE} {b : Bool} (h1 : b = true → tb σ H Q) (h2 : b = false → Q (.bl false) H) : kAndV tb σ Q (.bl b) H := ⟨b, rfl, by
  cases b with
  | true => exact h1 rfl
  | false => rw [if_neg Bool.false_ne_true]; exact h2 rfl⟩
theorem i_kOrV {tb : TE} {b : Bool} (h1 : b = true → Q (.bl true) H) (h2 : b = false → tb σ H Q) : kOrV tb σ Q (.bl b) H := ⟨b, rfl, by
  cases b with
  | true => exact h1 rfl
  | false => rw [if_neg Bool.false_ne_true]; exact h2 rfl⟩
theorem i_ifE {t : TT} {ta tb : TE} (h : t σ H (kIfE ta tb σ Q)) : tIf t ta tb σ H Q := h
theorem i_kIfET {ta tb : TE} (h : ta σ H Q) : kIfE ta tb σ Q true H := h
theorem i_kIfEF {ta tb : TE} (h : tb σ H Q) : kIfE ta tb σ Q false H := by show if false = true then _ else _; rw [if_neg Bool.false_ne_true]; exact h
theorem i_kIfE {ta tb : TE} {b : Bool} (h1 : b = true → ta σ H Q) (h2 : b = false → tb σ H Q) : kIfE ta tb σ Q b H := by
  cases b with
  | true => exact h1 rfl
  | false => exact i_kIfEF (h2 rfl)
theorem i_kIfEd {ta tb : TE} {p : Prop} [Decidable p] (h1 : p → ta σ H Q) (h2 : ¬ p → tb σ H Q) : kIfE ta tb σ Q (decide p) H := i_kIfE (fun e => h1 (of_decide_eq_true e)) (fun e => h2 (of_decide_eq_false e))
theorem i_chain {r r' : R2} {ta tb tc : TE} (h : ta σ H (kC1 r r' tb tc σ Q)) : tChain r r' ta tb tc σ H Q := h
theorem i_kC1 {r r' : R2} {tb tc : TE} {x : V} (h : tb σ H (kC2 r r' tc σ x Q)) : kC1 r r' tb tc σ Q x H := h
theorem i_kC2 {r r' : R2} {tc : TE} {x y : V} (h : r x y H (kC2' r' tc σ y Q)) : kC2 r r' tc σ x Q y H := h
theorem i_kC2' {r' : R2} {tc : TE} {y : V} {b : Bool} (h1 : b = true → tc σ H (kC3 r' y Q)) (h2 : b = false → Q (.bl false) H) : kC2' r' tc σ y Q (.bl b) H := ⟨b, rfl, by
  cases b with
  | true => exact h1 rfl
  | false => rw [if_neg Bool.false_ne_true]; exact h2 rfl⟩
theorem i_kC3 {r' : R2} {y z : V} (h : r' y z H Q) : kC3 r' y Q z H := h
theorem i_nil {Q : List V → Hp → Prop} (h : Q [] H) : tNil σ H Q := h
theorem i_cons {ta : TE} {tr : TA} {Q : List V → Hp → Prop} (h : ta σ H (kA1 tr σ Q)) : tCons ta tr σ H Q := h
theorem i_kA1 {tr : TA} {Q : List V → Hp → Prop} {x : V} (h : tr σ H (kA2 x Q)) : kA1 tr σ Q x H := h
theorem i_kA2 {Q : List V → Hp → Prop} {x : V} {xs : List V} (h : Q (x :: xs) H) : kA2 x Q xs H := h
theorem i_tup {t : TA} (h : t σ H (kTup Q)) : tTup t σ H Q := h
theorem i_lst {t : TA} (h : t σ H (kLst Q)) : tLst t σ H Q := h
theorem i_kTup {xs : List V} (l : xs.length ≤ sizeLine) (h : ∀ p, H p = none → Q (.ref p) (upd H p (.tup xs))) : kTup Q xs H := ⟨l, h⟩
theorem i_kLst {xs : List V} (l : xs.length ≤ sizeLine) (h : ∀ p, H p = none → Q (.ref p) (upd H p (.lst xs))) : kLst Q xs H := ⟨l, h⟩
theorem i_call {sp : Sp} {E : XK} {t : TA} (h : t σ H (kCall sp E Q)) : tCall sp [] E t σ H Q := by
  show t σ H fun vs H1 => sp (vs ++ []) H1 Q E
  have e : (fun vs H1 => sp (vs ++ []) H1 Q E) = kCall sp E Q := by funext vs H1; rw [List.append_nil]; rfl
  rw [e]; exact h
theorem i_kCall {sp : Sp} {E : XK} {vs : List V} (h : sp vs H Q E) : kCall sp E Q vs H := h
theorem i_meth {C : Addr} {m : Str} {sp : Sp} {E : XK} {ta : TE} {t : TA} (h : ta σ H (kM1 m C sp E t σ Q)) : tMeth C m sp [] E ta t σ H Q := by
  have e : (kM1 m C sp E t σ Q) = (fun x H1 => ∃ a dx fs, x = .ref a ∧ H1 a = some (.ins C dx fs) ∧ fs.lookup m = none ∧ t σ H1 fun vs H2 => sp (x :: (vs ++ [])) H2 Q E) := by
    funext x H1; unfold kM1 kM2; simp only [List.append_nil]
  show ta σ H _
  rw [← e]; exact h
theorem i_kM1 {C : Addr} {m : Str} {sp : Sp} {E : XK} {t : TA} {a dx : Addr} {fs : List (Str × V)} (hp : H a = some (.ins C dx fs)) (l : fs.lookup m = none) (h : t σ H (kM2 sp (.ref a) E Q)) : kM1 m C sp E t σ Q (.ref a) H := ⟨a, dx, fs, rfl, hp, l, h⟩
theorem i_kM2 {sp : Sp} {E : XK} {x : V} {vs : List V} (h : sp (x :: vs) H Q E) : kM2 sp x E Q vs H := h
theorem i_make {C : Addr} {sp : Sp} {E : XK} {t : TA} (h : t σ H (kMk C sp E Q)) : tMake C sp [] E t σ H Q := by
  have e : (kMk C sp E Q) = (fun vs H1 => ∀ x dx, H1 x = none → H1 dx = none → dx ≠ x → sp (.ref x :: (vs ++ [])) (upd (upd H1 dx (.own x)) x (.ins C dx [])) (fun v H2 => v = .non ∧ Q (.ref x) H2) E) := by
    funext vs H1; unfold kMk; simp only [List.append_nil]
  show t σ H _
  rw [← e]; exact h
theorem i_fld {ta : TE} {f : Str} (h : ta σ H (kFld K f Q)) : tFld K ta f σ H Q := h
theorem i_kFld {f : Str} {a C dx : Addr} {fs : List (Str × V)} {v : V} (hp : H a = some (.ins C dx fs)) (c : Cls K C) (n : NoAttr K C f) (l : fs.lookup f = some v) (h : Q v H) : kFld K f Q (.ref a) H := ⟨a, C, dx, fs, v, rfl, hp, c, n, l, h⟩
theorem i_cb {r : List V → Hp → VK → Prop} {t : TA} (h : t σ H (kCB r Q)) : tCB r t σ H Q := h
theorem i_kCB {r : List V → Hp → VK → Prop} {vs : List V} (h : r vs H Q) : kCB r Q vs H := h
theorem i_bm {T : String} {r : V → List V → Hp → VK → Prop} {to : TE} {t : TA} (h : to σ H (kBM K T r t σ Q)) : tBM K T r to t σ H Q := h
theorem i_bm0 {T : String} {r : V → List V → Hp → VK → Prop} {to : TE} (h : to σ H (kBM0 K T r Q)) : tBM0 K T r to σ H Q := h
theorem i_kBMl {r : V → List V → Hp → VK → Prop} {t : TA} {l : Addr} {xs : List V} (s : SqL K H l xs) (h : t σ H (kBM2 r (.ref l) Q)) : kBM K "list" r t σ Q (.ref l) H := ⟨.inl ⟨rfl, _, s⟩, h⟩
theorem i_kBM0l {r : V → List V → Hp → VK → Prop} {l : Addr} {xs : List V} (s : SqL K H l xs) (h : r (.ref l) [] H Q) : kBM0 K "list" r Q (.ref l) H := ⟨.inl ⟨rfl, _, s⟩, h⟩
theorem i_kBM2 {r : V → List V → Hp → VK → Prop} {x : V} {xs : List V} (h : r x xs H Q) : kBM2 r x Q xs H := h
theorem i_append {l : Addr} {xs : List V} {y : V} (hl : H l = some (.lst xs)) (z : xs.length < sizeLine) (h : Q .non (upd H l (.lst (xs ++ [y])))) : rAppend (.ref l) [y] H Q := ⟨l, xs, y, rfl, rfl, hl, z, h⟩
theorem i_extend {l b : Addr} {xs zs : List V} (hl : H l = some (.lst xs)) (hb : H b = some (.lst zs)) (z : xs.length + zs.length ≤ sizeLine) (h : Q .non (upd H l (.lst (xs ++ zs)))) : rExtend (.ref l) [.ref b] H Q := ⟨l, b, xs, zs, rfl, rfl, hl, hb, z, h⟩
theorem i_cat {l b : Addr} {xs zs : List V} (hl : H l = some (.lst xs)) (hb : H b = some (.lst zs)) (z : xs.length + zs.length ≤ sizeLine) (h : ∀ p, H p = none → Q (.ref p) (upd H p (.lst (xs ++ zs)))) : rCat (.ref l) (.ref b) H Q := ⟨l, b, xs, zs, rfl, rfl, hl, hb, z, h⟩
theorem i_rep {l : Addr} {xs : List V} {k : Int} (hl : H l = some (.lst xs)) (k1 : -(2 ^ 63) ≤ k) (k2 : k < 2 ^ 63) (z : xs.length * k.toNat ≤ sizeLine) (h : ∀ p, H p = none → Q (.ref p) (upd H p (.lst (List.replicate k.toNat xs).flatten))) : rRep (.ref l) (.int k) H Q := ⟨l, k, xs, rfl, rfl, hl, k1, k2, z, h⟩
theorem i_ixL {p : Addr} {xs : List V} {i : Int} {v : V} (s : SqL K H p xs) (e : atI xs i = some v) (h : Q v H) : rIxL K (.ref p) (.int i) H Q := ⟨p, xs, i, v, rfl, rfl, s, e, h⟩
theorem i_ixT {p : Addr} {xs : List V} {i : Int} {v : V} (s : SqT K H p xs) (e : atI xs i = some v) (h : Q v H) : rIxT K (.ref p) (.int i) H Q := ⟨p, xs, i, v, rfl, rfl, s, e, h⟩
theorem i_sl {r : V → Option Int → Option Int → Hp → VK → Prop} {te : TE} {tl th : TO} (h : te σ H (kS1 r tl th σ Q)) : tSl r te tl th σ H Q := h
theorem i_kS1 {r : V → Option Int → Option Int → Hp → VK → Prop} {tl th : TO} {x : V} (h : tl σ H (kS2 r th σ x Q)) : kS1 r tl th σ Q x H := h
theorem i_kS2 {r : V → Option Int → Option Int → Hp → VK → Prop} {th : TO} {x : V} {l : Option Int} (h : th σ H (kS3 r x l Q)) : kS2 r th σ x Q l H := h
theorem i_kS3 {r : V → Option Int → Option Int → Hp → VK → Prop} {x : V} {l u : Option Int} (h : r x l u H Q) : kS3 r x l Q u H := h
theorem i_noPart {Q : Option Int → Hp → Prop} (h : Q none H) : tNoPart σ H Q := h
theorem i_part {t : TE} {Q : Option Int → Hp → Prop} (h : t σ H (kPart Q)) : tPart t σ H Q := h
theorem i_kPart {Q : Option Int → Hp → Prop} {i : Int} (h : Q (some i) H) : kPart Q (.int i) H := ⟨i, rfl, h⟩
theorem i_slL {a : Addr} {xs : List V} {lo hi : Option Int} (s : SqL K H a xs) (h : ∀ p, H p = none → Q (.ref p) (upd H p (.lst (cutV xs lo hi)))) : rSlL K (.ref a) lo hi H Q := ⟨a, xs, rfl, s, h⟩
/-! ### what is walked -/
theorem i_for {wi : TI} {g : TG} {tb : TS} {D : Ends} (h : wi σ H (kFor g tb D σ)) : tFor wi g tb D σ H := h
theorem i_lc {wi : TI} {g : TG} {tt : TT} {te : TE} {vs : List Nat} (h : wi σ H (kLc g tt te vs σ Q)) : tLc wi g tt te vs σ H Q := h
theorem i_iList {tl : TE} {R : It → Hp → Prop} (h : tl σ H (kIL K R)) : iList K tl σ H R := h
theorem i_iTup {tl : TE} {R : It → Hp → Prop} (h : tl σ H (kIT K R)) : iTup K tl σ H R := h
theorem i_iRng1 {ta : TA} {R : It → Hp → Prop} (h : ta σ H (kIR1 R)) : iRng1 ta σ H R := h
theorem i_iRng2 {ta : TA} {R : It → Hp → Prop} (h : ta σ H (kIR2 R)) : iRng2 ta σ H R := h
theorem i_kIL {R : It → Hp → Prop} {a : Addr} {xs : List V} (s : SqL K H a xs) (h : R (Itl K a) H) : kIL K R (.ref a) H := ⟨a, rfl, ⟨xs, s⟩, h⟩
theorem i_kIT {R : It → Hp → Prop} {a : Addr} {xs : List V} (s : SqT K H a xs) (h : R (Itt K a) H) : kIT K R (.ref a) H := ⟨a, rfl, ⟨xs, s⟩, h⟩
theorem i_kIR1 {R : It → Hp → Prop} {j : Int} (a : -(2 ^ 62) ≤ j) (b : j < 2 ^ 62) (h : R (Itr 0 j.toNat) H) : kIR1 R [.int j] H := ⟨j, rfl, a, b, h⟩
theorem i_kIR2 {R : It → Hp → Prop} {i j : Int} (a : -(2 ^ 62) ≤ i) (b : i < 2 ^ 62) (c : -(2 ^ 62) ≤ j) (d : j < 2 ^ 62) (h : R (Itr i (j - i).toNat) H) : kIR2 R [.int i, .int j] H := ⟨i, j, rfl, ⟨a, b, c, d⟩, h⟩
/-- for over a list that stands still -/
theorem i_forL {a : Addr} {g : TG} {tb : TS} (xs : List V) (Pv : Nat → St → Hp → Prop) (h0 : Pv 0 σ H) (hl : ∀ i σ H, i ≤ xs.length → Pv i σ H → SqL K H a xs)
    (hs : ∀ i x σ H, xs[i]? = some x → Pv i σ H → g x σ H (kBody tb ⟨Pv (i + 1), rt, nx, Pv (i + 1)⟩)) (hd : ∀ σ H, Pv xs.length σ H → nx σ H) : kFor g tb ⟨nx, rt, bk, ct⟩ σ (Itl K a) H :=
  for_list (D := ⟨nx, rt, bk, ct⟩) Pv h0 hl hs hd
theorem i_forT {a : Addr} {g : TG} {tb : TS} (xs : List V) (Pv : Nat → St → Hp → Prop) (h0 : Pv 0 σ H) (hl : ∀ i σ H, i ≤ xs.length → Pv i σ H → SqT K H a xs)
    (hs : ∀ i x σ H, xs[i]? = some x → Pv i σ H → g x σ H (kBody tb ⟨Pv (i + 1), rt, nx, Pv (i + 1)⟩)) (hd : ∀ σ H, Pv xs.length σ H → nx σ H) : kFor g tb ⟨nx, rt, bk, ct⟩ σ (Itt K a) H :=
  for_tup (D := ⟨nx, rt, bk, ct⟩) Pv h0 hl hs hd
theorem i_forR {lo : Int} {n : Nat} {g : TG} {tb : TS} (Pv : Nat → St → Hp → Prop) (h0 : Pv 0 σ H)
    (hs : ∀ i σ H, i < n → Pv i σ H → g (.int (lo + i)) σ H (kBody tb ⟨Pv (i + 1), rt, nx, Pv (i + 1)⟩)) (hd : ∀ σ H, Pv n σ H → nx σ H) : kFor g tb ⟨nx, rt, bk, ct⟩ σ (Itr lo n) H :=
  for_range (D := ⟨nx, rt, bk, ct⟩) Pv h0 hs hd
theorem i_forR0 {n : Nat} {g : TG} {tb : TS} (Pv : Nat → St → Hp → Prop) (h0 : Pv 0 σ H)
    (hs : ∀ (i : Nat) σ H, i < n → Pv i σ H → g (.int (i : Int)) σ H (kBody tb ⟨Pv (i + 1), rt, nx, Pv (i + 1)⟩)) (hd : ∀ σ H, Pv n σ H → nx σ H) : kFor g tb ⟨nx, rt, bk, ct⟩ σ (Itr 0 n) H :=
  i_forR Pv h0 (fun i σ H hi p => by rw [Int.zero_add]; exact hs i σ H hi p) hd
theorem i_body {tb : TS} {D : Ends} (h : tb D σ H) : kBody tb D σ H := h
theorem i_lcR {lo : Int} {n : Nat} {g : TG} {tt : TT} {te : TE} {vs : List Nat} (Pv : Addr → Nat → Hp → Prop) (h0 : ∀ D, H D = none → Pv D 0 (upd H D (.lst [])))
    (hs : ∀ D i H1, H D = none → i < n → Pv D i H1 → g (.int (lo + i)) (wipe σ vs) H1 (kLc1 tt te vs σ D (Pv D (i + 1)))) (hd : ∀ D H1, H D = none → Pv D n H1 → Q (.ref D) H1) : kLc g tt te vs σ Q (Itr lo n) H :=
  fun D hD => lc_range (Qd := Q (.ref D)) (Pv D) (h0 D hD) (fun i H1 hi p => hs D i H1 hD hi p) (fun H1 p => hd D H1 hD p)
theorem i_lcR0 {n : Nat} {g : TG} {tt : TT} {te : TE} {vs : List Nat} (Pv : Addr → Nat → Hp → Prop) (h0 : ∀ D, H D = none → Pv D 0 (upd H D (.lst [])))
    (hs : ∀ D (i : Nat) H1, H D = none → i < n → Pv D i H1 → g (.int (i : Int)) (wipe σ vs) H1 (kLc1 tt te vs σ D (Pv D (i + 1)))) (hd : ∀ D H1, H D = none → Pv D n H1 → Q (.ref D) H1) : kLc g tt te vs σ Q (Itr 0 n) H :=
  i_lcR Pv h0 (fun D i H1 hD hi p => by rw [Int.zero_add]; exact hs D i H1 hD hi p) hd
theorem i_lcL {a : Addr} {g : TG} {tt : TT} {te : TE} {vs : List Nat} (xs : List V) (Pv : Addr → Nat → Hp → Prop) (h0 : ∀ D, H D = none → Pv D 0 (upd H D (.lst []))) (hl : ∀ D i H1, H D = none → i ≤ xs.length → Pv D i H1 → SqL K H1 a xs)
    (hs : ∀ D i x H1, H D = none → xs[i]? = some x → Pv D i H1 → g x (wipe σ vs) H1 (kLc1 tt te vs σ D (Pv D (i + 1)))) (hd : ∀ D H1, H D = none → Pv D xs.length H1 → Q (.ref D) H1) : kLc g tt te vs σ Q (Itl K a) H :=
  fun D hD => lc_list (Qd := Q (.ref D)) (Pv D) (h0 D hD) (fun i H1 hi p => hl D i H1 hD hi p) (fun i x H1 hi p => hs D i x H1 hD hi p) (fun H1 p => hd D H1 hD p)
theorem i_lcT {a : Addr} {g : TG} {tt : TT} {te : TE} {vs : List Nat} (xs : List V) (Pv : Addr → Nat → Hp → Prop) (h0 : ∀ D, H D = none → Pv D 0 (upd H D (.lst []))) (hl : ∀ D i H1, H D = none → i ≤ xs.length → Pv D i H1 → SqT K H1 a xs)
    (hs : ∀ D i x H1, H D = none → xs[i]? = some x → Pv D i H1 → g x (wipe σ vs) H1 (kLc1 tt te vs σ D (Pv D (i + 1)))) (hd : ∀ D H1, H D = none → Pv D xs.length H1 → Q (.ref D) H1) : kLc g tt te vs σ Q (Itt K a) H :=
  fun D hD => lc_tup (Qd := Q (.ref D)) (Pv D) (h0 D hD) (fun i H1 hi p => hl D i H1 hD hi p) (fun i x H1 hi p => hs D i x H1 hD hi p) (fun H1 p => hd D H1 hD p)
theorem i_kLc1 {tt : TT} {te : TE} {vs : List Nat} {σ2 : St} {D : Addr} {N : Hp → Prop} (e : wipe σ2 vs = wipe σ vs) (h : tt σ2 H (kLc2 te σ2 D N)) : kLc1 tt te vs σ D N σ2 H := ⟨e, h⟩
theorem i_yes {Q : Bool → Hp → Prop} (h : Q true H) : tYes σ H Q := h
theorem i_kLc2T {te : TE} {D : Addr} {N : Hp → Prop} (h : te σ H (kLc3 D N)) : kLc2 te σ D N true H := h
theorem i_kLc2F {te : TE} {D : Addr} {N : Hp → Prop} (h : N H) : kLc2 te σ D N false H := by show if false = true then _ else _; rw [if_neg Bool.false_ne_true]; exact h
theorem i_kLc3 {D : Addr} {N : Hp → Prop} {acc : List V} {y : V} (e : H D = some (.lst acc)) (z : acc.length < sizeLine) (h : N (upd H D (.lst (acc ++ [y])))) : kLc3 D N y H := ⟨acc, e, z, h⟩
end steps

/-! ### readings by name, of rules whose own are raw -/
def rLen (K : PySem.W.Frag) : List V → Hp → VK → Prop := fun xs H Q => ∃ p ys, xs = [.ref p] ∧ (SqL K H p ys ∨ SqT K H p ys) ∧ Q (.int ys.length) H
def rLenS : List V → Hp → VK → Prop := fun xs H Q => ∃ z, xs = [.str z] ∧ z.length ≤ sizeLine ∧ Q (.int z.length) H
def rInt : List V → Hp → VK → Prop := fun xs H Q => (∃ i, xs = [.int i] ∧ Q (.int i) H) ∨ ∃ k, xs = [.bl k] ∧ Q (.int (if k then 1 else 0)) H
def rListOf (K : PySem.W.Frag) : List V → Hp → VK → Prop := fun xs H Q => ∃ p ys, xs = [.ref p] ∧ (SqL K H p ys ∨ SqT K H p ys) ∧ ∀ l, H l = none → Q (.ref l) (upd H l (.lst ys))
def rTupOf (K : PySem.W.Frag) : List V → Hp → VK → Prop := fun xs H Q => ∃ p ys, xs = [.ref p] ∧ ((SqL K H p ys ∧ ∀ l, H l = none → Q (.ref l) (upd H l (.tup ys))) ∨ (SqT K H p ys ∧ Q (.ref p) H))
def rIsN : R2 := fun x y H Q => y = .non ∧ Q (.bl (decide (x = .non))) H
def rNotN : R2 := fun x y H Q => y = .non ∧ Q (.bl (!decide (x = .non))) H
section
variable {X : Cx}
theorem c_len : CallR X (.builtin "len") (rLen X.K) := call_len_seq
theorem c_lenS : CallR X (.builtin "len") rLenS := call_len_str
theorem c_int : CallR X (.type "int") rInt := call_int1
theorem c_list : CallR X (.type "list") (rListOf X.K) := call_list_of
theorem c_tuple : CallR X (.type "tuple") (rTupOf X.K) := call_tuple_of
theorem o_isN : OpR X (compareOp .Is) rIsN := op_isN
theorem o_notN : OpR X (compareOp .IsNot) rNotN := op_notN
end
section
variable {σ : St} {H : Hp} {Q : VK} {K : PySem.W.Frag}
theorem i_lenL {p : Addr} {ys : List V} (s : SqL K H p ys) (h : Q (.int ys.length) H) : rLen K [.ref p] H Q := ⟨p, ys, rfl, .inl s, h⟩
theorem i_lenT {p : Addr} {ys : List V} (s : SqT K H p ys) (h : Q (.int ys.length) H) : rLen K [.ref p] H Q := ⟨p, ys, rfl, .inr s, h⟩
theorem i_lenS {z : Str} (l : z.length ≤ sizeLine) (h : Q (.int z.length) H) : rLenS [.str z] H Q := ⟨z, rfl, l, h⟩
theorem i_int {i : Int} (h : Q (.int i) H) : rInt [.int i] H Q := .inl ⟨i, rfl, h⟩
theorem i_listL {p : Addr} {ys : List V} (s : SqL K H p ys) (h : ∀ l, H l = none → Q (.ref l) (upd H l (.lst ys))) : rListOf K [.ref p] H Q := ⟨p, ys, rfl, .inl s, h⟩
theorem i_listT {p : Addr} {ys : List V} (s : SqT K H p ys) (h : ∀ l, H l = none → Q (.ref l) (upd H l (.lst ys))) : rListOf K [.ref p] H Q := ⟨p, ys, rfl, .inr s, h⟩
theorem i_tupL {p : Addr} {ys : List V} (s : SqL K H p ys) (h : ∀ l, H l = none → Q (.ref l) (upd H l (.tup ys))) : rTupOf K [.ref p] H Q := ⟨p, ys, rfl, .inl ⟨s, h⟩⟩
theorem i_tupT {p : Addr} {ys : List V} (s : SqT K H p ys) (h : Q (.ref p) H) : rTupOf K [.ref p] H Q := ⟨p, ys, rfl, .inr ⟨s, h⟩⟩
theorem i_isN {x : V} (h : Q (.bl (decide (x = .non))) H) : rIsN x .non H Q := ⟨rfl, h⟩
theorem i_notN {x : V} (h : Q (.bl (!decide (x = .non))) H) : rNotN x .non H Q := ⟨rfl, h⟩
theorem i_eqD {x y : V} {d e : PyData} (a : Dp K H x d) (b : Dp K H y e) (sd : SeqAt.shaped d = true) (se : SeqAt.shaped e = true) (h : Q (.bl (PyData.eqv d e)) H) : rEqD K x y H Q := ⟨d, e, a, b, sd, se, h⟩
theorem i_neD {x y : V} {d e : PyData} (a : Dp K H x d) (b : Dp K H y e) (sd : SeqAt.shaped d = true) (se : SeqAt.shaped e = true) (h : Q (.bl (!PyData.eqv d e)) H) : rNeD K x y H Q := ⟨d, e, a, b, sd, se, h⟩
end

/-! ### items of lists -/
theorem sz {n : Nat} (h : n ≤ 1000) : n ≤ sizeLine := Nat.le_of_lt (small1000 h)
theorem atI_map {α : Type} (f : α → V) (xs : List α) (j : Int) (d : α) (h0 : 0 ≤ j) (h1 : j < xs.length) : atI (xs.map f) j = some (f (xs.getD j.toNat d)) := by
  have e : j = ((j.toNat : Nat) : Int) := by omega
  rw [e]
  refine atI_nat ?_
  have hj : j.toNat < xs.length := by omega
  rw [List.getElem?_map, List.getElem?_eq_getElem hj, Int.toNat_natCast, List.getD_eq_getElem?_getD, List.getElem?_eq_getElem hj]
  rfl
theorem map_at {α : Type} {f : α → V} {l : List α} {i : Nat} {x : V} (h : (l.map f)[i]? = some x) : ∃ z, l[i]? = some z ∧ x = f z := by
  rw [List.getElem?_map] at h
  cases e : l[i]? with
  | none => rw [e] at h; cases h
  | some z => rw [e] at h; exact ⟨z, rfl, (Option.some.inj h).symm⟩
theorem getD_mem' {α : Type} (xs : List α) (j : Nat) (d : α) (h : j < xs.length) : xs.getD j d ∈ xs := by
  rw [List.getD_eq_getElem?_getD, List.getElem?_eq_getElem h]
  exact List.getElem_mem h
/-! ### states and heaps -/
theorem set_z {α : Type} {x y : α} {r : List α} : (x :: r).set 0 y = y :: r := rfl
theorem set_s {α : Type} {x y : α} {r r' : List α} {i : Nat} (h : r.set i y = r') : (x :: r).set (i + 1) y = x :: r' := by rw [List.set_cons_succ, h]
theorem get_z {α : Type} {x : α} {r : List α} : (x :: r)[0]? = some x := rfl
theorem get_s {α : Type} {x : α} {r : List α} {i : Nat} {y : α} (h : r[i]? = some y) : (x :: r)[i + 1]? = some y := by rw [List.getElem?_cons_succ]; exact h
theorem upd_get {H : Hp} {a p : Addr} {o u : HO} (n : a ≠ p) (h : H a = some u) : upd H p o a = some u := by rw [upd_ne n]; exact h
theorem upd_free {H : Hp} {a p : Addr} {o : HO} (n : a ≠ p) (h : H a = none) : upd H p o a = none := by rw [upd_ne n]; exact h
theorem free_upd {H : Hp} {a p : Addr} {o : HO} (h : upd H p o a = none) : a ≠ p ∧ H a = none := by
  have n : a ≠ p := fun e => by rw [e, upd_same] at h; cases h
  exact ⟨n, by rw [upd_ne n] at h; exact h⟩
theorem same_upd'  {H : Hp} {p : Addr} {o : HO} (h : H p = none) : Same H (upd H p o) := fun b x e => by rw [upd_ne (ne_of_none e h)]; exact e
theorem same_upd {H : Hp} {p : Addr} {o : HO} (h : H p = none) : Same H (upd H p o) := fun b x e => by rw [upd_ne (ne_of_none e h)]; exact e
theorem sqL_upd {K : PySem.W.Frag} {H : Hp} {a p : Addr} {o : HO} {xs : List V} (n : a ≠ p) (h : SqL K H a xs) : SqL K (upd H p o) a xs := by
  rcases h with (h | ⟨u, h⟩) | h
  · exact .inl (.inl (upd_get n h))
  · exact .inl (.inr ⟨u, upd_get n h⟩)
  · exact .inr h
theorem sqT_upd {K : PySem.W.Frag} {H : Hp} {a p : Addr} {o : HO} {xs : List V} (n : a ≠ p) (h : SqT K H a xs) : SqT K (upd H p o) a xs := by
  rcases h with (h | ⟨u, h⟩) | h
  · exact .inl (.inl (upd_get n h))
  · exact .inl (.inr ⟨u, upd_get n h⟩)
  · exact .inr h
theorem sqL_new {K : PySem.W.Frag} {H : Hp} {a p : Addr} {o : HO} {xs : List V} (n : H p = none) (h : SqL K H a xs) : SqL K (upd H p o) a xs := (same_upd n).seq h
theorem same_tup {K : PySem.W.Frag} {H H' : Hp} {a : Addr} {xs : List V} (e : Same H H') (h : SqT K H a xs) : SqT K H' a xs := by
  rcases h with (h | ⟨o, h⟩) | h
  · exact .inl (.inl (e _ _ h))
  · exact .inl (.inr ⟨o, e _ _ h⟩)
  · exact .inr h
theorem sqT_new {K : PySem.W.Frag} {H : Hp} {a p : Addr} {o : HO} {xs : List V} (n : H p = none) (h : SqT K H a xs) : SqT K (upd H p o) a xs := same_tup (same_upd n) h

/-! ### list(reversed(x)), x a list -/
def tLstRev (K : PySem.W.Frag) (te : TE) : TE := fun σ H Q => te σ H fun v H1 => ∃ (a : Addr) (xs : List V), v = .ref a ∧ SqL K H1 a xs ∧ ∀ q, H1 q = none → Q (.ref q) (upd H1 q (.lst xs.reverse))
def kLstRev (K : PySem.W.Frag) (Q : VK) : VK := fun v H1 => ∃ (a : Addr) (xs : List V), v = .ref a ∧ SqL K H1 a xs ∧ ∀ q, H1 q = none → Q (.ref q) (upd H1 q (.lst xs.reverse))
theorem i_lstRev {σ : St} {H : Hp} {Q : VK} {K : PySem.W.Frag} {te : TE} (h : te σ H (kLstRev K Q)) : tLstRev K te σ H Q := h
theorem i_kLstRev {H : Hp} {Q : VK} {K : PySem.W.Frag} {a : Addr} {xs : List V} (s : SqL K H a xs) (h : ∀ q, H q = none → Q (.ref q) (upd H q (.lst xs.reverse))) : kLstRev K Q (.ref a) H := ⟨a, xs, rfl, s, h⟩

/-! ### the rules with the written part by name -/
section
variable {X : Cx} {K : PySem.W.Frag} {tg e o a b c : Expr} {te to : TE} {ta : TA} {pos apos cpos p2 p : Pos} {es : List Expr}
theorem q_ixl (z : X.K = K := by rfl) : IxR X (rIxL K) := by subst z; exact ix_list
theorem q_ixt (z : X.K = K := by rfl) : IxR X (rIxT K) := by subst z; exact ix_tup
theorem q_len (z : X.K = K := by rfl) : CallR X (.builtin "len") (rLen K) := by subst z; exact c_len
theorem q_list (z : X.K = K := by rfl) : CallR X (.type "list") (rListOf K) := by subst z; exact c_list
theorem q_tuple (z : X.K = K := by rfl) : CallR X (.type "tuple") (rTupOf K) := by subst z; exact c_tuple
theorem q_eqD (hu : X.A.units + 64 < cLine) (z : X.K = K := by rfl) : OpR X (compareOp .Eq) (rEqD K) := by subst z; exact op_eqD hu
theorem q_neD (hu : X.A.units + 64 < cLine) (z : X.K = K := by rfl) : OpR X (compareOp .NotEq) (rNeD K) := by subst z; exact op_neD hu
theorem q_in (z : X.K = K := by rfl) : OpR X (compareOp .In) (rIn K false) := by subst z; exact op_in_seq
theorem q_notIn (z : X.K = K := by rfl) : OpR X (compareOp .NotIn) (rIn K true) := by subst z; exact op_notIn_seq
theorem q_sll (z : X.K = K := by rfl) : SlR X (rSlL K) := by subst z; exact sl_list
theorem q_all (hc : X.calm = true) (z : X.K = K := by rfl) : CallR X (.builtin "all") (rAll K) := by subst z; exact cr_all hc
theorem q_any (hc : X.calm = true) (z : X.K = K := by rfl) : CallR X (.builtin "any") (rAny K) := by subst z; exact cr_any hc
theorem q_sum (hc : X.calm = true) (z : X.K = K := by rfl) : CallR X (.builtin "sum") (rSum K) := by subst z; exact cr_sum hc
theorem q_sorted (z : X.K = K := by rfl) : CallR X (.builtin "sorted") (rSortedI K) := by subst z; exact cr_sortedI
theorem q_pil (he : PE X e te) (z : X.K = K := by rfl) : PI X tg e (iList K te) := by subst z; exact pi_list he
theorem q_pit (he : PE X e te) (z : X.K = K := by rfl) : PI X tg e (iTup K te) := by subst z; exact pi_tup he
theorem q_fld {f : Str} (he : PE X e te) (hb : attributeBase e f X.env (eval e X.env) = eval e X.env) (z : X.K = K := by rfl) : PE X (.Attribute e f pos) (tFld K te f) := by subst z; exact pe_fld he hb
end
end Tm

/-! Td: data compared at depth -/
namespace Tm
open PySem PySem.Spec PyProof.Rows L2
theorem eqvAll_ints : ∀ ns ms : List Int, PyData.eqvAll (ns.map PyData.int) (ms.map PyData.int) = decide (ns = ms)
  | [], [] => by simp [PyData.eqvAll]
  | [], _ :: _ => by simp [PyData.eqvAll]
  | _ :: _, [] => by simp [PyData.eqvAll]
  | x :: xs, y :: ys => by
    rw [List.map_cons, List.map_cons, PyData.eqvAll, eqvAll_ints xs ys, PyData.eqv]
    by_cases e : x = y <;> by_cases e2 : xs = ys <;> simp [e, e2]
theorem canLay_ints : ∀ ns : List Int, PyData.canLayAll0 (ns.map PyData.int) = true
  | [] => by simp [PyData.canLayAll0]
  | x :: xs => by rw [List.map_cons, PyData.canLayAll0, canLay_ints xs, PyData.canLay0]; rfl
theorem depth_ints : ∀ ns : List Int, PyData.depthAll (ns.map PyData.int) ≤ 1
  | [] => by simp [PyData.depthAll]
  | x :: xs => by
    have := depth_ints xs
    rw [List.map_cons, PyData.depthAll]
    have e : PyData.depth (PyData.int x) ≤ 1 := by simp [PyData.depth]
    omega
theorem dpAll_ints {K : PySem.W.Frag} {H : Hp} : ∀ ns : List Int, DpAll K H (ns.map V.int) (ns.map PyData.int)
  | [] => .nil
  | x :: xs => .cons (.int x) (dpAll_ints xs)
theorem dp_ints {K : PySem.W.Frag} {H : Hp} {p : Addr} {ns : List Int} (h : SqL K H p (ns.map V.int)) : Dp K H (.ref p) (.list (ns.map PyData.int)) := .lst h (dpAll_ints ns)
theorem dp_tints {K : PySem.W.Frag} {H : Hp} {p : Addr} {ns : List Int} (h : SqT K H p (ns.map V.int)) : Dp K H (.ref p) (.tuple (ns.map PyData.int)) := .tup h (dpAll_ints ns)
theorem shaped_of {d : PyData} (a : d.canLay0 = true) (b : d.depth ≤ 64) : SeqAt.shaped d = true := by
  unfold SeqAt.shaped
  rw [a, decide_eq_true b]; rfl
theorem shaped_ints (ns : List Int) : SeqAt.shaped (.list (ns.map PyData.int)) = true := shaped_of (by rw [PyData.canLay0]; exact canLay_ints ns) (by have := depth_ints ns; rw [PyData.depth]; omega)
theorem shaped_tints (ns : List Int) : SeqAt.shaped (.tuple (ns.map PyData.int)) = true := shaped_of (by rw [PyData.canLay0]; exact canLay_ints ns) (by have := depth_ints ns; rw [PyData.depth]; omega)
theorem eqv_ints (ns ms : List Int) : PyData.eqv (.list (ns.map PyData.int)) (.list (ms.map PyData.int)) = decide (ns = ms) := by rw [PyData.eqv]; exact eqvAll_ints ns ms
theorem eqv_tints (ns ms : List Int) : PyData.eqv (.tuple (ns.map PyData.int)) (.tuple (ms.map PyData.int)) = decide (ns = ms) := by rw [PyData.eqv]; exact eqvAll_ints ns ms
section
variable {H : Hp} {Q : VK} {K : PySem.W.Frag}
theorem i_eqLL {p q : Addr} {ns ms : List Int} (a : SqL K H p (ns.map V.int)) (b : SqL K H q (ms.map V.int)) (h : Q (.bl (decide (ns = ms))) H) : rEqD K (.ref p) (.ref q) H Q :=
  i_eqD (dp_ints a) (dp_ints b) (shaped_ints ns) (shaped_ints ms) (by rw [eqv_ints]; exact h)
theorem i_neLL {p q : Addr} {ns ms : List Int} (a : SqL K H p (ns.map V.int)) (b : SqL K H q (ms.map V.int)) (h : Q (.bl (!decide (ns = ms))) H) : rNeD K (.ref p) (.ref q) H Q :=
  i_neD (dp_ints a) (dp_ints b) (shaped_ints ns) (shaped_ints ms) (by rw [eqv_ints]; exact h)
theorem i_eqTT {p q : Addr} {ns ms : List Int} (a : SqT K H p (ns.map V.int)) (b : SqT K H q (ms.map V.int)) (h : Q (.bl (decide (ns = ms))) H) : rEqD K (.ref p) (.ref q) H Q :=
  i_eqD (dp_tints a) (dp_tints b) (shaped_tints ns) (shaped_tints ms) (by rw [eqv_tints]; exact h)
end
end Tm

set_option maxHeartbeats 1000000
namespace Tm
open PySem PySem.Spec PyProof.Rows L2 RT
section
variable {prog : Program} {w : World} {A : Around} {s : Shared} {it l S : Addr} {items : Array Value}
/-- a list that stands empty takes what reversed(a list) gives -/
theorem ext_rev {R : Result → Shared → Prop} {c0 : Nat} (res : Value) (hh : A.handled = none) (hit : s.heap.IsRevIter it l ((items.size : Int) - 1)) (hl : s.heap.IsList l items) (hne : l ≠ it) (hn : items.size ≤ sizeLine)
    (nSi : S ≠ it) (nSl : S ≠ l) (hS : s.heap.get? S = some { cls := .type "list", data := .seq #[] c0 })
    (hR : ∀ (h' : Heap) (tk : Nat) (acc : Array Value) (c' : Nat), (∀ b o, b ≠ S → b ≠ it → s.heap.get? b = some o → h'.get? b = some o) → h'.get? S = some { cls := .type "list", dict := none, data := .seq acc c', slots := #[] } →
      ItemsOf (fun i v => items[items.size - 1 - i]? = some v) acc items.size → R (.ok (.ret res)) { s with heap := h', toks := tk }) :
    wpAny (model prog w) A.in1 (Builtin.List.listExtendWith (.ref S) (.ref it) res)
      (fun z t => match z with | .done f => R (.ok f) t | .again y => y.quiet = true ∧ codeAny (model prog w) A y R t) (fun e t => R (.error e) t) s := by
  have W := (Walks.listRev (prog := prog) (w := w) (A := A.in1) hh it l hne items).toS
  have hSf : S ∉ [it, l] := by
    intro hm
    simp only [List.mem_cons, List.not_mem_nil, or_false] at hm
    exact hm.elim nSi nSl
  have hT : s.TypeIs (.ref it) "list_reverseiterator" := hit.typeIs
  have h1 : Builtin.List.listSameRef (.ref S) (.ref it) = false := by simp [Builtin.List.listSameRef, nSi]
  unfold Builtin.List.listExtendWith
  refine wpAny_bind (wpAny_typeOf hT ?_)
  rw [if_neg (by rw [h1]; decide)]
  refine wpAny_bind (wpAny_pyIter_revIter (s := s) hit ?_)
  refine wpAny_bind (wpAny_holding ?_)
  unfold Builtin.List.listLengthHint
  refine wpAny_bind (wpAny_specialOf hT nolen_lri ?_)
  show wpAny _ A.in1 (specialOf (Value.ref it) (Str.ofString "__length_hint__") >>= _) _ _ s
  refine wpAny_bind (wpAny_specialOf hT hint_lri ?_)
  generalize hid : ("list_reverseiterator.__length_hint__" : String) = id0
  wp_delta
  rw [show splitId id0 = some ("list_reverseiterator", "__length_hint__") by subst hid; decide +kernel]
  subst hid
  refine wpAny_bind (wpAny_isInstance (b := true) hT (show isSubtype (.type "list_reverseiterator") (.type "list_reverseiterator") = pure true by rw [isSubtype_type]; kernel_rfl) ?_)
  refine wpAny_pure ?_
  rw [if_neg (by decide)]
  have e0 : ((items.size : Nat) : Int) - 1 - ((0 : Nat) : Int) = (items.size : Int) - 1 := by omega
  refine wpAny_pure ⟨plainId_quiet F.plain_extend_loop _, codeAny_extend_loopS W hn S hSf _ items.size 0 _ _ _ rfl (Nat.zero_le _) ⟨Nat.zero_le _, by rw [e0]; exact hit, hl⟩ hS (ItemsOf.nil _) fun t acc c hm hS' hacc => ?_⟩
  rw [Moved.eq_with hm]
  refine hR t.heap t.toks acc c (fun b o nb ni e => hm.heap b o (fun hmem => ?_) e) hS' hacc
  rcases List.mem_cons.mp hmem with e' | hmem
  · exact nb e'
  · exact ni (List.mem_singleton.mp hmem)
theorem call_list_rev {E : Value → Shared → Prop} {Q : Value → Shared → Prop} (hh : A.handled = none) (hit : s.heap.IsRevIter it l ((items.size : Int) - 1)) (hl : s.heap.IsList l items) (hne : l ≠ it) (hn : items.size ≤ sizeLine)
    (hQ : ∀ (h' : Heap) (tk : Nat) (acc : Array Value) (c' : Nat), (∀ b o, b ≠ it → s.heap.get? b = some o → h'.get? b = some o) → h'.get? s.heap.objs.size = some { cls := .type "list", dict := none, data := .seq acc c', slots := #[] } →
      ItemsOf (fun i v => items[items.size - 1 - i]? = some v) acc items.size → Q (.ref s.heap.objs.size) { s with heap := h', toks := tk }) :
    wpAny (model prog w) A (call (.type "list") [.ref it]) Q E s := by
  obtain ⟨oi, hoi, _⟩ := id hit
  obtain ⟨ol, hol, _⟩ := id hl
  have nSi : s.heap.objs.size ≠ it := Nat.ne_of_gt (Heap.lt_size hoi)
  have nSl : s.heap.objs.size ≠ l := Nat.ne_of_gt (Heap.lt_size hol)
  refine callType_codes (Q₁ := fun y t => y = .ref s.heap.objs.size ∧ t = { s with heap := s.heap.push { cls := .type "list", data := .seq #[] } }) F.called_list (F.typeCall_list_1 _) F.entry_list_init (code_list_new _ ⟨rfl, rfl⟩) ?_
  rintro y t ⟨rfl, rfl⟩
  have hS : (s.heap.push { cls := .type "list", data := .seq #[] }).get? s.heap.objs.size = some { cls := .type "list", data := .seq #[] } := Heap.get?_push_size _ rfl
  refine ⟨⟨_, hS, rfl⟩, F.args_list_init_2 _ _, ?_⟩
  show wpAny _ A.in1.in1 (do
    let old ← Builtin.List.listItems (.ref s.heap.objs.size)
    Builtin.List.listUpdate (.ref s.heap.objs.size) (fun _ => #[])
    letGo old.toList.reverse
    Builtin.List.listExtendWith (.ref s.heap.objs.size) (.ref it) .none) _ _ _
  refine wpAny_bind ?_
  unfold Builtin.List.listItems
  refine wpAny_bind (wpAny_seqItems hS rfl (wpAny_pure ?_))
  show wpAny _ _ (updateSeq s.heap.objs.size (fun _ => #[]) >>= fun _ => letGo (#[] : Array Value).toList.reverse >>= fun _ => Builtin.List.listExtendWith (.ref s.heap.objs.size) (.ref it) .none) _ _ _
  refine wpAny_bind (wpAny_updateSeq hS rfl ?_)
  have hS2 := Heap.get?_update_self (Obj.mapSeq (fun _ => (#[] : Array Value))) hS rfl
  have keep : ∀ b o, b ≠ s.heap.objs.size → s.heap.get? b = some o → ((s.heap.push { cls := .type "list", data := .seq #[] }).update s.heap.objs.size (Obj.mapSeq (fun _ => (#[] : Array Value)))).get? b = some o :=
    fun b o nb e => (Heap.get?_update_other _ _ (Ne.symm nb)).trans (Heap.get?_push_of_some _ e)
  refine wpAny_bind (wpAny_letGo ?_)
  have hl2 : ((s.heap.push { cls := .type "list", data := .seq #[] }).update s.heap.objs.size (Obj.mapSeq (fun _ => (#[] : Array Value)))).IsList l items := by
    obtain ⟨o, ho, hc, n, hd⟩ := hl
    exact ⟨o, keep l o nSl.symm ho, hc, n, hd⟩
  have hS3 : ((s.heap.push { cls := .type "list", data := .seq #[] }).update s.heap.objs.size (Obj.mapSeq (fun _ => (#[] : Array Value)))).get? s.heap.objs.size = some { cls := .type "list", data := .seq #[] } := hS2
  refine ext_rev (A := A.in1) (prog := prog) (w := w) (R := wants (fun r t => r = Value.none ∧ Q (Value.ref s.heap.objs.size) t) E) (s := { s with heap := (s.heap.push { cls := .type "list", data := .seq #[] }).update s.heap.objs.size (Obj.mapSeq (fun _ => (#[] : Array Value))) }) (c0 := 0) .none hh (hit.at fun o e => keep it o nSi.symm e) hl2 hne hn nSi nSl hS3 fun h' tk acc c' hk hS' hacc => ?_
  exact ⟨rfl, hQ h' tk acc c' (fun b o ni e => hk b o (Nat.ne_of_lt (Heap.lt_size e)) ni (keep b o (Nat.ne_of_lt (Heap.lt_size e)) e)) hS' hacc⟩
end
section
variable {X : Cx}
theorem pe_listRev {e : Expr} {te : TE} {p p2 pos pos2 : Pos} (hc : X.calm = true) (hg : Gl X "list") (hm : X.mg "list" = none) (hg2 : Gl X "reversed") (hm2 : X.mg "reversed" = none) (he : PE X e te)
    (hs : starEach [e] X.env = (false, eval e X.env) :: starEach [] X.env := by rfl)
    (hs2 : starEach [.Call (.Name "reversed" p2) [e] [] pos2] X.env = (false, eval (.Call (.Name "reversed" p2) [e] [] pos2) X.env) :: starEach [] X.env := by rfl) :
    PE X (.Call (.Name "list" p) [.Call (.Name "reversed" p2) [e] [] pos2] [] pos) (tLstRev X.K te) := by
  refine ⟨fun pins s σ H Q I h => ?_⟩
  refine Call_ (ld_blt I hg hm boot_list (PyProof.Rows.callWith_type1 (args_cons ?_ hs2) hs2 rfl))
  refine Call_ (ld_blt I hg2 hm2 PyProof.Rows.boot_reversed (PyProof.Rows.callWith_type1 (args_cons ?_ hs) hs rfl))
  refine thn (he.run pins s σ H _ I h) fun u s1 ⟨v, H1, I1, r1, q1⟩ => args_nil ?_
  obtain ⟨b, xs, ev, hq, q⟩ := q1
  subst ev
  obtain rfl : u = Value.ref b := r1
  obtain ⟨its, rv, pl, hz⟩ := I1.list hq
  refine call_reversed_list pl.isList (args_nil ?_)
  have k0 : ∀ b' o, s1.heap.get? b' = some o → (s1.heap.push (revObj b ((its.toArray.size : Int) - 1))).get? b' = some o := fun b' o e => Heap.get?_push_of_some _ e
  have I2 : Inv X pins σ H1 { s1 with heap := s1.heap.push (revObj b ((its.toArray.size : Int) - 1)) } := I1.kept (t' := s1.toks) k0
  obtain ⟨f0, f1, f2, f3, f4, f5⟩ := I1.fpOk (H' := H1) (b := s1.heap.objs.size) (Nat.le_refl _) (I1.hok.fresh (Nat.le_refl _))
  have hl := pl.isList
  obtain ⟨ol, hol, _⟩ := id hl
  have hn : its.toArray.size ≤ sizeLine := by rw [List.size_toArray, ← rv.length]; exact hz
  refine call_list_rev (s := { s1 with heap := s1.heap.push (revObj b ((its.toArray.size : Int) - 1)) }) (I1.ok.hd hc) ⟨_, Heap.get?_push_size _ rfl, rfl, rfl⟩ (hl.push _) (Nat.ne_of_lt (Heap.lt_size hol)) hn fun h' tk acc c' hk hS hi => ?_
  have hz2 : s1.heap.objs.size ≤ (s1.heap.push (revObj b ((its.toArray.size : Int) - 1))).objs.size := by simp [Heap.push]
  refine ⟨.ref (s1.heap.push (revObj b ((its.toArray.size : Int) - 1))).objs.size, upd H1 (s1.heap.push (revObj b ((its.toArray.size : Int) - 1))).objs.size (.lst xs.reverse), I1.laid (t' := tk) (fun b' o e => hk b' o (Nat.ne_of_lt (Heap.lt_size e)) (k0 b' o e)) hz2
    (show ObjOk X.prog X.w _ _ _ (.lst xs.reverse) from ⟨by rw [List.length_reverse]; exact hz, acc.toList, c', vals_rev rv hi, ?_⟩), rfl, q _ (I1.hok.fresh hz2)⟩
  rw [Array.toArray_toList]
  exact hS
end
end Tm

/-! the steps as one word -/
local macro_rules | `(tactic| walk_at "set") => `(tactic| ((repeat (with_reducible apply Tm.set_s)); exact Tm.set_z))
local macro_rules | `(tactic| walk_at "sc") => `(tactic| first | omega | (with_reducible assumption) | (dsimp only; first | omega | (with_reducible assumption)) | exact ⟨by omega, by omega⟩ | exact Or.inl ⟨by omega, by omega⟩ | exact Or.inr ⟨by omega, by omega⟩)
local macro_rules | `(tactic| walk_at "ne") => `(tactic| first | assumption | (apply Ne.symm; assumption) | (refine' L2.ne_of_none ?h ?n; (case n => assumption); (case h => walk_at "hp")) | (apply Ne.symm; refine' L2.ne_of_none ?h ?n; (case n => assumption); (case h => walk_at "hp")))
local macro_rules | `(tactic| walk_at "hp") => `(tactic| first | assumption | with_reducible exact L2.upd_same | ((with_reducible refine' Tm.upd_get ?n ?h); (case n => walk_at "ne"); (case h => walk_at "hp")) | (refine' (show L2.Same _ _ by assumption) _ _ ?h; (case h => walk_at "hp")))
local macro_rules | `(tactic| walk_at "sq") => `(tactic| first | assumption | ((with_reducible refine' L2.SqL.of ?h); (case h => walk_at "hp")) | ((with_reducible refine' L2.SqT.of ?h); (case h => walk_at "hp")) | ((with_reducible refine' Tm.sqL_new ?n ?h); (case n => assumption); (case h => walk_at "sq")) | ((with_reducible refine' Tm.sqT_new ?n ?h); (case n => assumption); (case h => walk_at "sq")) | ((with_reducible refine' Tm.sqL_upd ?n ?h); (case n => walk_at "ne"); (case h => walk_at "sq")) | ((with_reducible refine' Tm.sqT_upd ?n ?h); (case n => walk_at "ne"); (case h => walk_at "sq")) | (refine' L2.Same.seq (by assumption) ?h; (case h => walk_at "sq")) | (refine' Tm.same_tup (by assumption) ?h; (case h => walk_at "sq")))
local macro_rules | `(tactic| walk_at "s") => `(tactic| first
  | with_reducible refine' Tm.i_seq ?_
  | ((with_reducible refine' Tm.i_var ?k ?_); (case k => exact rfl))
  | with_reducible refine' Tm.i_c ?_
  | with_reducible refine' Tm.i_op ?_
  | with_reducible refine' Tm.i_kO1 ?_
  | with_reducible refine' Tm.i_kO2 ?_
  | with_reducible refine' Tm.i_asg ?_
  | with_reducible refine' Tm.i_kAsg ?_
  | ((with_reducible refine' Tm.i_gName ?k ?_); (case k => walk_at "set"))
  | with_reducible refine' Tm.i_rI0 ?_
  | ((with_reducible refine' Tm.i_rI ?k ?_); (case k => walk_at "sc"))
  | with_reducible refine' Tm.i_rU ?_
  | with_reducible refine' Tm.i_rEqI ?_
  | with_reducible refine' Tm.i_rNeI ?_
  | with_reducible refine' Tm.i_rEqS ?_
  | with_reducible refine' Tm.i_rNeS ?_
  | with_reducible refine' Tm.i_rEqB ?_
  | with_reducible refine' Tm.i_rNeB ?_
  | with_reducible refine' Tm.i_test ?_
  | with_reducible refine' Tm.i_tB ?_
  | with_reducible refine' Tm.i_kB ?_
  | with_reducible refine' Tm.i_ifS ?_
  | with_reducible refine' Tm.i_kIfT ?_
  | with_reducible refine' Tm.i_kIfF ?_
  | with_reducible refine' Tm.i_kIfn ?_
  | with_reducible refine' Tm.i_and ?_
  | with_reducible refine' Tm.i_or ?_
  | with_reducible refine' Tm.i_not ?_
  | with_reducible refine' Tm.i_kNot ?_
  | with_reducible refine' Tm.i_kAndT ?_
  | with_reducible refine' Tm.i_kAndF ?_
  | with_reducible refine' Tm.i_kOrT ?_
  | with_reducible refine' Tm.i_kOrF ?_
  | with_reducible refine' Tm.i_andV ?_
  | with_reducible refine' Tm.i_orV ?_
  | with_reducible refine' Tm.i_notV ?_
  | with_reducible refine' Tm.i_kNotV ?_
  | with_reducible refine' Tm.i_ifE ?_
  | with_reducible refine' Tm.i_kIfET ?_
  | with_reducible refine' Tm.i_kIfEF ?_
  | with_reducible refine' Tm.i_cons ?_
  | with_reducible refine' Tm.i_nil ?_
  | with_reducible refine' Tm.i_kA1 ?_
  | with_reducible refine' Tm.i_kA2 ?_
  | with_reducible refine' Tm.i_drop ?_
  | with_reducible refine' Tm.i_kDrop ?_
  | with_reducible refine' Tm.i_ret ?_
  | with_reducible refine' Tm.i_retN ?_
  | with_reducible refine' Tm.i_next ?_
  | with_reducible refine' Tm.i_brk ?_
  | with_reducible refine' Tm.i_cnt ?_
  | with_reducible refine' Tm.i_body ?_
  | ((with_reducible refine' Tm.i_aug ?k ?_); (case k => exact rfl))
  | with_reducible refine' Tm.i_kAug1 ?_
  | ((with_reducible refine' Tm.i_kAug2 ?k ?_); (case k => walk_at "set"))
  | with_reducible refine' Tm.i_ipI ?_
  | with_reducible refine' Tm.i_un ?_
  | with_reducible refine' Tm.i_kU ?_
  | with_reducible refine' Tm.i_cb ?_
  | with_reducible refine' Tm.i_kCB ?_
  | with_reducible refine' Tm.i_call ?_
  | with_reducible refine' Tm.i_kCall ?_
  | with_reducible refine' Tm.i_bm ?_
  | with_reducible refine' Tm.i_bm0 ?_
  | ((with_reducible refine' Tm.i_kBMl ?k ?_); (case k => walk_at "sq"))
  | ((with_reducible refine' Tm.i_kBM0l ?k ?_); (case k => walk_at "sq"))
  | with_reducible refine' Tm.i_kBM2 ?_
  | with_reducible refine' Tm.i_int ?_
  | ((with_reducible refine' Tm.i_lenL ?k ?_); (case k => walk_at "sq"))
  | ((with_reducible refine' Tm.i_lenT ?k ?_); (case k => walk_at "sq"))
  | with_reducible refine' Tm.i_isN ?_
  | with_reducible refine' Tm.i_notN ?_
  | with_reducible refine' Tm.i_tup ?_
  | with_reducible refine' Tm.i_lst ?_
  | with_reducible refine' Tm.i_sl ?_
  | with_reducible refine' Tm.i_kS1 ?_
  | with_reducible refine' Tm.i_kS2 ?_
  | with_reducible refine' Tm.i_kS3 ?_
  | with_reducible refine' Tm.i_noPart ?_
  | with_reducible refine' Tm.i_part ?_
  | with_reducible refine' Tm.i_kPart ?_
  | with_reducible refine' Tm.i_chain ?_
  | with_reducible refine' Tm.i_kC1 ?_
  | with_reducible refine' Tm.i_kC2 ?_
  | with_reducible refine' Tm.i_kC3 ?_
  | with_reducible refine' Tm.i_for ?_
  | with_reducible refine' Tm.i_lc ?_
  | with_reducible refine' Tm.i_iList ?_
  | with_reducible refine' Tm.i_iTup ?_
  | with_reducible refine' Tm.i_iRng1 ?_
  | with_reducible refine' Tm.i_iRng2 ?_
  | ((with_reducible refine' Tm.i_kIL ?k ?_); (case k => walk_at "sq"))
  | ((with_reducible refine' Tm.i_kIT ?k ?_); (case k => walk_at "sq"))
  | ((with_reducible refine' Tm.i_kIR1 ?k1 ?k2 ?_); (case k1 => walk_at "sc"); (case k2 => walk_at "sc"))
  | ((with_reducible refine' Tm.i_kIR2 ?k1 ?k2 ?k3 ?k4 ?_); (case k1 => walk_at "sc"); (case k2 => walk_at "sc"); (case k3 => walk_at "sc"); (case k4 => walk_at "sc"))
  | with_reducible refine' Tm.i_fld ?_
  | with_reducible refine' Tm.i_sFld ?_
  | with_reducible refine' Tm.i_kSF1 ?_
  | with_reducible refine' Tm.i_meth ?_
  | with_reducible refine' Tm.i_kM2 ?_
  | with_reducible refine' Tm.i_make ?_
  | with_reducible refine' Tm.i_yes ?_
  | ((with_reducible refine' Tm.i_gNameW ?k1 ?k2 ?k3 ?_); (case k1 => exact rfl); (case k2 => walk_at "set"); (case k3 => walk_at "set"))
  | ((with_reducible refine' Tm.i_kLc1 ?k ?_); (case k => exact rfl))
  | ((with_reducible refine' Tm.i_ixL ?k ?e ?_); (case k => walk_at "sq"); (case e => exact rfl))
  | ((with_reducible refine' Tm.i_ixT ?k ?e ?_); (case k => walk_at "sq"); (case e => exact rfl))
  | ((with_reducible refine' Tm.i_eqLL ?k1 ?k2 ?_); (case k1 => walk_at "sq"); (case k2 => walk_at "sq"))
  | ((with_reducible refine' Tm.i_neLL ?k1 ?k2 ?_); (case k1 => walk_at "sq"); (case k2 => walk_at "sq"))
  | ((with_reducible refine' Tm.i_eqTT ?k1 ?k2 ?_); (case k1 => walk_at "sq"); (case k2 => walk_at "sq"))
  | with_reducible refine' Tm.i_lstRev ?_
  | with_reducible refine' Tm.i_kLc2T ?_
  | with_reducible refine' Tm.i_kLc2F ?_)
local macro_rules | `(tactic| walk_at "go") => `(tactic| repeat walk_at "s")
namespace P05
open PySem PySem.Spec PyProof.Rows L2 Tm
abbrev St := L2.St
def topS (i : Nat) : Stmt := PySem.Challenge.pw_tidemark_k05_numbers_as_octets.main.body.getD i (.Pass ⟨0, 0, 0, 0⟩)
abbrev s_number_row : Stmt := topS 1
abbrev N_number_row : List Str := ["number", "width", "row", "rest", "_"]
theorem sc_number_row : FnScope N_number_row ["number", "width"] (defScope s_number_row) := ⟨rfl, rfl, rfl, by decide +kernel, rfl, by decide +kernel, by decide +kernel⟩
abbrev s_row_number : Stmt := topS 2
abbrev N_row_number : List Str := ["row", "number", "octet"]
theorem sc_row_number : FnScope N_row_number ["row"] (defScope s_row_number) := ⟨rfl, rfl, rfl, by decide +kernel, rfl, by decide +kernel, by decide +kernel⟩
abbrev s__law_draws : Stmt := topS 4
abbrev N__law_draws : List Str := ["script", "count", "draws", "k", "cell"]
theorem sc__law_draws : FnScope N__law_draws ["script", "count"] (defScope s__law_draws) := ⟨rfl, rfl, rfl, by decide +kernel, rfl, by decide +kernel, by decide +kernel⟩
abbrev s_law : Stmt := topS 5
abbrev N_law : List Str := ["script", "draws", "width", "limit", "again", "number", "row", "rest", "octets", "value", "octet", "k"]
theorem sc_law : FnScope N_law ["script"] (defScope s_law) := ⟨rfl, rfl, rfl, by decide +kernel, rfl, by decide +kernel, by decide +kernel⟩
/-- where the text's things stand -/
structure Ad where
  f_number_row : Addr
  d_number_row : FuncData
  f_row_number : Addr
  d_row_number : FuncData
  f__law_draws : Addr
  d__law_draws : FuncData
  f_law : Addr
  d_law : FuncData
/-- what the top has written -/
structure Txt (K : PySem.W.Frag) (mg : Str → Option Value) (a : Ad) : Prop where
  F_number_row : Fun K "number_row" "number_row" s_number_row a.f_number_row a.d_number_row
  b_number_row : Binds K a.d_number_row ["number", "width"] []
  g_number_row : mg "number_row" = some (.ref a.f_number_row)
  F_row_number : Fun K "row_number" "row_number" s_row_number a.f_row_number a.d_row_number
  b_row_number : Binds K a.d_row_number ["row"] []
  g_row_number : mg "row_number" = some (.ref a.f_row_number)
  F__law_draws : Fun K "_law_draws" "_law_draws" s__law_draws a.f__law_draws a.d__law_draws
  b__law_draws : Binds K a.d__law_draws ["script", "count"] []
  g__law_draws : mg "_law_draws" = some (.ref a.f__law_draws)
  F_law : Fun K "law" "law" s_law a.f_law a.d_law
  b_law : Binds K a.d_law ["script"] []
  g_law : mg "law" = some (.ref a.f_law)
  z_list : mg "list" = none
  z_reversed : mg "reversed" = none
  z_range : mg "range" = none
  z_len : mg "len" = none
  z_int : mg "int" = none

/-! the mathematics: the octets of a number -/
def lit (n : Nat) (r : Int) : List Int := (List.range n).map fun j => r / 256 ^ j % 256
def rowOf (n : Nat) (r : Int) : List Int := (lit n r).reverse
def numOf (l : List Int) : Int := l.foldl (fun n o => n * 256 + o) 0
theorem lit_succ (n : Nat) (r : Int) : lit (n + 1) r = lit n r ++ [r / 256 ^ n % 256] := by
  unfold lit; rw [List.range_succ, List.map_append]; rfl
theorem lit_len (n : Nat) (r : Int) : (lit n r).length = n := by unfold lit; rw [List.length_map, List.length_range]
theorem rowOf_succ (n : Nat) (r : Int) : rowOf (n + 1) r = (r / 256 ^ n % 256) :: rowOf n r := by
  unfold rowOf; rw [lit_succ, List.reverse_append]; rfl
theorem rowOf_len (n : Nat) (r : Int) : (rowOf n r).length = n := by unfold rowOf; rw [List.length_reverse, lit_len]
theorem foldl_from (l : List Int) : ∀ z : Int, l.foldl (fun n o => n * 256 + o) z = z * 256 ^ l.length + numOf l := by
  induction l with
  | nil => intro z; simp [numOf]
  | cons x xs ih =>
    intro z
    show xs.foldl _ (z * 256 + x) = _
    have e : numOf (x :: xs) = xs.foldl (fun n o => n * 256 + o) (0 * 256 + x) := rfl
    rw [ih, e, ih, List.length_cons, Int.pow_succ]
    grind
theorem numOf_cons (x : Int) (l : List Int) : numOf (x :: l) = x * 256 ^ l.length + numOf l := by
  show l.foldl _ (0 * 256 + x) = _
  rw [foldl_from]; grind
theorem div_pow_succ (r : Int) (n : Nat) : r / 256 ^ (n + 1) = r / 256 ^ n / 256 := by
  rw [Int.pow_succ, Int.ediv_ediv_of_nonneg (Int.le_of_lt (Int.pow_pos (by decide)))]
theorem numOf_rowOf (r : Int) : ∀ n : Nat, numOf (rowOf n r) = r - 256 ^ n * (r / 256 ^ n)
  | 0 => by show (0 : Int) = r - 1 * (r / 1); rw [Int.ediv_one]; omega
  | n + 1 => by
    rw [rowOf_succ, numOf_cons, rowOf_len, numOf_rowOf r n, div_pow_succ, Int.pow_succ]
    have e : r / 256 ^ n % 256 = r / 256 ^ n - 256 * (r / 256 ^ n / 256) := by omega
    rw [e]
    grind
theorem numOf_row (r : Int) (n : Nat) (h0 : 0 ≤ r) (h1 : r < 256 ^ n) : numOf (rowOf n r) = r := by
  rw [numOf_rowOf, Int.ediv_eq_zero_of_lt h0 h1]; omega
theorem numOf_take {l : List Int} {i : Nat} {z : Int} (h : l[i]? = some z) : numOf (l.take (i + 1)) = numOf (l.take i) * 256 + z := by
  unfold numOf
  rw [List.take_add_one, h, List.foldl_append]; rfl
theorem len4 {ds : List Int} (h : ds.length = 4) : ∃ a b c d, ds = [a, b, c, d] := by
  match ds, h with
  | [a, b, c, d], _ => exact ⟨a, b, c, d, rfl⟩

section
variable {P : Program} {w : World} {K : PySem.W.Frag} {mg : Str → Option Value} {base : Heap} {a : Ad}
def sp_number_row (K : PySem.W.Frag) : Sp := fun vs H Q _ => ∃ (r wd : Int), vs = [.int r, .int wd] ∧ 0 ≤ wd ∧ wd ≤ 100 ∧
  ∀ H' p, Same H H' → H p = none → H' p = some (.lst ((rowOf wd.toNat r).map V.int)) → Q (.ref p) H'
theorem ok_number_row (T : Txt K mg a) : FnOk P w K mg base CX0 1 a.f_number_row a.d_number_row ["number", "width"] (sp_number_row K) := by
  refine T.F_number_row.ok sc_number_row (fun vs H Q E h => ?_) (fun cdv A outer s H vs Q E hr h => ?_)
  · obtain ⟨r, wd, rfl, w0, w1, q⟩ := h
    rfl
  · obtain ⟨r, wd, rfl, w0, w1, q⟩ := h
    refine ⟨_, (pss_cons (ps_set (i := 2) sc_number_row.nd rfl (.inl rfl) (pe_lst pa_nil))
        (pss_cons (ps_set (i := 3) sc_number_row.nd rfl (.inl rfl) (pv 0))
        (pss_cons (ps_for PassesOwn.never rfl (pi_range1 (by rfl) T.z_range (pa_cons (pv 1) pa_nil)) (pg_name (i := 4) sc_number_row.nd rfl (.inl rfl)) (pss_cons (ps_expr (pe_bm PySem.F.plainAttrs_list PySem.F.slot_list_append PySem.F.type_list_append mt_append (pv 2) (pa_cons (pe_op op_and (pv 3) pe_int) pa_nil)))
        (pss_one (ps_set (i := 3) sc_number_row.nd rfl (.inl rfl) (pe_op op_shr (pv 3) pe_int)))))
        (pss_one (ps_ret (pe_listRev rfl (by rfl) T.z_list (by rfl) T.z_reversed (pv 2))))))), ?_⟩
    refine i_st (σ' := [some (.int r), some (.int wd), none, none, none]) rfl ?_
    walk_at "go"
    refine i_kLst (Nat.zero_le _) fun p hp => ?_
    walk_at "go"
    refine i_forR0 (fun i σ H1 => ∃ y4, σ = [some (.int r), some (.int wd), some (.ref p), some (.int (r / 256 ^ i)), y4] ∧ Same H H1 ∧ H1 p = some (.lst ((lit i r).map V.int)))
      ⟨none, by rw [show r / 256 ^ 0 = r by rw [Int.pow_zero, Int.ediv_one]], same_upd hp, upd_same⟩ ?_ ?_
    · rintro i σ H1 hi ⟨y4, rfl, sm, hP⟩
      walk_at "go"
      refine i_append hP (small1000 (by rw [List.length_map, lit_len]; omega)) ?_
      walk_at "go"
      refine ⟨some (.int i), ?_, fun x o e => upd_get (ne_of_none e hp) (sm x o e), ?_⟩
      · rw [div_pow_succ]
        rfl
      · rw [upd_same, lit_succ, List.map_append, PyProof.Rows.bitAnd_m8]; rfl
    · rintro σ H1 ⟨y4, rfl, sm, hP⟩
      walk_at "go"
      refine i_kLstRev (SqL.of hP) fun t ht => ?_
      have e : ((lit wd.toNat r).map V.int).reverse = (rowOf wd.toNat r).map V.int := by rw [← List.map_reverse]; rfl
      rw [e]
      exact q _ t (Same.trans sm (same_upd ht)) (Same.free sm ht) upd_same
def sp_row_number (K : PySem.W.Frag) : Sp := fun vs H Q _ => ∃ (b : Addr) (l : List Int), vs = [.ref b] ∧ SqL K H b (l.map V.int) ∧ Q (.int (numOf l)) H
theorem ok_row_number (T : Txt K mg a) : FnOk P w K mg base CX0 1 a.f_row_number a.d_row_number ["row"] (sp_row_number K) := by
  refine T.F_row_number.ok sc_row_number (fun vs H Q E h => ?_) (fun cdv A outer s H vs Q E hr h => ?_)
  · obtain ⟨b, l, rfl, hS, q⟩ := h
    rfl
  · obtain ⟨b, l, rfl, hS, q⟩ := h
    refine ⟨_, (pss_cons (ps_set (i := 1) sc_row_number.nd rfl (.inl rfl) pe_int)
        (pss_cons (ps_for PassesOwn.never rfl (q_pil (K := K) (pv 0)) (pg_name (i := 2) sc_row_number.nd rfl (.inl rfl)) (pss_one (ps_set (i := 1) sc_row_number.nd rfl (.inl rfl) (pe_op op_add (pe_op op_mul (pv 1) pe_int) (pv 2)))))
        (pss_one (ps_ret (pv 1))))), ?_⟩
    refine i_st (σ' := [some (.ref b), none, none]) rfl ?_
    walk_at "go"
    refine i_forL (l.map V.int) (fun i σ H1 => ∃ y2, σ = [some (.ref b), some (.int (numOf (l.take i))), y2] ∧ H1 = H) ⟨none, rfl, rfl⟩ ?_ ?_ ?_
    · rintro i σ H1 _ ⟨_, _, rfl⟩
      exact hS
    · rintro i x σ H1 hx ⟨y2, rfl, rfl⟩
      obtain ⟨z, hz, rfl⟩ := map_at hx
      walk_at "go"
      exact ⟨_, by rw [numOf_take hz], rfl⟩
    · rintro σ H1 ⟨y2, rfl, rfl⟩
      walk_at "go"
      rw [List.length_map, List.take_length]
      exact q
def sp__law_draws (K : PySem.W.Frag) : Sp := fun vs H Q _ => ∃ (b : Addr) (ns : List Int) (n : Int), vs = [.ref b, .int n] ∧ SqL K H b (ns.map V.int) ∧ 0 ≤ n ∧ n ≤ 63 ∧
  ∀ H' p (ds : List Int), Same H H' → H p = none → H' p = some (.lst (ds.map V.int)) → ds.length = n.toNat → (∀ d ∈ ds, 0 ≤ d) → Q (.ref p) H'
theorem ok__law_draws (T : Txt K mg a) : FnOk P w K mg base CX0 1 a.f__law_draws a.d__law_draws ["script", "count"] (sp__law_draws K) := by
  refine T.F__law_draws.ok sc__law_draws (fun vs H Q E h => ?_) (fun cdv A outer s H vs Q E hr h => ?_)
  · obtain ⟨b, ns, n, rfl, hS, n0, n1, q⟩ := h
    rfl
  · obtain ⟨b, ns, n, rfl, hS, n0, n1, q⟩ := h
    refine ⟨_, (pss_cons (ps_set (i := 2) sc__law_draws.nd rfl (.inl rfl) (pe_lst pa_nil))
        (pss_cons (ps_for PassesOwn.never rfl (pi_range1 (by rfl) T.z_range (pa_cons (pv 1) pa_nil)) (pg_name (i := 3) sc__law_draws.nd rfl (.inl rfl)) (pss_cons (ps_set (i := 4) sc__law_draws.nd rfl (.inl rfl) pe_int)
        (C8.pss_cut (ps_if (pt_cmpR op_gt (pe_callB (q_len (K := K)) (by rfl) T.z_len (by decide +kernel) (pa_cons (pv 0) pa_nil)) pe_int (nomark _)) (pss_one (ps_set (i := 4) sc__law_draws.nd rfl (.inl rfl) (pe_callTy c_int (by rfl) T.z_int (by decide +kernel) (pa_cons (pe_ix (q_ixl (K := K)) (pv 0) (pe_op op_mod (pv 3) (pe_callB (q_len (K := K)) (by rfl) T.z_len (by decide +kernel) (pa_cons (pv 0) pa_nil))) (fun _ _ => rfl)) pa_nil)))) pss_nil)
        (C8.pss_cut (ps_if (pt_cmpR op_lt (pv 4) pe_int (nomark _)) (pss_one (ps_set (i := 4) sc__law_draws.nd rfl (.inl rfl) (pe_op op_sub pe_int (pe_op op_mul pe_int (pv 4))))) pss_nil)
        (C8.pss_cut (ps_if (PW.pt (pw_or (pt_cmpR op_lt (pv 4) pe_int (nomark _)) (pw_or1 (pt_cmpR op_ge (pv 3) (pe_callB (q_len (K := K)) (by rfl) T.z_len (by decide +kernel) (pa_cons (pv 0) pa_nil)) (nomark _))))) (pss_cons (ps_set (i := 4) sc__law_draws.nd rfl (.inl rfl) (pe_op op_mod (pe_callTy c_int (by rfl) T.z_int (by decide +kernel) (pa_cons (pe_op op_add (pe_op op_mul (pv 4) pe_int) (pe_op op_mul pe_int (pe_op op_add (pv 3) pe_int))) pa_nil)) pe_int))
        (pss_one (ps_set (i := 4) sc__law_draws.nd rfl (.inl rfl) (pe_op op_mod (pe_callTy c_int (by rfl) T.z_int (by decide +kernel) (pa_cons (pe_op op_add (pe_op op_add (pe_op op_mul (pv 4) pe_int) pe_int) (pv 3)) pa_nil)) pe_int)))) pss_nil)
        (pss_one (ps_expr (pe_bm PySem.F.plainAttrs_list PySem.F.slot_list_append PySem.F.type_list_append mt_append (pv 2) (pa_cons (pv 4) pa_nil)))))))))
        (pss_one (ps_ret (pv 2))))), ?_⟩
    refine i_st (σ' := [some (.ref b), some (.int n), none, none, none]) rfl ?_
    walk_at "go"
    refine i_kLst (Nat.zero_le _) fun p hp => ?_
    walk_at "go"
    refine i_forR0 (fun i σ H1 => ∃ (ds : List Int) (y3 y4 : Option V), σ = [some (.ref b), some (.int n), some (.ref p), y3, y4] ∧ Same H H1 ∧ H1 p = some (.lst (ds.map V.int)) ∧ ds.length = i ∧ ∀ d ∈ ds, 0 ≤ d)
      ⟨[], none, none, rfl, same_upd hp, upd_same, rfl, by simp⟩ ?_ ?_
    · rintro i σ H1 hi ⟨ds, y3, y4, rfl, sm, hP, hl, h0⟩
      have hS1 : SqL K H1 b (ns.map V.int) := sm.seq hS
      have hlen : ((ns.map V.int).length : Int) = ns.length := by rw [List.length_map]
      walk_at "go"
      refine i_cut (fun σ' H' => H' = H1 ∧ ∃ c : Int, σ' = [some (.ref b), some (.int n), some (.ref p), some (.int i), some (.int c)]) ?_ ?_
      · walk_at "go"
        refine i_kIfd (fun h => ?_) (fun h => ?_)
        · walk_at "go"
          rw [hlen] at h
          have hlt := Int.emod_lt_of_pos (i : Int) h
          have hge := Int.emod_nonneg (i : Int) (Int.ne_of_gt h)
          rw [hlen]
          refine i_ixL hS1 (atI_map V.int ns _ 0 hge hlt) ?_
          walk_at "go"
          exact ⟨rfl, _, rfl⟩
        · walk_at "go"
          exact ⟨rfl, _, rfl⟩
      rintro σ2 H2 ⟨rfl, c, rfl⟩
      refine i_cut (fun σ' H' => H' = H2 ∧ ∃ c : Int, 0 ≤ c ∧ σ' = [some (.ref b), some (.int n), some (.ref p), some (.int i), some (.int c)]) ?_ ?_
      · walk_at "go"
        refine i_kIfd (fun h => ?_) (fun h => ?_)
        · walk_at "go"
          exact ⟨rfl, _, by omega, rfl⟩
        · walk_at "go"
          exact ⟨rfl, _, by omega, rfl⟩
      rintro σ3 H3 ⟨rfl, c2, hc2, rfl⟩
      refine i_cut (fun σ' H' => H' = H3 ∧ ∃ c : Int, 0 ≤ c ∧ σ' = [some (.ref b), some (.int n), some (.ref p), some (.int i), some (.int c)]) ?_ ?_
      · walk_at "go"
        refine i_kOr (fun _ => ?_) (fun _ => ?_)
        · walk_at "go"
          exact ⟨rfl, _, Int.emod_nonneg _ (by decide), rfl⟩
        · walk_at "go"
          refine i_kIfd (fun h => ?_) (fun h => ?_)
          · walk_at "go"
            exact ⟨rfl, _, Int.emod_nonneg _ (by decide), rfl⟩
          · walk_at "go"
            exact ⟨rfl, _, hc2, rfl⟩
      rintro σ4 H4 ⟨rfl, c3, hc3, rfl⟩
      walk_at "go"
      refine i_append hP (small1000 (by rw [List.length_map]; omega)) ?_
      walk_at "go"
      refine ⟨ds ++ [c3], _, _, rfl, fun x o e => upd_get (ne_of_none e hp) (sm x o e), by rw [upd_same, List.map_append]; rfl, by rw [List.length_append, hl]; rfl, fun d hd => ?_⟩
      rcases List.mem_append.mp hd with hd | hd
      · exact h0 d hd
      · rw [List.mem_singleton.mp hd]; exact hc3
    · rintro σ H1 ⟨ds, y3, y4, rfl, sm, hP, hl, h0⟩
      walk_at "go"
      exact q H1 p ds sm hp hP hl h0
def sp_law (K : PySem.W.Frag) : Sp := fun vs H Q _ => ∃ (b : Addr) (ns : List Int), vs = [.ref b] ∧ SqL K H b (ns.map V.int) ∧ ns.length ≤ 63 ∧ ∀ H', Q (.bl true) H'
theorem law_start {K : PySem.W.Frag} {H : Hp} {b : Addr} {ns : List Int} (hl : ns.length ≤ 63) (hO : Only H) (hS : SqL K H b (ns.map V.int)) : sp_law K [.ref b] H (fun v _ => v = .bl true) (fun _ _ _ => False) := ⟨b, ns, rfl, hS, hl, fun _ => rfl⟩
theorem ok_law (T : Txt K mg a) : FnOk P w K mg base CX0 2 a.f_law a.d_law ["script"] (sp_law K) := by
  refine T.F_law.ok sc_law (fun vs H Q E h => ?_) (fun cdv A outer s H vs Q E hr h => ?_)
  · obtain ⟨b, ns, rfl, hS, hlen, q⟩ := h
    rfl
  · obtain ⟨b, ns, rfl, hS, hlen, q⟩ := h
    refine ⟨_, (pss_cons (ps_set (i := 1) sc_law.nd rfl (.inr rfl) (pe_call (ok__law_draws (K := K) T) (hr.mono (by decide)) (by rfl) T.g__law_draws T.F__law_draws.kp T.b__law_draws .nil pass0 (pa_cons (pv 0) (pa_cons pe_int pa_nil))))
        (pss_cons (ps_set (i := 2) sc_law.nd rfl (.inl rfl) (pe_op op_add pe_int (pe_op op_mod (pe_ix (q_ixl (K := K)) (pv 1) pe_int (fun _ _ => rfl)) pe_int)))
        (pss_cons (ps_set (i := 3) sc_law.nd rfl (.inl rfl) pe_int)
        (pss_cons (ps_for PassesOwn.never rfl (pi_range1 (by rfl) T.z_range (pa_cons (pv 2) pa_nil)) (pg_name (i := 4) sc_law.nd rfl (.inl rfl)) (pss_one (ps_set (i := 3) sc_law.nd rfl (.inl rfl) (pe_op op_mul (pv 3) pe_int))))
        (pss_cons (ps_set (i := 5) sc_law.nd rfl (.inl rfl) (pe_op op_mod (pe_ix (q_ixl (K := K)) (pv 1) pe_int (fun _ _ => rfl)) (pv 3)))
        (C8.pss_cut (ps_if (pt_cmpR op_eq (pe_op op_mod (pe_ix (q_ixl (K := K)) (pv 1) pe_int (fun _ _ => rfl)) pe_int) pe_int (nomark _)) (pss_one (ps_set (i := 5) sc_law.nd rfl (.inl rfl) (pe_op op_sub (pe_op op_sub (pv 3) pe_int) (pe_op op_mod (pe_ix (q_ixl (K := K)) (pv 1) pe_int (fun _ _ => rfl)) pe_int)))) pss_nil)
        (pss_cons (ps_set (i := 6) sc_law.nd rfl (.inl rfl) (pe_lst pa_nil))
        (pss_cons (ps_set (i := 7) sc_law.nd rfl (.inl rfl) (pv 5))
        (pss_cons (ps_for PassesOwn.never rfl (pi_range1 (by rfl) T.z_range (pa_cons (pv 2) pa_nil)) (pg_name (i := 4) sc_law.nd rfl (.inl rfl)) (pss_cons (ps_set (i := 6) sc_law.nd rfl (.inl rfl) (pe_op op_cat (pe_lst (pa_cons (pe_op op_mod (pe_callTy c_int (by rfl) T.z_int (by decide +kernel) (pa_cons (pv 7) pa_nil)) pe_int) pa_nil)) (pv 6)))
        (pss_one (ps_set (i := 7) sc_law.nd rfl (.inl rfl) (pe_op op_fdiv (pv 7) pe_int)))))
        (pss_cons (ps_if (PW.pt (pw_or (pt_cmpR (q_neD (K := K) hr.units) (pe_call (ok_number_row (K := K) T) (hr.mono (by decide)) (by rfl) T.g_number_row T.F_number_row.kp T.b_number_row .nil pass0 (pa_cons (pv 5) (pa_cons (pv 2) pa_nil))) (pv 6) (nomark _)) (pw_or (pt_cmpR op_ne (pe_call (ok_row_number (K := K) T) (hr.mono (by decide)) (by rfl) T.g_row_number T.F_row_number.kp T.b_row_number .nil pass0 (pa_cons (pv 6) pa_nil)) (pv 5) (nomark _)) (pw_or1 (pt_cmpR op_ne (pe_call (ok_row_number (K := K) T) (hr.mono (by decide)) (by rfl) T.g_row_number T.F_row_number.kp T.b_row_number .nil pass0 (pa_cons (pe_op op_cat (pe_lst (pa_cons pe_int pa_nil)) (pv 6)) pa_nil)) (pv 5) (nomark _)))))) (pss_one (ps_ret pe_bl)) pss_nil)
        (pss_cons (ps_setLc (i := 8) (own := [("k", 11)]) (g := gName 11) (tt := tYes) rfl sc_law.nd rfl rfl (sw_true rfl rfl rfl (by decide +kernel)) (pi_range1 (by rfl) T.z_range (pa_cons (pe_op op_mod (pe_ix (q_ixl (K := K)) (pv 1) pe_int (fun _ _ => rfl)) pe_int) pa_nil)) (blkOk_by (own := [("k", 11)]) (N := N_law) (sc := defScope s_law) (by decide +kernel)) (fun _ _ _ _ _ => pg_name (i := 11) sc_law.nd rfl (Or.inl rfl)) (fun _ _ _ _ _ => pts_nil) (fun _ _ _ _ _ => (pe_op op_mod (pe_callTy c_int (by rfl) T.z_int (by decide +kernel) (pa_cons (pe_op op_fdiv (pe_ix (q_ixl (K := K)) (pv 1) pe_int (fun _ _ => rfl)) (pe_op op_add (pv 11) pe_int)) pa_nil)) pe_int)))
        (pss_cons (ps_set (i := 9) sc_law.nd rfl (.inl rfl) pe_int)
        (pss_cons (ps_for PassesOwn.never rfl (q_pil (K := K) (pv 8)) (pg_name (i := 10) sc_law.nd rfl (.inl rfl)) (pss_one (ps_set (i := 9) sc_law.nd rfl (.inl rfl) (pe_op op_add (pe_op op_mul pe_int (pv 9)) (pv 10)))))
        (pss_one (ps_ret (pe_cmpR op_eq (pe_call (ok_row_number (K := K) T) (hr.mono (by decide)) (by rfl) T.g_row_number T.F_row_number.kp T.b_row_number .nil pass0 (pa_cons (pv 8) pa_nil)) (pv 9) (nomark _))))))))))))))))), ?_⟩
    refine i_st (σ' := [some (.ref b), none, none, none, none, none, none, none, none, none, none, none]) rfl ?_
    walk_at "go"
    refine ⟨b, ns, 4, rfl, hS, by decide, by decide, fun H1 p ds sm np hp hl hd => ?_⟩
    obtain ⟨d0, d1, d2, d3, rfl⟩ := len4 hl
    have g0 : 0 ≤ d0 := hd _ (by simp)
    have g1 : 0 ≤ d1 := hd _ (by simp)
    have g2 : 0 ≤ d2 := hd _ (by simp)
    have g3 : 0 ≤ d3 := hd _ (by simp)
    have hpS : SqL K H1 p [.int d0, .int d1, .int d2, .int d3] := SqL.of hp
    walk_at "go"
    refine i_forR0 (fun i σ H' => H' = H1 ∧ ∃ y4, σ = [some (.ref b), some (.ref p), some (.int (1 + d0 % 4)), some (.int (256 ^ i)), y4, none, none, none, none, none, none, none]) ⟨rfl, none, rfl⟩ ?_ ?_
    · rintro i σ H2 hi ⟨rfl, y4, rfl⟩
      walk_at "go"
      exact ⟨rfl, some (.int i), by rw [Int.pow_succ]⟩
    rintro σ H2 ⟨rfl, y4, rfl⟩
    obtain ⟨wn, hw⟩ : ∃ wn : Nat, (1 + d0 % 4).toNat = wn := ⟨_, rfl⟩
    have hw2 : 1 + d0 % 4 = (wn : Int) := by omega
    have hw3 : 1 ≤ wn ∧ wn ≤ 4 := by omega
    have hL : (256 : Int) ≤ 256 ^ wn := by
      have : wn = 1 ∨ wn = 2 ∨ wn = 3 ∨ wn = 4 := by omega
      rcases this with rfl | rfl | rfl | rfl <;> decide
    have hL0 : (0 : Int) < 256 ^ wn := by omega
    rw [hw, hw2]
    walk_at "go"
    refine i_cut (fun σ' H' => H' = H2 ∧ ∃ r : Int, 0 ≤ r ∧ r < 256 ^ wn ∧ σ' = [some (.ref b), some (.ref p), some (.int wn), some (.int (256 ^ wn)), y4, some (.int r), none, none, none, none, none, none]) ?_ ?_
    · walk_at "go"
      refine i_kIfd (fun h => ?_) (fun h => ?_)
      · walk_at "go"
        exact ⟨rfl, _, by omega, by omega, rfl⟩
      · walk_at "go"
        exact ⟨rfl, _, Int.emod_nonneg _ (by omega), Int.emod_lt_of_pos _ hL0, rfl⟩
    rintro σ H3 ⟨rfl, r, r0, r1, rfl⟩
    have hnum := numOf_row r wn r0 r1
    clear r1 hL hL0
    walk_at "go"
    refine i_kLst (Nat.zero_le _) fun x0 hx0 => ?_
    walk_at "go"
    refine i_forR0 (fun i σ H' => ∃ (x : Addr) (y4 : Option V), σ = [some (.ref b), some (.ref p), some (.int wn), some (.int (256 ^ wn)), y4, some (.int r), some (.ref x), some (.int (r / 256 ^ i)), none, none, none, none] ∧ Same H3 H' ∧ H' x = some (.lst ((rowOf i r).map V.int)))
      ⟨x0, y4, by rw [show r / 256 ^ 0 = r by rw [Int.pow_zero, Int.ediv_one]], same_upd hx0, upd_same⟩ ?_ ?_
    · rintro i σ H4 hi ⟨x, y4, rfl, sm4, hX⟩
      walk_at "go"
      refine i_kLst (sz (by simp)) fun t ht => ?_
      walk_at "go"
      refine i_cat (by walk_at "hp") (by walk_at "hp") (sz (by simp [rowOf_len]; omega)) fun u hu => ?_
      walk_at "go"
      refine ⟨u, some (.int i), by rw [div_pow_succ], Same.trans sm4 (Same.trans (same_upd ht) (same_upd hu)), ?_⟩
      rw [upd_same, rowOf_succ]; rfl
    rintro σ H4 ⟨x, y4, rfl, sm4, hX⟩
    have hX' : H4 x = some (.lst ((rowOf wn r).map V.int)) := hX
    walk_at "go"
    refine ⟨r, wn, rfl, by omega, by omega, fun H5 t sm5 nt hT => ?_⟩
    rw [Int.toNat_natCast] at hT
    have hX5 : H5 x = some (.lst ((rowOf wn r).map V.int)) := sm5 _ _ hX'
    walk_at "go"
    refine i_kOr (fun h => by simp at h) (fun _ => ?_)
    walk_at "go"
    refine ⟨x, rowOf wn r, rfl, SqL.of hX5, ?_⟩
    walk_at "go"
    refine i_kOr (fun h => by rw [hnum] at h; simp at h) (fun _ => ?_)
    walk_at "go"
    refine i_kLst (sz (by simp)) fun u hu => ?_
    walk_at "go"
    refine i_cat (by walk_at "hp") (by walk_at "hp") (sz (by simp [rowOf_len]; omega)) fun v hv => ?_
    walk_at "go"
    refine ⟨v, 0 :: rowOf wn r, rfl, SqL.of upd_same, ?_⟩
    walk_at "go"
    have e0 : numOf (0 :: rowOf wn r) = r := by rw [numOf_cons, hnum]; omega
    rw [e0, decide_eq_true (rfl : r = r)]
    walk_at "go"
    generalize hH6 : upd (upd H5 u (HO.lst [V.int 0])) v (HO.lst ([V.int 0] ++ List.map V.int (rowOf wn r))) = H6
    have hp6 : SqL K H6 p [.int d0, .int d1, .int d2, .int d3] := by
      rw [← hH6]
      exact sqL_new hv (sqL_new hu (sm5.seq (sm4.seq hpS)))
    refine i_lcR0 (fun D i H' => ∃ os : List Int, os.length = i ∧ Same H6 H' ∧ H' D = some (.lst (os.map V.int))) (fun D hD => ⟨[], rfl, same_upd hD, upd_same⟩) ?_ ?_
    · rintro D i H' hD hi ⟨os, ho, smo, hO⟩
      have hp7 := smo.seq hp6
      walk_at "go"
      refine i_kLc3 hO (small1000 (by rw [List.length_map]; omega)) ⟨os ++ [_], by rw [List.length_append, ho]; rfl, fun x o e => upd_get (ne_of_none e hD) (smo x o e), by rw [upd_same, List.map_append]; rfl⟩
    rintro D H7 hD ⟨os, ho, smo, hO⟩
    walk_at "go"
    refine i_forL (os.map V.int) (fun i σ H' => H' = H7 ∧ ∃ y10, σ = [some (.ref b), some (.ref p), some (.int wn), some (.int (256 ^ wn)), y4, some (.int r), some (.ref x), some (.int (r / 256 ^ (wn : Int).toNat)), some (.ref D), some (.int (numOf (os.take i))), y10, none]) ⟨rfl, none, rfl⟩ ?_ ?_ ?_
    · rintro i σ H' _ ⟨rfl, _⟩
      exact SqL.of hO
    · rintro i x σ H' hx ⟨rfl, y10, rfl⟩
      obtain ⟨z, hz, rfl⟩ := map_at hx
      walk_at "go"
      exact ⟨rfl, _, by rw [numOf_take hz, Int.mul_comm]⟩
    rintro σ H' ⟨rfl, y10, rfl⟩
    walk_at "go"
    refine ⟨D, os, rfl, SqL.of hO, ?_⟩
    walk_at "go"
    rw [List.length_map, List.take_length, decide_eq_true (rfl : numOf os = numOf os)]
    exact q _
end
/-! ### what the top has left -/
theorem all_facts {K : PySem.W.Frag} {h : Heap} {mg : Str → Option Value} {fa : Addr} (X : K.In h) (G : h.Ns mainGlobals mg) (hfa : mg "law" = some (.ref fa))
    {od0 an0 : Option Addr} {sl0 : Array (Option Value)} {oc0 kV0 dc0 pm0 cd0 ct0 : Value} {f0 : Addr}
    {od1 an1 : Option Addr} {sl1 : Array (Option Value)} {oc1 kV1 dc1 pm1 cd1 ct1 : Value} {f1 : Addr}
    {od2 an2 : Option Addr} {sl2 : Array (Option Value)} {oc2 kV2 dc2 pm2 cd2 ct2 : Value} {f2 : Addr}
    {od3 an3 : Option Addr} {sl3 : Array (Option Value)} {oc3 kV3 dc3 pm3 cd3 ct3 : Value} {f3 : Addr}
    (a0 : PySem.W.nsIn K mainGlobals "number_row" = some (some (.ref f0)))
    (l0 : K.lookup f0 = some ⟨oc0, od0, .func (PySem.W.fnOf "number_row" "number_row" (defArgs s_number_row) (defBody s_number_row) (defScope s_number_row) .none kV0 dc0 pm0 an0 cd0 ct0), sl0⟩)
    (c0 : PySem.W.codeIn K cd0 "number_row" = true) (k0 : PySem.W.keepIn K (.ref f0) = true)
    (a1 : PySem.W.nsIn K mainGlobals "row_number" = some (some (.ref f1)))
    (l1 : K.lookup f1 = some ⟨oc1, od1, .func (PySem.W.fnOf "row_number" "row_number" (defArgs s_row_number) (defBody s_row_number) (defScope s_row_number) .none kV1 dc1 pm1 an1 cd1 ct1), sl1⟩)
    (c1 : PySem.W.codeIn K cd1 "row_number" = true) (k1 : PySem.W.keepIn K (.ref f1) = true)
    (a2 : PySem.W.nsIn K mainGlobals "_law_draws" = some (some (.ref f2)))
    (l2 : K.lookup f2 = some ⟨oc2, od2, .func (PySem.W.fnOf "_law_draws" "_law_draws" (defArgs s__law_draws) (defBody s__law_draws) (defScope s__law_draws) .none kV2 dc2 pm2 an2 cd2 ct2), sl2⟩)
    (c2 : PySem.W.codeIn K cd2 "_law_draws" = true) (k2 : PySem.W.keepIn K (.ref f2) = true)
    (a3 : PySem.W.nsIn K mainGlobals "law" = some (some (.ref f3)))
    (l3 : K.lookup f3 = some ⟨oc3, od3, .func (PySem.W.fnOf "law" "law" (defArgs s_law) (defBody s_law) (defScope s_law) .none kV3 dc3 pm3 an3 cd3 ct3), sl3⟩)
    (c3 : PySem.W.codeIn K cd3 "law" = true) (k3 : PySem.W.keepIn K (.ref f3) = true)
    (z_list : PySem.W.nsIn K mainGlobals "list" = some none)
    (z_reversed : PySem.W.nsIn K mainGlobals "reversed" = some none)
    (z_range : PySem.W.nsIn K mainGlobals "range" = some none)
    (z_len : PySem.W.nsIn K mainGlobals "len" = some none)
    (z_int : PySem.W.nsIn K mainGlobals "int" = some none) :
    ∃ fd : FuncData, (∀ (s : Shared) (v : Value), BindsTo s fd ⟨[v], []⟩ [("script", v)]) ∧ ∀ {P : Program} {w : World} (base : Heap), FnOk P w K mg base CX0 2 fa fd ["script"] (sp_law K) := by
  have e := hfa.symm.trans (PySem.W.mg_of X G a3)
  cases e
  have F0 := fun_mk (st := s_number_row) l0 c0 k0
  have B0 := F0.binds (ps := ["number", "width"]) fun _ _ _ _ _ _ us hl => match us, hl with | [_, _], _ => rfl
  have F1 := fun_mk (st := s_row_number) l1 c1 k1
  have B1 := F1.binds (ps := ["row"]) fun _ _ _ _ _ _ us hl => match us, hl with | [_], _ => rfl
  have F2 := fun_mk (st := s__law_draws) l2 c2 k2
  have B2 := F2.binds (ps := ["script", "count"]) fun _ _ _ _ _ _ us hl => match us, hl with | [_, _], _ => rfl
  have F3 := fun_mk (st := s_law) l3 c3 k3
  have B3 := F3.binds (ps := ["script"]) fun _ _ _ _ _ _ us hl => match us, hl with | [_], _ => rfl
  have T : Txt K mg ⟨f0, _, f1, _, f2, _, _, _⟩ := {
    F_number_row := F0
    b_number_row := B0
    g_number_row := PySem.W.mg_of X G a0
    F_row_number := F1
    b_row_number := B1
    g_row_number := PySem.W.mg_of X G a1
    F__law_draws := F2
    b__law_draws := B2
    g__law_draws := PySem.W.mg_of X G a2
    F_law := F3
    b_law := B3
    g_law := PySem.W.mg_of X G a3
    z_list := PySem.W.mg_none_of X G z_list
    z_reversed := PySem.W.mg_none_of X G z_reversed
    z_range := PySem.W.mg_none_of X G z_range
    z_len := PySem.W.mg_none_of X G z_len
    z_int := PySem.W.mg_none_of X G z_int
  }
  exact ⟨_, fun s v => .of_eq rfl, fun base => ok_law T⟩
end P05
open PySem PySem.W PyProof.Rows
set_option maxHeartbeats 0 in
theorem PySem.Challenge.cw_tidemark_k05_numbers_as_octets_holds : PySem.Challenge.rw_tidemark_k05_numbers_as_octets.Holds := by
  w_on; o_law; k_head; (case hw => w_witness2)
  k_fill
  refine L2.walk_ofK (l := PySem.Challenge.rw_tidemark_k05_numbers_as_octets) (n := 63) (k := 2) (x := "script") (CX := L2.CX0) (sp := P05.sp_law) rfl (by decide) rfl ⟨rfl, by decide, by decide⟩ (fun w h Y => PySem.W.kIn_of Y) ?F (fun K H b ns hl hO hS => P05.law_start hl hO hS) (fun _ _ _ _ z => z)
  case F =>
    intro w mg fa h KX G hmg
    have q := @P05.all_facts
    obtain ⟨fd, h1, h2⟩ : ∃ fd : FuncData, (∀ (s : Shared) (v : Value), BindsTo s fd ⟨[v], []⟩ [("script", v)]) ∧ ∀ {P : Program} {w' : World} (base : Heap), L2.FnOk P w' _ mg base L2.CX0 2 fa fd ["script"] (P05.sp_law _) := by
      refine' P05.all_facts KX G hmg ?a0 ?l0 ?c0 ?k0 ?a1 ?l1 ?c1 ?k1 ?a2 ?l2 ?c2 ?k2 ?a3 ?l3 ?c3 ?k3 ?z_list ?z_reversed ?z_range ?z_len ?z_int
      (case a0 => k_is); (case l0 => k_is); (case c0 => k_is); (case k0 => k_is); (case a1 => k_is); (case l1 => k_is)
      (case c1 => k_is); (case k1 => k_is); (case a2 => k_is); (case l2 => k_is); (case c2 => k_is); (case k2 => k_is)
      (case a3 => k_is); (case l3 => k_is); (case c3 => k_is); (case k3 => k_is); (case z_list => k_is); (case z_reversed => k_is)
      (case z_range => k_is); (case z_len => k_is); (case z_int => k_is)
    exact ⟨fd, h1, fun base _ _ => h2 base⟩
