import PyProof.Rows.All
import Wide.All
import OpenK.AllK
import Wide.FinOn
import HandS.ForMost
import HandS.Conv
import HandS.TupAny
import HandS.Wide
import HandS.Lambda
import HandS.Nested
import KE.KDflt
import HandS.ExcOwn
import KE.GoesComp
import KE.GoesMore
import HandS.TupLe
import HandS.Deep
import HandS.SetFor
import HandS.ExcIs
import HandS.RaiseMore
import HandS.FStr
import HandS.WordsExc
import KE.KExcIs
import HandS.ExcField
import HandS.Text
import HandS.Exc
import HandS.ExcInit
import HandS.New
import HandS.ClsMeth
import KE.GoesEnum
import HandS.Walk
import HandS.Zip
import HandS.Iter
import HandS.Style
import KE.GoesRaise
import HandS.Comp
import HandS.HeadWalk
import HandS.EndOwn
import HandS.IsInst
import HandS.SortInts
import HandS.HeadHook2
import HandS.Head0
import HandS.Head1
import HandS.Head2
import HandS.Head3
import HandS.HeadEnd
import HandS.HeadHook1
import PySem.Challenge.RW_onebreath_k12_texts_of_no_world
set_option Elab.async false
set_option linter.all false
set_option maxRecDepth 100000
set_option maxHeartbeats 0
namespace Obr
open PySem L2

/-! ### 1. A heap F that is spoken of, and what is hidden of the true heap H: J s F H, s the state of what is hidden -/
structure Hid {S : Type} (J : S → Hp → Hp → Prop) : Prop where
  ex : ∀ {s F H}, J s F H → ∀ a o, F a = some o → H a = some o
  al : ∀ {s F H p o}, J s F H → H p = none → J s (upd F p o) (upd H p o)
  mu : ∀ {s F H a o o'}, J s F H → F a = some o → J s (upd F a o') (upd H a o')

section
variable {S : Type} {J : S → Hp → Hp → Prop}
theorem Hid.fresh (hd : Hid J) {s F H p} (j : J s F H) (h : H p = none) : F p = none := by
  cases e : F p with
  | none => rfl
  | some o =>
    rw [hd.ex j _ _ e] at h
    cases h
theorem Hid.sqL (hd : Hid J) {s F H} (j : J s F H) {K a xs} (h : SqL K F a xs) : SqL K H a xs := by
  rcases h with (h | ⟨o, h⟩) | h
  · exact Or.inl (Or.inl (hd.ex j _ _ h))
  · exact Or.inl (Or.inr ⟨o, hd.ex j _ _ h⟩)
  · exact Or.inr h
theorem Hid.sqT (hd : Hid J) {s F H} (j : J s F H) {K a xs} (h : SqT K F a xs) : SqT K H a xs := by
  rcases h with (h | ⟨o, h⟩) | h
  · exact Or.inl (Or.inl (hd.ex j _ _ h))
  · exact Or.inl (Or.inr ⟨o, hd.ex j _ _ h⟩)
  · exact Or.inr h
end
/-- nothing hidden -/
theorem hid_eq : Hid (fun (_ : Unit) F H => F = H) where
  ex := fun {s F H} j a o h => by cases j; exact h
  al := fun {s F H p o} j h => by cases j; rfl
  mu := fun {s F H a o o'} j h => by cases j; rfl

/-! ### 2. What a reading comes to, over F -/
def EW {S : Type} (J : S → Hp → Hp → Prop) (te : TE) (σ : L2.St) (s : S) (F : Hp) (R : V → S → Hp → Prop) : Prop :=
  ∀ H, J s F H → ∀ Q : VK, (∀ v s' F' H', J s' F' H' → R v s' F' → Q v H') → te σ H Q
def TW {S : Type} (J : S → Hp → Hp → Prop) (tt : TT) (σ : L2.St) (s : S) (F : Hp) (R : Bool → S → Hp → Prop) : Prop :=
  ∀ H, J s F H → ∀ Q : Bool → Hp → Prop, (∀ b s' F' H', J s' F' H' → R b s' F' → Q b H') → tt σ H Q
def AW {S : Type} (J : S → Hp → Hp → Prop) (ta : TA) (σ : L2.St) (s : S) (F : Hp) (R : List V → S → Hp → Prop) : Prop :=
  ∀ H, J s F H → ∀ Q : List V → Hp → Prop, (∀ vs s' F' H', J s' F' H' → R vs s' F' → Q vs H') → ta σ H Q
def OW {S : Type} (J : S → Hp → Hp → Prop) (to : TO) (σ : L2.St) (s : S) (F : Hp) (R : Option Int → S → Hp → Prop) : Prop :=
  ∀ H, J s F H → ∀ Q : Option Int → Hp → Prop, (∀ o s' F' H', J s' F' H' → R o s' F' → Q o H') → to σ H Q
/-- an operation on values -/
def RW {S : Type} (J : S → Hp → Hp → Prop) (r : R2) (x y : V) (s : S) (F : Hp) (R : V → S → Hp → Prop) : Prop :=
  ∀ H, J s F H → ∀ Q : VK, (∀ v s' F' H', J s' F' H' → R v s' F' → Q v H') → r x y H Q
def UW {S : Type} (J : S → Hp → Hp → Prop) (r : V → Hp → VK → Prop) (x : V) (s : S) (F : Hp) (R : V → S → Hp → Prop) : Prop :=
  ∀ H, J s F H → ∀ Q : VK, (∀ v s' F' H', J s' F' H' → R v s' F' → Q v H') → r x H Q
def CW {S : Type} (J : S → Hp → Hp → Prop) (r : List V → Hp → VK → Prop) (vs : List V) (s : S) (F : Hp) (R : V → S → Hp → Prop) : Prop :=
  ∀ H, J s F H → ∀ Q : VK, (∀ v s' F' H', J s' F' H' → R v s' F' → Q v H') → r vs H Q
def MW {S : Type} (J : S → Hp → Hp → Prop) (r : V → List V → Hp → VK → Prop) (x : V) (vs : List V) (s : S) (F : Hp) (R : V → S → Hp → Prop) : Prop :=
  ∀ H, J s F H → ∀ Q : VK, (∀ v s' F' H', J s' F' H' → R v s' F' → Q v H') → r x vs H Q
def GW {S : Type} (J : S → Hp → Hp → Prop) (g : TG) (x : V) (σ : L2.St) (s : S) (F : Hp) (N : L2.St → S → Hp → Prop) : Prop :=
  ∀ H, J s F H → ∀ Q : L2.St → Hp → Prop, (∀ σ' s' F' H', J s' F' H' → N σ' s' F' → Q σ' H') → g x σ H Q
def GsW {S : Type} (J : S → Hp → Hp → Prop) (g : TGs) (xs : List V) (σ : L2.St) (s : S) (F : Hp) (N : L2.St → S → Hp → Prop) : Prop :=
  ∀ H, J s F H → ∀ Q : L2.St → Hp → Prop, (∀ σ' s' F' H', J s' F' H' → N σ' s' F' → Q σ' H') → g xs σ H Q
/-- where a statement may go, over F -/
structure En (S : Type) where
  nx : L2.St → S → Hp → Prop
  rt : V → S → Hp → Prop
  bk : L2.St → S → Hp → Prop := fun _ _ _ => False
  ct : L2.St → S → Hp → Prop := fun _ _ _ => False
structure Lf {S : Type} (J : S → Hp → Hp → Prop) (D : En S) (D' : Ends) : Prop where
  nx : ∀ σ s F H, J s F H → D.nx σ s F → D'.nx σ H
  rt : ∀ v s F H, J s F H → D.rt v s F → D'.rt v H
  bk : ∀ σ s F H, J s F H → D.bk σ s F → D'.bk σ H
  ct : ∀ σ s F H, J s F H → D.ct σ s F → D'.ct σ H
def SW {S : Type} (J : S → Hp → Hp → Prop) (t : TS) (D : En S) (σ : L2.St) (s : S) (F : Hp) : Prop := ∀ H, J s F H → ∀ D' : Ends, Lf J D D' → t D' σ H

section
variable {S : Type} {J : S → Hp → Hp → Prop} {K : PySem.W.Frag} {σ : L2.St} {s : S} {F : Hp} {R : V → S → Hp → Prop} {ta tb te : TE} {tr : TA} {x y v : V}

theorem EW.imp {R' : V → S → Hp → Prop} (h : EW J te σ s F R) (i : ∀ v s' F', R v s' F' → R' v s' F') : EW J te σ s F R' := fun H j Q q => h H j Q fun v s' F' H' j' r => q v s' F' H' j' (i _ _ _ r)

/-! expressions -/
theorem ew_var {i : Nat} (h : σ[i]? = some (some v)) (k : R v s F) : EW J (tVar i) σ s F R := fun H j Q q => ⟨v, h, q v s F H j k⟩
theorem ew_c (k : R v s F) : EW J (tC v) σ s F R := fun H j Q q => q v s F H j k
theorem ew_op {r : R2} (h : EW J ta σ s F fun x s1 F1 => EW J tb σ s1 F1 fun y s2 F2 => RW J r x y s2 F2 R) : EW J (tOp r ta tb) σ s F R := fun H j Q q =>
  h H j _ fun x s1 F1 H1 j1 h1 => h1 H1 j1 _ fun y s2 F2 H2 j2 h2 => h2 H2 j2 Q q
theorem ew_cb {r : List V → Hp → VK → Prop} (h : AW J tr σ s F fun vs s1 F1 => CW J r vs s1 F1 R) : EW J (tCB r tr) σ s F R := fun H j Q q =>
  h H j _ fun vs s1 F1 H1 j1 h1 => h1 H1 j1 Q q
theorem aw_nil {R : List V → S → Hp → Prop} (k : R [] s F) : AW J tNil σ s F R := fun H j Q q => q [] s F H j k
theorem aw_cons {R : List V → S → Hp → Prop} (h : EW J te σ s F fun x s1 F1 => AW J tr σ s1 F1 fun vs s2 F2 => R (x :: vs) s2 F2) : AW J (tCons te tr) σ s F R := fun H j Q q =>
  h H j _ fun x s1 F1 H1 j1 h1 => h1 H1 j1 _ fun vs s2 F2 H2 j2 k => q _ _ _ _ j2 k
theorem ew_tup (hd : Hid J) (h : AW J tr σ s F fun vs s1 F1 => vs.length ≤ 100000 ∧ ∀ p, F1 p = none → R (.ref p) s1 (upd F1 p (.tup vs))) : EW J (tTup tr) σ s F R := fun H j Q q =>
  h H j _ fun vs s1 F1 H1 j1 k => ⟨Nat.le_trans k.1 (by decide), fun p hp => q _ _ _ _ (hd.al j1 hp) (k.2 p (hd.fresh j1 hp))⟩
theorem ew_lst (hd : Hid J) (h : AW J tr σ s F fun vs s1 F1 => vs.length ≤ 100000 ∧ ∀ p, F1 p = none → R (.ref p) s1 (upd F1 p (.lst vs))) : EW J (tLst tr) σ s F R := fun H j Q q =>
  h H j _ fun vs s1 F1 H1 j1 k => ⟨Nat.le_trans k.1 (by decide), fun p hp => q _ _ _ _ (hd.al j1 hp) (k.2 p (hd.fresh j1 hp))⟩
theorem ew_if {tt : TT} (h : TW J tt σ s F fun b s1 F1 => (b = true → EW J ta σ s1 F1 R) ∧ (b = false → EW J tb σ s1 F1 R)) : EW J (tIf tt ta tb) σ s F R := fun H j Q q =>
  h H j _ fun b s1 F1 H1 j1 k => by
    cases b with
    | true => exact k.1 rfl H1 j1 Q q
    | false => exact k.2 rfl H1 j1 Q q
theorem ew_and (h : EW J ta σ s F fun x s1 F1 => ∃ c, x = .bl c ∧ (c = true → EW J tb σ s1 F1 R) ∧ (c = false → R (.bl false) s1 F1)) : EW J (tAndV ta tb) σ s F R := fun H j Q q =>
  h H j _ fun x s1 F1 H1 j1 ⟨c, e, k1, k2⟩ => ⟨c, e, by
    cases c with
    | true => exact k1 rfl H1 j1 Q q
    | false => exact q _ _ _ _ j1 (k2 rfl)⟩
theorem ew_or (h : EW J ta σ s F fun x s1 F1 => ∃ c, x = .bl c ∧ (c = true → R (.bl true) s1 F1) ∧ (c = false → EW J tb σ s1 F1 R)) : EW J (tOrV ta tb) σ s F R := fun H j Q q =>
  h H j _ fun x s1 F1 H1 j1 ⟨c, e, k1, k2⟩ => ⟨c, e, by
    cases c with
    | true => exact q _ _ _ _ j1 (k1 rfl)
    | false => exact k2 rfl H1 j1 Q q⟩
theorem ew_chain {r r' : R2} {tc : TE} (h : EW J ta σ s F fun x s1 F1 => EW J tb σ s1 F1 fun y s2 F2 => RW J r x y s2 F2 fun z s3 F3 => ∃ k, z = .bl k ∧ (k = true → EW J tc σ s3 F3 fun w s4 F4 => RW J r' y w s4 F4 R) ∧ (k = false → R (.bl false) s3 F3)) :
    EW J (tChain r r' ta tb tc) σ s F R := fun H j Q q =>
  h H j _ fun x s1 F1 H1 j1 h1 => h1 H1 j1 _ fun y s2 F2 H2 j2 h2 => h2 H2 j2 _ fun z s3 F3 H3 j3 ⟨k, e, k1, k2⟩ => ⟨k, e, by
    cases k with
    | true => exact k1 rfl H3 j3 _ fun w s4 F4 H4 j4 h4 => h4 H4 j4 Q q
    | false => exact q _ _ _ _ j3 (k2 rfl)⟩

/-! operations -/
theorem rw_I0 {g : Int → Int → V} {i k : Int} (h : R (g i k) s F) : RW J (rI0 g) (.int i) (.int k) s F R := fun H j Q q => ⟨i, k, rfl, rfl, q _ _ _ _ j h⟩
theorem rw_I {C : Int → Int → Prop} {g : Int → Int → V} {i k : Int} (c : C i k) (h : R (g i k) s F) : RW J (rI C g) (.int i) (.int k) s F R := fun H j Q q => ⟨i, k, rfl, rfl, c, q _ _ _ _ j h⟩
theorem rw_eq (c : scal x y = true) (h : R (.bl (decide (x = y))) s F) : RW J rEq x y s F R := fun H j Q q => ⟨c, q _ _ _ _ j h⟩
theorem rw_ne (c : scal x y = true) (h : R (.bl (!decide (x = y))) s F) : RW J rNe x y s F R := fun H j Q q => ⟨c, q _ _ _ _ j h⟩
theorem rw_isN (h : R (.bl (decide (x = .non))) s F) : RW J (fun x y H Q => y = .non ∧ Q (.bl (decide (x = .non))) H) x .non s F R := fun H j Q q => ⟨rfl, q _ _ _ _ j h⟩
theorem rw_ixL (hd : Hid J) {p : Addr} {xs : List V} {i : Int} (l : SqL K F p xs) (a : atI xs i = some v) (h : R v s F) : RW J (rIxL K) (.ref p) (.int i) s F R := fun H j Q q => ⟨p, xs, i, v, rfl, rfl, hd.sqL j l, a, q _ _ _ _ j h⟩
theorem rw_ixT (hd : Hid J) {p : Addr} {xs : List V} {i : Int} (l : SqT K F p xs) (a : atI xs i = some v) (h : R v s F) : RW J (rIxT K) (.ref p) (.int i) s F R := fun H j Q q => ⟨p, xs, i, v, rfl, rfl, hd.sqT j l, a, q _ _ _ _ j h⟩
theorem rw_cat (hd : Hid J) {l b : Addr} {xs zs : List V} (h1 : F l = some (.lst xs)) (h2 : F b = some (.lst zs)) (hl : xs.length + zs.length ≤ 100000) (h : ∀ p, F p = none → R (.ref p) s (upd F p (.lst (xs ++ zs)))) : RW J rCat (.ref l) (.ref b) s F R := fun H j Q q =>
  ⟨l, b, xs, zs, rfl, rfl, hd.ex j _ _ h1, hd.ex j _ _ h2, Nat.le_trans hl (by decide), fun p hp => q _ _ _ _ (hd.al j hp) (h p (hd.fresh j hp))⟩
/-! calls of built-ins -/
theorem cw_lenS (hd : Hid J) {p : Addr} {ys : List V} (l : SqL K F p ys ∨ SqT K F p ys) (h : R (.int ys.length) s F) : CW J (fun xs H Q => ∃ p ys, xs = [.ref p] ∧ (SqL K H p ys ∨ SqT K H p ys) ∧ Q (.int ys.length) H) [.ref p] s F R :=
  fun H j Q q => ⟨p, ys, rfl, l.imp (hd.sqL j) (hd.sqT j), q _ _ _ _ j h⟩
theorem cw_max2 {i k : Int} (h : R (.int (if k > i then k else i)) s F) : CW J (fun xs H Q => ∃ i j, xs = [.int i, .int j] ∧ Q (.int (if j > i then j else i)) H) [.int i, .int k] s F R := fun H j Q q => ⟨i, k, rfl, q _ _ _ _ j h⟩
theorem cw_min2 {i k : Int} (h : R (.int (if k < i then k else i)) s F) : CW J (fun xs H Q => ∃ i j, xs = [.int i, .int j] ∧ Q (.int (if j < i then j else i)) H) [.int i, .int k] s F R := fun H j Q q => ⟨i, k, rfl, q _ _ _ _ j h⟩
theorem cw_list (hd : Hid J) {p : Addr} {ys : List V} (l : SqL K F p ys ∨ SqT K F p ys) (h : ∀ a, F a = none → R (.ref a) s (upd F a (.lst ys))) : CW J (fun xs H Q => ∃ p ys, xs = [.ref p] ∧ (SqL K H p ys ∨ SqT K H p ys) ∧ ∀ l, H l = none → Q (.ref l) (upd H l (.lst ys))) [.ref p] s F R :=
  fun H j Q q => ⟨p, ys, rfl, l.imp (hd.sqL j) (hd.sqT j), fun a ha => q _ _ _ _ (hd.al j ha) (h a (hd.fresh j ha))⟩
theorem cw_tuple (hd : Hid J) {p : Addr} {ys : List V} (l : SqL K F p ys) (h : ∀ a, F a = none → R (.ref a) s (upd F a (.tup ys))) : CW J (fun xs H Q => ∃ p ys, xs = [.ref p] ∧ ((SqL K H p ys ∧ ∀ l, H l = none → Q (.ref l) (upd H l (.tup ys))) ∨ (SqT K H p ys ∧ Q (.ref p) H))) [.ref p] s F R :=
  fun H j Q q => ⟨p, ys, rfl, Or.inl ⟨hd.sqL j l, fun a ha => q _ _ _ _ (hd.al j ha) (h a (hd.fresh j ha))⟩⟩
/-! tests -/
variable {RB : Bool → S → Hp → Prop} {tA tB2 : TT}
theorem tw_test (h : EW J te σ s F fun x s1 F1 => ∃ b, x = .bl b ∧ RB b s1 F1) : TW J (tTest te) σ s F RB := fun H j Q q => h H j _ fun x s1 F1 H1 j1 ⟨b, e, k⟩ => ⟨b, e, q _ _ _ _ j1 k⟩
theorem tw_B (h : EW J te σ s F fun x s1 F1 => ∃ b, x = .bl b ∧ RB b s1 F1) : TW J (tB te) σ s F RB := fun H j Q q => h H j _ fun x s1 F1 H1 j1 ⟨b, e, k⟩ => ⟨b, e, q _ _ _ _ j1 k⟩
theorem tw_not (h : TW J tA σ s F fun b s1 F1 => RB (!b) s1 F1) : TW J (tNot tA) σ s F RB := fun H j Q q => h H j _ fun b s1 F1 H1 j1 k => q _ _ _ _ j1 k
theorem tw_and (h : TW J tA σ s F fun b s1 F1 => (b = true → TW J tB2 σ s1 F1 RB) ∧ (b = false → RB false s1 F1)) : TW J (tAnd tA tB2) σ s F RB := fun H j Q q =>
  h H j _ fun b s1 F1 H1 j1 k => by
    cases b with
    | true => exact k.1 rfl H1 j1 Q q
    | false => exact q _ _ _ _ j1 (k.2 rfl)
theorem tw_or (h : TW J tA σ s F fun b s1 F1 => (b = true → RB true s1 F1) ∧ (b = false → TW J tB2 σ s1 F1 RB)) : TW J (tOr tA tB2) σ s F RB := fun H j Q q =>
  h H j _ fun b s1 F1 H1 j1 k => by
    cases b with
    | true => exact q _ _ _ _ j1 (k.1 rfl)
    | false => exact k.2 rfl H1 j1 Q q
theorem tw_yes (k : RB true s F) : TW J tYes σ s F RB := fun H j Q q => q _ _ _ _ j k
/-! slices -/
theorem ow_none {R : Option Int → S → Hp → Prop} (k : R none s F) : OW J tNoPart σ s F R := fun H j Q q => q _ _ _ _ j k
theorem ow_some {R : Option Int → S → Hp → Prop} (h : EW J te σ s F fun x s1 F1 => ∃ i, x = .int i ∧ R (some i) s1 F1) : OW J (tPart te) σ s F R := fun H j Q q => h H j _ fun x s1 F1 H1 j1 ⟨i, e, k⟩ => ⟨i, e, q _ _ _ _ j1 k⟩
theorem ew_slL (hd : Hid J) {tl th : TO} (h : EW J te σ s F fun x s1 F1 => OW J tl σ s1 F1 fun lo s2 F2 => OW J th σ s2 F2 fun hi s3 F3 => ∃ a xs, x = .ref a ∧ SqL K F3 a xs ∧ ∀ p, F3 p = none → R (.ref p) s3 (upd F3 p (.lst (cutV xs lo hi)))) :
    EW J (tSl (rSlL K) te tl th) σ s F R := fun H j Q q => h H j _ fun x s1 F1 H1 j1 h1 => h1 H1 j1 _ fun lo s2 F2 H2 j2 h2 => h2 H2 j2 _ fun hi s3 F3 H3 j3 ⟨a, xs, e, l, k⟩ =>
  ⟨a, xs, e, hd.sqL j3 l, fun p hp => q _ _ _ _ (hd.al j3 hp) (k p (hd.fresh j3 hp))⟩
theorem ew_slT (hd : Hid J) {tl th : TO} (h : EW J te σ s F fun x s1 F1 => OW J tl σ s1 F1 fun lo s2 F2 => OW J th σ s2 F2 fun hi s3 F3 => ∃ a xs, x = .ref a ∧ SqT K F3 a xs ∧ (HT.sIx xs.length 0 lo = 0 ∧ HT.sIx xs.length xs.length hi = xs.length → R (.ref a) s3 F3) ∧
      (¬ (HT.sIx xs.length 0 lo = 0 ∧ HT.sIx xs.length xs.length hi = xs.length) → ∀ p, F3 p = none → R (.ref p) s3 (upd F3 p (.tup (cutV xs lo hi))))) :
    EW J (tSl (rSlA K) te tl th) σ s F R := fun H j Q q => h H j _ fun x s1 F1 H1 j1 h1 => h1 H1 j1 _ fun lo s2 F2 H2 j2 h2 => h2 H2 j2 _ fun hi s3 F3 H3 j3 ⟨a, xs, e, l, k1, k2⟩ =>
  ⟨a, xs, e, hd.sqT j3 l, fun c => q _ _ _ _ j3 (k1 c), fun c p hp => q _ _ _ _ (hd.al j3 hp) (k2 c p (hd.fresh j3 hp))⟩

/-! methods of built-ins: of a list -/
theorem ew_bmL (hd : Hid J) {r : V → List V → Hp → VK → Prop} (h : EW J te σ s F fun x s1 F1 => ∃ a xs, x = .ref a ∧ SqL K F1 a xs ∧ AW J tr σ s1 F1 fun vs s2 F2 => MW J r x vs s2 F2 R) : EW J (tBM K "list" r te tr) σ s F R := fun H j Q q =>
  h H j _ fun x s1 F1 H1 j1 ⟨a, xs, e, l, h1⟩ => ⟨by subst e; exact Or.inl ⟨rfl, xs, hd.sqL j1 l⟩, h1 H1 j1 _ fun vs s2 F2 H2 j2 h2 => h2 H2 j2 Q q⟩
theorem mw_append (hd : Hid J) {l : Addr} {xs : List V} (h1 : F l = some (.lst xs)) (hl : xs.length < 100000) (h : R .non s (upd F l (.lst (xs ++ [y])))) : MW J rAppend (.ref l) [y] s F R := fun H j Q q =>
  ⟨l, xs, y, rfl, rfl, hd.ex j _ _ h1, Nat.lt_of_lt_of_le hl (by decide), q _ _ _ _ (hd.mu j h1) h⟩
theorem mw_extend (hd : Hid J) {l b : Addr} {xs zs : List V} (h1 : F l = some (.lst xs)) (h2 : F b = some (.lst zs)) (hl : xs.length + zs.length ≤ 100000) (h : R .non s (upd F l (.lst (xs ++ zs)))) : MW J rExtend (.ref l) [.ref b] s F R := fun H j Q q =>
  ⟨l, b, xs, zs, rfl, rfl, hd.ex j _ _ h1, hd.ex j _ _ h2, Nat.le_trans hl (by decide), q _ _ _ _ (hd.mu j h1) h⟩

/-! statements -/
variable {D : En S} {t u : TS} {g : TG}
theorem sw_next (k : D.nx σ s F) : SW J tNext D σ s F := fun H j D' l => l.nx _ _ _ _ j k
theorem sw_seq (h : SW J t { D with nx := fun σ1 s1 F1 => SW J u D σ1 s1 F1 } σ s F) : SW J (tSeq t u) D σ s F := fun H j D' l =>
  h H j _ ⟨fun σ1 s1 F1 H1 j1 k => k H1 j1 D' l, l.rt, l.bk, l.ct⟩
theorem sw_drop (h : EW J te σ s F fun _ s1 F1 => D.nx σ s1 F1) : SW J (tDrop te) D σ s F := fun H j D' l => h H j _ fun _ s1 F1 H1 j1 k => l.nx _ _ _ _ j1 k
theorem sw_ret (h : EW J te σ s F D.rt) : SW J (tRet te) D σ s F := fun H j D' l => h H j _ fun v s1 F1 H1 j1 k => l.rt _ _ _ _ j1 k
theorem sw_if {tc : TT} (h : TW J tc σ s F fun b s1 F1 => (b = true → SW J t D σ s1 F1) ∧ (b = false → SW J u D σ s1 F1)) : SW J (tIfS tc t u) D σ s F := fun H j D' l =>
  h H j _ fun b s1 F1 H1 j1 k => by
    cases b with
    | true => exact k.1 rfl H1 j1 D' l
    | false => exact k.2 rfl H1 j1 D' l
theorem sw_asg (h : EW J te σ s F fun x s1 F1 => GW J g x σ s1 F1 D.nx) : SW J (tAsg te g) D σ s F := fun H j D' l =>
  h H j _ fun x s1 F1 H1 j1 h1 => h1 H1 j1 _ fun σ2 s2 F2 H2 j2 k => l.nx _ _ _ _ j2 k
theorem sw_par {i k : Nat} {ta : TA} (h : AW J ta σ s F fun vs s1 F1 => ∃ v w, vs = [v, w] ∧ D.nx ((σ.set i (some v)).set k (some w)) s1 F1) : SW J (tPar i k ta) D σ s F := fun H j D' l =>
  h H j _ fun vs s1 F1 H1 j1 ⟨v, w, e, k⟩ => ⟨v, w, e, l.nx _ _ _ _ j1 k⟩
variable {N : L2.St → S → Hp → Prop}
theorem gw_name {i : Nat} (k : N (σ.set i (some x)) s F) : GW J (gName i) x σ s F N := fun H j Q q => q _ _ _ _ j k
theorem gw_tup (hd : Hid J) {n : Nat} {ts : TGs} (h : ∃ a xs, x = .ref a ∧ SqT K F a xs ∧ xs.length = n ∧ GsW J ts xs σ s F N) : GW J (gTup K n ts) x σ s F N := fun H j Q q => by
  obtain ⟨a, xs, e, l, hn, h⟩ := h
  exact ⟨a, xs, e, hd.sqT j l, hn, h H j Q q⟩
theorem gsw_nil (k : N σ s F) : GsW J gNil [] σ s F N := fun H j Q q => ⟨rfl, q _ _ _ _ j k⟩
theorem gsw_cons {ts : TGs} {xs : List V} (h : GW J g x σ s F fun σ1 s1 F1 => GsW J ts xs σ1 s1 F1 N) : GsW J (gCons g ts) (x :: xs) σ s F N := fun H j Q q =>
  ⟨x, xs, rfl, h H j _ fun σ1 s1 F1 H1 j1 k => k H1 j1 Q q⟩
/-- xs[i] = e -/
theorem gw_subL (hd : Hid J) (h : EW J ta σ s F fun o s1 F1 => EW J tb σ s1 F1 fun i s2 F2 => ∃ p xs k j, o = .ref p ∧ i = .int k ∧ F2 p = some (.lst xs) ∧ ixN xs.length k = some j ∧ N σ s2 (upd F2 p (.lst (xs.set j x)))) : GW J (gSub ta tb rSetL) x σ s F N := fun H j Q q =>
  h H j _ fun o s1 F1 H1 j1 h1 => h1 H1 j1 _ fun i s2 F2 H2 j2 ⟨p, xs, k, jj, e1, e2, hp, hj, k2⟩ => ⟨p, xs, k, jj, e1, e2, hd.ex j2 _ _ hp, hj, q _ _ _ _ (hd.mu j2 hp) k2⟩

/-! loops -/
theorem sw_forR1 {ta : TA} (h : AW J ta σ s F fun vs s1 F1 => ∃ (n : Int) (Pv : Nat → L2.St → S → Hp → Prop), vs = [.int n] ∧ -1000000000 ≤ n ∧ n ≤ 1000000000 ∧ Pv 0 σ s1 F1 ∧
      (∀ (i : Nat) σ s F, (i : Int) < n → Pv i σ s F → GW J g (.int (i : Int)) σ s F fun σ s F => SW J t { D with nx := Pv (i + 1), ct := Pv (i + 1), bk := D.nx } σ s F) ∧ (∀ σ s F, Pv n.toNat σ s F → D.nx σ s F)) :
    SW J (tFor (iRng1 ta) g t) D σ s F := fun H j D' l =>
  h H j _ fun vs s1 F1 H1 j1 ⟨n, Pv, e, hn1, hn2, h0, hs, hdn⟩ => ⟨n, e, by omega, by omega, for_range (lo := 0) (n := n.toNat) (fun i σ H => ∃ s F, J s F H ∧ Pv i σ s F) ⟨s1, F1, j1, h0⟩
    (fun i σ' H' hi ⟨s', F', j', p⟩ => by
      have e0 : (0 : Int) + (i : Int) = (i : Int) := Int.zero_add _
      show g (.int ((0 : Int) + (i : Int))) σ' H' _
      rw [e0]
      exact hs i σ' s' F' (by omega) p H' j' _ fun σ2 s2 F2 H2 j2 k => k H2 j2 _ ⟨fun σ3 s3 F3 H3 j3 k3 => ⟨s3, F3, j3, k3⟩, l.rt, l.nx, fun σ3 s3 F3 H3 j3 k3 => ⟨s3, F3, j3, k3⟩⟩)
    (fun σ' H' ⟨s', F', j', p⟩ => l.nx _ _ _ _ j' (hdn σ' s' F' p))⟩
theorem sw_forL (hd : Hid J) (h : EW J te σ s F fun v s1 F1 => ∃ (a : Addr) (xs : List V) (Pv : Nat → L2.St → S → Hp → Prop), v = .ref a ∧ SqL K F1 a xs ∧ Pv 0 σ s1 F1 ∧ (∀ i σ s F, i ≤ xs.length → Pv i σ s F → SqL K F a xs) ∧
      (∀ (i : Nat) x σ s F, xs[i]? = some x → Pv i σ s F → GW J g x σ s F fun σ s F => SW J t { D with nx := Pv (i + 1), ct := Pv (i + 1), bk := D.nx } σ s F) ∧ (∀ σ s F, Pv xs.length σ s F → D.nx σ s F)) :
    SW J (tFor (iList K te) g t) D σ s F := fun H j D' l =>
  h H j _ fun v s1 F1 H1 j1 ⟨a, xs, Pv, e, l1, h0, hl, hs, hdn⟩ => ⟨a, e, ⟨xs, hd.sqL j1 l1⟩, for_list (xs := xs) (fun i σ H => ∃ s F, J s F H ∧ Pv i σ s F) ⟨s1, F1, j1, h0⟩
    (fun i σ' H' hi ⟨s', F', j', p⟩ => hd.sqL j' (hl i σ' s' F' hi p))
    (fun i x σ' H' hi ⟨s', F', j', p⟩ => hs i x σ' s' F' hi p H' j' _ fun σ2 s2 F2 H2 j2 k => k H2 j2 _ ⟨fun σ3 s3 F3 H3 j3 k3 => ⟨s3, F3, j3, k3⟩, l.rt, l.nx, fun σ3 s3 F3 H3 j3 k3 => ⟨s3, F3, j3, k3⟩⟩)
    (fun σ' H' ⟨s', F', j', p⟩ => l.nx _ _ _ _ j' (hdn σ' s' F' p))⟩
theorem sw_forT (hd : Hid J) (h : EW J te σ s F fun v s1 F1 => ∃ (a : Addr) (xs : List V) (Pv : Nat → L2.St → S → Hp → Prop), v = .ref a ∧ SqT K F1 a xs ∧ Pv 0 σ s1 F1 ∧ (∀ i σ s F, i ≤ xs.length → Pv i σ s F → SqT K F a xs) ∧
      (∀ (i : Nat) x σ s F, xs[i]? = some x → Pv i σ s F → GW J g x σ s F fun σ s F => SW J t { D with nx := Pv (i + 1), ct := Pv (i + 1), bk := D.nx } σ s F) ∧ (∀ σ s F, Pv xs.length σ s F → D.nx σ s F)) :
    SW J (tFor (iTup K te) g t) D σ s F := fun H j D' l =>
  h H j _ fun v s1 F1 H1 j1 ⟨a, xs, Pv, e, l1, h0, hl, hs, hdn⟩ => ⟨a, e, ⟨xs, hd.sqT j1 l1⟩, for_tup (xs := xs) (fun i σ H => ∃ s F, J s F H ∧ Pv i σ s F) ⟨s1, F1, j1, h0⟩
    (fun i σ' H' hi ⟨s', F', j', p⟩ => hd.sqT j' (hl i σ' s' F' hi p))
    (fun i x σ' H' hi ⟨s', F', j', p⟩ => hs i x σ' s' F' hi p H' j' _ fun σ2 s2 F2 H2 j2 k => k H2 j2 _ ⟨fun σ3 s3 F3 H3 j3 k3 => ⟨s3, F3, j3, k3⟩, l.rt, l.nx, fun σ3 s3 F3 H3 j3 k3 => ⟨s3, F3, j3, k3⟩⟩)
    (fun σ' H' ⟨s', F', j', p⟩ => l.nx _ _ _ _ j' (hdn σ' s' F' p))⟩
end
end Obr
namespace Obr
open PySem L2

/-- the built-ins that no module of the text hides -/
structure Blt (mg : Str → Option Value) : Prop where
  len : mg "len" = none
  list : mg "list" = none
  tuple : mg "tuple" = none
  max : mg "max" = none
  min : mg "min" = none
  range : mg "range" = none
  sum : mg "sum" = none
  sorted : mg "sorted" = none
  enumerate : mg "enumerate" = none
  zip : mg "zip" = none
  isinstance : mg "isinstance" = none
  int : mg "int" = none
  str : mg "str" = none
  bool : mg "bool" = none
  verr : mg "ValueError" = none
/-- a def that is called by its name -/
structure Cal (K : PySem.W.Frag) (mg : Str → Option Value) (x : Str) (f : Addr) (fd : FuncData) (ps : List Str) : Prop where
  g : mg x = some (.ref f)
  k : PySem.W.keepIn K (.ref f) = true
  a : Binds K fd ps []


/-- G knows all that F knows -/
def Ex (F G : Hp) : Prop := ∀ a o, F a = some o → G a = some o
theorem Ex.refl (F : Hp) : Ex F F := fun _ _ e => e
theorem Ex.trans {F G H : Hp} (a : Ex F G) (b : Ex G H) : Ex F H := fun x o e => b x o (a x o e)
theorem Ex.new {F G : Hp} {p : Addr} {u : HO} (g : Ex F G) (h : G p = none) : Ex F (upd G p u) := fun a o e => by
  rw [upd_ne (ne_of_none (g a o e) h)]
  exact g a o e
theorem Ex.out {F G : Hp} {p : Addr} {u : HO} (g : Ex F G) (h : F p = none) : Ex F (L2.upd G p u) := fun a o e => by
  rw [upd_ne (ne_of_none e h)]
  exact g a o e
theorem Ex.upd {F G : Hp} {p : Addr} {u : HO} (g : Ex F G) : Ex (L2.upd F p u) (L2.upd G p u) := fun a o e => by
  by_cases c : a = p
  · subst c; rw [upd_same] at e ⊢; exact e
  · rw [upd_ne c] at e ⊢; exact g a o e
theorem Ex.free {F G : Hp} {p : Addr} (g : Ex F G) (h : G p = none) : F p = none := by
  cases e : F p with
  | none => rfl
  | some o =>
    rw [g p o e] at h
    cases h
theorem Ex.sqL {F G : Hp} (g : Ex F G) {K a xs} (h : SqL K F a xs) : SqL K G a xs := by
  rcases h with (h | ⟨o, h⟩) | h
  · exact Or.inl (Or.inl (g _ _ h))
  · exact Or.inl (Or.inr ⟨o, g _ _ h⟩)
  · exact Or.inr h
theorem Ex.sqT {F G : Hp} (g : Ex F G) {K a xs} (h : SqT K F a xs) : SqT K G a xs := by
  rcases h with (h | ⟨o, h⟩) | h
  · exact Or.inl (Or.inl (g _ _ h))
  · exact Or.inl (Or.inr ⟨o, g _ _ h⟩)
  · exact Or.inr h

/-! ### promises over F, whatever is hidden -/
def LS (A : List V → Hp → VK → Prop) : Sp := fun vs H Q _ => ∃ (J : Unit → Hp → Hp → Prop) (F : Hp) (R : VK), Hid J ∧ J () F H ∧ A vs F R ∧ ∀ v F' H', J () F' H' → R v F' → Q v H'
theorem LS.body {J : Unit → Hp → Hp → Prop} {F H : Hp} {R Q : VK} {t : TS} {σ : L2.St} (j : J () F H) (q : ∀ v F' H', J () F' H' → R v F' → Q v H')
    (h : SW J t { nx := fun _ _ F => R .non F, rt := fun v _ F => R v F } σ () F) : t { nx := fun _ H' => Q .non H', rt := Q } σ H :=
  h H j _ ⟨fun _ _ _ _ j k => q _ _ _ j k, fun _ _ _ _ j k => q _ _ _ j k, fun _ _ _ _ _ k => k.elim, fun _ _ _ _ _ k => k.elim⟩
theorem Hid.unit {S : Type} {J : S → Hp → Hp → Prop} (hd : Hid J) (s : S) : Hid (fun (_ : Unit) F H => J s F H) where
  ex := fun {_ _ _} j => hd.ex j
  al := fun {_ _ _ _ _} j => hd.al j
  mu := fun {_ _ _ _ _ _} j => hd.mu j
section
variable {S : Type} {J : S → Hp → Hp → Prop} {σ : L2.St} {s : S} {F : Hp} {R : V → S → Hp → Prop} {tr : TA} {A : List V → Hp → VK → Prop} {E : XK}
theorem ew_call (hd : Hid J) (h : AW J tr σ s F fun vs s1 F1 => A vs F1 fun v F' => R v s1 F') : EW J (tCall (LS A) [] E tr) σ s F R := fun H j Q q =>
  h H j _ fun vs s1 F1 H1 j1 a => by
    show LS A (vs ++ []) H1 Q E
    rw [List.append_nil]
    exact ⟨_, F1, _, hd.unit s1, j1, a, fun v F' H' j' r => q v s1 F' H' j' r⟩
end

/-! ### forgetting: G knows more than F -/
def GJ {S : Type} (J : S → Hp → Hp → Prop) : S → Hp → Hp → Prop := fun s F H => ∃ G, (∀ a o, F a = some o → G a = some o) ∧ J s G H
/-! ### what is drawn from, hidden: the list at h (a number, the cells at c, a place) -/
def hL (c : Addr) (m p : Int) : HO := .lst [.int m, .ref c, .int p]
def cL (cells : List Int) : HO := .lst (cells.map V.int)
def HJ (h c : Addr) {S : Type} (J : S → Hp → Hp → Prop) : S → Hp → Hp → Prop := fun s F H =>
  ∃ (G : Hp) (m p : Int) (cells : List Int), Ex F G ∧ F h = none ∧ F c = none ∧ 0 ≤ m ∧ m < 2147483647 ∧ 0 ≤ p ∧ cells.length ≤ 63 ∧ G h = some (hL c m p) ∧ G c = some (cL cells) ∧ J s G H
theorem Hid.hj {h c : Addr} {S : Type} {J : S → Hp → Hp → Prop} (hd : Hid J) : Hid (HJ h c J) where
  ex := fun {s F H} ⟨G, m, p, cells, g, _, _, _, _, _, _, _, _, j⟩ a o e => hd.ex j a o (g a o e)
  al := fun {s F H p' o} ⟨G, m, p, cells, g, fh, fc, m0, m1, p0, l, gh, gc, j⟩ hp => by
    have e1 := hd.fresh j hp
    have pc : c ≠ p' := ne_of_none gc e1
    have ph : h ≠ p' := ne_of_none gh e1
    exact ⟨upd G p' o, m, p, cells, g.upd, by rw [upd_ne ph]; exact fh, by rw [upd_ne pc]; exact fc, m0, m1, p0, l, by rw [upd_ne ph]; exact gh, by rw [upd_ne pc]; exact gc, hd.al j hp⟩
  mu := fun {s F H a o o'} ⟨G, m, p, cells, g, fh, fc, m0, m1, p0, l, gh, gc, j⟩ e => by
    have pc : c ≠ a := fun q => by rw [q, e] at fc; cases fc
    have ph : h ≠ a := fun q => by rw [q, e] at fh; cases fh
    exact ⟨upd G a o', m, p, cells, g.upd, by rw [upd_ne ph]; exact fh, by rw [upd_ne pc]; exact fc, m0, m1, p0, l, by rw [upd_ne ph]; exact gh, by rw [upd_ne pc]; exact gc, hd.mu j (g _ _ e)⟩
/-- a promise of a def whose first argument is what is drawn from -/
def LN (A : List V → Hp → VK → Prop) : Sp := fun vs H Q _ => ∃ (h c : Addr) (J : Unit → Hp → Hp → Prop) (F : Hp) (R : VK) (ws : List V), Hid J ∧ vs = .ref h :: ws ∧ HJ h c J () F H ∧ A ws F R ∧ ∀ v F' H', HJ h c J () F' H' → R v F' → Q v H'
section
variable {S : Type} {J : S → Hp → Hp → Prop} {h c : Addr} {σ : L2.St} {s : S} {F : Hp} {R : V → S → Hp → Prop} {tr : TA} {A : List V → Hp → VK → Prop} {E : XK}
theorem ew_draw (hd : Hid J) (k : AW (HJ h c J) tr σ s F fun vs s1 F1 => ∃ ws, vs = .ref h :: ws ∧ A ws F1 fun v F' => R v s1 F') : EW (HJ h c J) (tCall (LN A) [] E tr) σ s F R := fun H j Q q =>
  k H j _ fun vs s1 F1 H1 j1 ⟨ws, e, a⟩ => by
    show LN A (vs ++ []) H1 Q E
    rw [List.append_nil]
    exact ⟨h, c, fun _ F H => J s1 F H, F1, _, ws, hd.unit s1, e, j1, a, fun v F' H' j' r => q v s1 F' H' j' r⟩
end

/-! ### the promises -/
/-- _law_mix -/
def aMix (K : PySem.W.Frag) : List V → Hp → VK → Prop := fun vs F R => ∃ (a : Addr) (ns : List Int) (z : Int), vs = [.ref a, .int z] ∧ SqL K F a (ns.map V.int) ∧ 0 ≤ z ∧ z < 2147483647 ∧
  ∀ (m : Int) (c h : Addr), 0 ≤ m → m < 2147483647 → F c = none → F h = none → c ≠ h → R (.ref h) (L2.upd (L2.upd F c (cL ns)) h (hL c m 0))
/-- _law_next -/
def aNext : List V → Hp → VK → Prop := fun ws F R => ∃ n : Int, ws = [.int n] ∧ 0 < n ∧ n ≤ 10000000000000 ∧ ∀ r : Int, 0 ≤ r → r < n → R (.int r) F
end Obr
namespace Obr
open PySem L2
theorem at_ints {ns : List Int} {i : Int} (h0 : 0 ≤ i) (h1 : i < ns.length) : atI (ns.map V.int) i = some (V.int (ns.getD i.toNat 0)) := by
  obtain ⟨j, rfl⟩ : ∃ j : Nat, i = (j : Int) := ⟨i.toNat, by omega⟩
  have hj : j < ns.length := by omega
  refine atI_nat (j := j) ?_
  rw [List.getElem?_map, List.getElem?_eq_getElem hj]
  simp [List.getD, List.getElem?_eq_getElem hj]
theorem ixN_of {n : Nat} {i : Int} (h0 : 0 ≤ i) (h1 : i < n) : ixN n i = some i.toNat := by
  unfold ixN
  rw [if_pos h0, if_pos h1]
theorem map_set_int (ns : List Int) (j : Nat) (z : Int) : (ns.map V.int).set j (V.int z) = (ns.set j z).map V.int := by
  rw [List.map_set]
end Obr
namespace Obr
open PySem L2
theorem sw_mid {S : Type} {J : S → Hp → Hp → Prop} {t : TS} {D : En S} {σ : L2.St} {s : S} {F : Hp} (Mid : L2.St → S → Hp → Prop) (h1 : SW J t { D with nx := Mid } σ s F) (h2 : ∀ σ s F, Mid σ s F → D.nx σ s F) : SW J t D σ s F := fun H j D' l =>
  h1 H j D' ⟨fun σ s F H j k => l.nx σ s F H j (h2 σ s F k), l.rt, l.bk, l.ct⟩
end Obr
namespace Obr
open PySem L2

/-! ### data as a whole, kept by whatever grows -/
mutual
theorem dp_ex {K : PySem.W.Frag} {F G : Hp} (g : Ex F G) : ∀ {d : PyData} {v : V}, Dp K F v d → Dp K G v d
  | .none, _, h => by cases h; exact .non
  | .bool b, _, h => by cases h; exact .bl b
  | .int i, _, h => by cases h; exact .int i
  | .str x, _, h => by cases h; exact .str x
  | .list ds, _, h => by
    cases h with
    | lst hs ha => exact .lst (g.sqL hs) (dps_ex g ha)
  | .tuple ds, _, h => by
    cases h with
    | tup hs ha => exact .tup (g.sqT hs) (dps_ex g ha)
  | .dict _, _, h => by cases h
theorem dps_ex {K : PySem.W.Frag} {F G : Hp} (g : Ex F G) : ∀ {ds : List PyData} {vs : List V}, DpAll K F vs ds → DpAll K G vs ds
  | [], _, h => by cases h; exact .nil
  | d :: ds, _, h => by
    cases h with
    | cons h1 h2 => exact .cons (dp_ex g h1) (dps_ex g h2)
end
section
variable {K : PySem.W.Frag} {F : Hp}
theorem dps_len {vs : List V} {ds : List PyData} : DpAll K F vs ds → vs.length = ds.length := by
  induction ds generalizing vs with
  | nil => intro h; cases h; rfl
  | cons d ds ih => intro h; cases h with
    | cons h1 h2 => simp [ih h2]
theorem dps_get {i : Nat} {vs : List V} {ds : List PyData} {d : PyData} (h : DpAll K F vs ds) (e : ds[i]? = some d) : ∃ v, vs[i]? = some v ∧ Dp K F v d := by
  induction ds generalizing vs i with
  | nil => simp at e
  | cons d0 ds ih => cases h with
    | cons h1 h2 => cases i with
      | zero => simp at e; subst e; exact ⟨_, rfl, h1⟩
      | succ i => simp at e; obtain ⟨v, e1, e2⟩ := ih h2 e; exact ⟨v, by simpa using e1, e2⟩
theorem dps_get' {i : Nat} {vs : List V} {ds : List PyData} {v : V} (h : DpAll K F vs ds) (e : vs[i]? = some v) : ∃ d, ds[i]? = some d ∧ Dp K F v d := by
  induction ds generalizing vs i with
  | nil => cases h; simp at e
  | cons d0 ds ih => cases h with
    | cons h1 h2 => cases i with
      | zero => simp at e; subst e; exact ⟨_, rfl, h1⟩
      | succ i => simp at e; obtain ⟨v, e1, e2⟩ := ih h2 e; exact ⟨v, by simpa using e1, e2⟩
theorem dps_snoc {vs : List V} {ds : List PyData} {v : V} {d : PyData} (h : DpAll K F vs ds) (h1 : Dp K F v d) : DpAll K F (vs ++ [v]) (ds ++ [d]) := by
  induction ds generalizing vs with
  | nil => cases h; exact .cons h1 .nil
  | cons d0 ds ih => cases h with
    | cons a b => exact .cons a (ih b)
theorem dps_ints {ns : List Int} : DpAll K F (ns.map V.int) (ns.map PyData.int) := by
  induction ns with
  | nil => exact .nil
  | cons a t ih => exact .cons (.int a) ih
theorem dps_ints_iff {ns : List Int} {vs : List V} (h : DpAll K F vs (ns.map PyData.int)) : vs = ns.map V.int := by
  induction ns generalizing vs with
  | nil => cases h; rfl
  | cons a t ih => cases h with
    | cons h1 h2 => cases h1; rw [ih h2]; rfl
theorem dp_tup {v : V} {ds : List PyData} (h : Dp K F v (.tuple ds)) : ∃ a xs, v = .ref a ∧ SqT K F a xs ∧ DpAll K F xs ds := by
  cases h with
  | tup h1 h2 => exact ⟨_, _, rfl, h1, h2⟩
theorem dp_lst {v : V} {ds : List PyData} (h : Dp K F v (.list ds)) : ∃ a xs, v = .ref a ∧ SqL K F a xs ∧ DpAll K F xs ds := by
  cases h with
  | lst h1 h2 => exact ⟨_, _, rfl, h1, h2⟩
theorem dp_int {v : V} {i : Int} (h : Dp K F v (.int i)) : v = .int i := by cases h; rfl
theorem dp_str {v : V} {x : Str} (h : Dp K F v (.str x)) : v = .str x := by cases h; rfl
theorem dp_bl {v : V} {b : Bool} (h : Dp K F v (.bool b)) : v = .bl b := by cases h; rfl
theorem dp_non {v : V} (h : Dp K F v .none) : v = .non := by cases h; rfl
theorem dps1 {vs : List V} {a : PyData} (h : DpAll K F vs [a]) : ∃ x, vs = [x] ∧ Dp K F x a := by
  cases h with
  | cons h1 h2 => cases h2; exact ⟨_, rfl, h1⟩
theorem dps2 {vs : List V} {a b : PyData} (h : DpAll K F vs [a, b]) : ∃ x y, vs = [x, y] ∧ Dp K F x a ∧ Dp K F y b := by
  cases h with
  | cons h1 h2 => obtain ⟨y, rfl, h3⟩ := dps1 h2; exact ⟨_, _, rfl, h1, h3⟩
theorem dps3 {vs : List V} {a b c : PyData} (h : DpAll K F vs [a, b, c]) : ∃ x y z, vs = [x, y, z] ∧ Dp K F x a ∧ Dp K F y b ∧ Dp K F z c := by
  cases h with
  | cons h1 h2 => obtain ⟨y, z, rfl, h3, h4⟩ := dps2 h2; exact ⟨_, _, _, rfl, h1, h3, h4⟩
end

/-! ### worlds and rules -/
/-- a step: how much it draws, how long it lasts, how much it gives back -/
structure Stp where
  draw : Int
  long : Int
  back : Int
structure Wld where
  cap : Int
  start : Int
  refill : Int
  ms : List (List Stp)
def stpD (s : Stp) : PyData := .tuple [.int s.draw, .int s.long, .int s.back]
def macD (ss : List Stp) : PyData := .tuple (ss.map stpD)
def wldD (w : Wld) : PyData := .tuple [.tuple [.int w.cap, .int w.start, .int w.refill], .tuple (w.ms.map macD)]
structure StpOk (cap : Int) (s : Stp) : Prop where
  d0 : 0 ≤ s.draw
  d1 : s.draw ≤ cap
  l0 : 1 ≤ s.long
  l1 : s.long ≤ 9
  b0 : 0 ≤ s.back
  b1 : s.back ≤ s.draw
structure WldOk (w : Wld) : Prop where
  c0 : 1 ≤ w.cap
  c1 : w.cap ≤ 99
  s0 : 0 ≤ w.start
  s1 : w.start ≤ w.cap
  r0 : 0 ≤ w.refill
  r1 : w.refill ≤ 9
  m : w.ms.length ≤ 5
  n : ∀ ss ∈ w.ms, ss.length ≤ 6
  st : ∀ ss ∈ w.ms, ∀ s ∈ ss, StpOk w.cap s
/-- the rights, by number -/
inductive Rgt where
  | rank | turns | wait | least
  deriving DecidableEq
def rgtS : Rgt → Str
  | .rank => "rank"
  | .turns => "turns"
  | .wait => "wait"
  | .least => "least"
def rulD (r : Rgt) (p : Bool) : PyData := .tuple [.str (rgtS r), .bool p]

/-- _law_world: some world -/
def aWorld (K : PySem.W.Frag) : List V → Hp → VK → Prop := fun ws F R => ∃ most cap : Int, ws = [.int most, .int cap] ∧ 0 ≤ most ∧ most ≤ 5 ∧ 1 ≤ cap ∧ cap ≤ 99 ∧
  ∀ (v : V) (F' : Hp) (w : Wld), Ex F F' → Dp K F' v (wldD w) → WldOk w → w.cap ≤ cap → (w.ms.length : Int) ≤ most → (∀ ss ∈ w.ms, ss.length ≤ 4) → R v F'
/-- _law_rule: some rule -/
def aRule (K : PySem.W.Frag) : List V → Hp → VK → Prop := fun ws F R => ws = [] ∧ ∀ (v : V) (F' : Hp) (r : Rgt) (p : Bool), Ex F F' → Dp K F' v (rulD r p) → R v F'

section
variable {S : Type} {J : S → Hp → Hp → Prop} {h c : Addr} {σ : L2.St} {s : S} {F : Hp} {R : V → S → Hp → Prop} {te ta : TE} {E : XK}
theorem ew_next {i : Nat} (hd : Hid J) (hv : σ[i]? = some (some (V.ref h))) (k : EW (HJ h c J) ta σ s F fun y s2 F2 => ∃ n : Int, y = .int n ∧ 0 < n ∧ n ≤ 10000000000000 ∧ ∀ r : Int, 0 ≤ r → r < n → R (.int r) s2 F2) :
    EW (HJ h c J) (tCall (LN aNext) [] E (tCons (tVar i) (tCons ta tNil))) σ s F R := by
  refine ew_draw hd (aw_cons (ew_var hv (aw_cons (k.imp fun y s2 F2 ⟨n, e2, h0, h1, k⟩ => aw_nil ⟨[y], rfl, n, by rw [e2], h0, h1, fun r r0 r1 => k r r0 r1⟩))))
theorem ew_world {i : Nat} {K : PySem.W.Frag} {tb : TE} (hd : Hid J) (hv : σ[i]? = some (some (V.ref h))) (k : EW (HJ h c J) ta σ s F fun y s2 F2 => ∃ most : Int, y = .int most ∧ 0 ≤ most ∧ most ≤ 5 ∧ EW (HJ h c J) tb σ s2 F2 fun z s3 F3 => ∃ cap : Int, z = .int cap ∧ 1 ≤ cap ∧ cap ≤ 99 ∧
      ∀ (v : V) (F' : Hp) (w : Wld), Ex F3 F' → Dp K F' v (wldD w) → WldOk w → w.cap ≤ cap → (w.ms.length : Int) ≤ most → (∀ ss ∈ w.ms, ss.length ≤ 4) → R v s3 F') :
    EW (HJ h c J) (tCall (LN (aWorld K)) [] E (tCons (tVar i) (tCons ta (tCons tb tNil)))) σ s F R := by
  refine ew_draw hd (aw_cons (ew_var hv (aw_cons (k.imp fun y s2 F2 ⟨n, e2, h0, h1, k⟩ => aw_cons (k.imp fun z s3 F3 ⟨cp, e3, h2, h3, k⟩ => aw_nil ⟨[y, z], rfl, n, cp, by rw [e2, e3], h0, h1, h2, h3, k⟩)))))
end
theorem LN.body {h c : Addr} {J : Unit → Hp → Hp → Prop} {F H : Hp} {R Q : VK} {t : TS} {σ : L2.St} (j : HJ h c J () F H) (q : ∀ v F' H', HJ h c J () F' H' → R v F' → Q v H')
    (k : SW (HJ h c J) t { nx := fun _ _ F => R .non F, rt := fun v _ F => R v F } σ () F) : t { nx := fun _ H' => Q .non H', rt := Q } σ H := LS.body j q k
end Obr
namespace Obr
open PySem PySem.Spec PyProof.Rows L2 LamX NdefX
/-! ### lambdas that are kept and called elsewhere -/
structure LF where
  qual : Str
  params : Arguments
  body : Expr
  scope : Scope
  cl : List (Str × Addr)
  c : Addr
  dt : Option Addr
def LF.dV (F : LF) : Value := match F.dt with
  | some t => .ref t
  | none => .none
abbrev LF.nf (F : LF) : NF := ⟨"<lambda>", F.qual, F.params, [], F.scope, F.cl, F.c⟩
abbrev LF.fd (F : LF) (doc pm ctv : Value) : FuncData := PySem.W.kdv_fn "<lambda>" F.qual F.params (.expr F.body) F.scope F.cl F.dV doc pm (.ref F.c) ctv
/-- the object at f is the lambda F -/
def LamO (f : Addr) (F : LF) : HO := .ext fun h => ∃ (od : Option Addr) (sl : Array (Option Value)) (doc pm ctv : Value), h.get? f = some (⟨.type "function", od, .func (F.fd doc pm ctv), sl⟩ : Obj)
theorem lamO_at {P : Program} {w : World} {H : Hp} {h : Heap} {f : Addr} {F : LF} (hok : HOk P w H h) (e : H f = some (LamO f F)) : ∃ (od : Option Addr) (sl : Array (Option Value)) (doc pm ctv : Value), h.get? f = some (⟨.type "function", od, .func (F.fd doc pm ctv), sl⟩ : Obj) := by
  obtain ⟨z, _, _⟩ := hok f _ e
  exact z
section
variable {X : Cx} {pins : List (Addr × Obj)} {σ : L2.St} {H : Hp} {s : Shared}
theorem inv_lam {F : LF} {o : Obj} {t' : Nat} {doc pm ctv : Value} (I : Inv X pins σ H s) (ho : o = { cls := .type "function", data := .func (F.fd doc pm ctv) }) :
    Inv X pins σ (upd H s.heap.objs.size (LamO s.heap.objs.size F)) { s with heap := s.heap.push o, toks := t' } := by
  subst ho
  refine I.laid (a := s.heap.objs.size) (fun b u e => Heap.get?_push_of_some _ e) (Nat.le_refl _) ?_
  have e : (s.heap.push ({ cls := .type "function", data := .func (F.fd doc pm ctv) } : Obj)).get? s.heap.objs.size = some ({ cls := .type "function", data := .func (F.fd doc pm ctv) } : Obj) := Heap.get?_push_size _ rfl
  exact ⟨⟨_, _, doc, pm, ctv, e⟩, ⟨_, e⟩, fun h1 h2 ⟨od, sl, d, p, t, z⟩ st => ⟨od, sl, d, p, t, st _ z⟩⟩
/-- how the heap changes when a lambda is made -/
inductive LamStep (H : Hp) (P : Addr) (pos : Pos) (q : Str) (mk : Addr → LF) : Addr → Addr → Hp → Prop where
  | new {ps : Array Value} {f c' : Addr} (hP : H P = some (.tbl ps)) (nc : H c' = none) (nf : upd (upd H P (.tbl (ps ++ #[rawInt pos.line, rawInt pos.col, .ref c']))) c' (CodeO c' q) f = none) :
      LamStep H P pos q mk f c' (upd (upd (upd H P (.tbl (ps ++ #[rawInt pos.line, rawInt pos.col, .ref c']))) c' (CodeO c' q)) f (LamO f (mk c')))
  | hit {ps : Array Value} {f c' : Addr} (hP : H P = some (.tbl ps)) (hc : codeAmong pos ps.toList = some (.ref c')) (nf : H f = none) : LamStep H P pos q mk f c' (upd H f (LamO f (mk c')))
theorem lam_tail {T : List NTab} {nm : Nat → Nat → Str} {c P : Addr} {qual : Str} {params : Arguments} {body : Expr} {scope : Scope} {pos : Pos} {dt : Option Addr} {dV : Value} {fl : Nat} {E : Value → Shared → Prop} {Q : Value → Shared → Prop} (I : Inv X pins σ H s) (TB : TabB X.base X.mg c P) (hcode : X.env.code = .ref c)
    (hm : (P, nm) ∈ T) (hn : nm pos.line pos.col = qual) (hu : ∀ p ∈ T, p.1 = P → p.2 = nm) (hT : TabsN T H) (hfree : ∀ y ∈ scope.names, y.2 = .free → ∃ c, X.env.cells.lookup y.1 = some c)
    (hdV : dV = match dt with | some t => .ref t | none => .none)
    (h : ∀ (f c' : Addr) (H1 : Hp) (s' : Shared), Inv X pins σ H1 s' → LamStep H P pos qual (fun c' => ⟨qual, params, body, scope, cloFrom X.env.cells scope.names [], c', dt⟩) f c' H1 → Q (.ref f) s') :
    wpAny (model X.prog X.w) X.A (makeTail "<lambda>" qual params (.expr body) scope X.env dV .none none pos fl) Q E s := by
  obtain ⟨ps, hP, ht, ha⟩ := (show TabN H P nm from hT _ hm)
  have bP : s.heap.BuiltinsAt X.mg P := TB.bm.keeps I.bk
  have hP' : s.heap.get? P = some { cls := .none, data := .fields ps } := I.hok P _ hP
  have eF : ∀ (c' : Addr) (doc pm ctv : Value), PySem.W.kdv_obj "<lambda>" qual params (.expr body) scope (cloFrom X.env.cells scope.names []) dV doc pm c' ctv = { cls := .type "function", data := .func ((⟨qual, params, body, scope, cloFrom X.env.cells scope.names [], c', dt⟩ : LF).fd doc pm ctv) } := fun c' doc pm ctv => by
    rw [hdV]
    cases dt <;> rfl
  cases hc : codeAmong pos ps.toList with
  | none =>
    refine PySem.W.kdv_makeTail (mg := X.mg) (c := c) (P := P) (ps := ps) (closure_ok hfree) I.ok.glob (I.mod.glob.keeps I.bk) hcode (TB.code.keeps I.bk) hP' ht hc TB.gP bP fun c' ctv doc h' tk hx hge hlt hrec htb => ?_
    obtain ⟨c2, oc, vs, t, e2, hoc, hd, hv⟩ := hrec
    cases e2
    have nC : H c' = none := I.hok.fresh hge
    have I1 := inv_table (t' := tk) (more := #[rawInt pos.line, rawInt pos.col, .ref c']) (h' := h') I hP (fun b o hb e => hx b o hb e) htb hge ⟨oc, vs, t, hoc, hd, hv⟩
    have nF := I1.hok.fresh (Nat.le_refl _)
    have I2 := inv_lam (F := ⟨qual, params, body, scope, cloFrom X.env.cells scope.names [], c', dt⟩) (t' := tk) (doc := doc) (pm := (X.mg "__name__").getD .none) (ctv := ctv) I1 (eF _ _ _ _)
    exact h h'.objs.size c' _ _ I2 (.new hP nC nF)
  | some cv =>
    obtain ⟨c', e, hco⟩ := ha pos cv hc
    subst e
    rw [hn] at hco
    refine PySem.W.kdv_makeTailHit (mg := X.mg) (c := c) (P := P) (ps := ps) (closure_ok hfree) I.ok.glob (I.mod.glob.keeps I.bk) hcode (TB.code.keeps I.bk) hP' ht hc bP fun ctv doc h' tk hx hsz => ?_
    have I1 : Inv X pins σ H { s with heap := h', toks := tk } := I.kept hx
    have nF : H h'.objs.size = none := I1.hok.fresh (Nat.le_refl _)
    have I2 := inv_lam (F := ⟨qual, params, body, scope, cloFrom X.env.cells scope.names [], c', dt⟩) (t' := tk) (doc := doc) (pm := (X.mg "__name__").getD .none) (ctv := ctv) I1 (eF _ _ _ _)
    exact h h'.objs.size c' _ _ I2 (.hit hP hc nF)
end
/-! ### it is made -/
def tLamb (T : List NTab) (P : Addr) (pos : Pos) (q : Str) (mk : Addr → LF) : TE := fun σ H Q => TabsN T H ∧ ∀ (f c' : Addr) (H1 : Hp), LamStep H P pos q mk f c' H1 → Q (.ref f) H1
/-- with a default that is a number -/
def tLambD (T : List NTab) (P : Addr) (pos : Pos) (q : Str) (n : Int) (mk : Addr → Addr → LF) : TE := fun σ H Q => TabsN T H ∧ ∀ t, H t = none → ∀ (f c' : Addr) (H1 : Hp), LamStep (upd H t (.tup [.int n])) P pos q (mk t) f c' H1 → Q (.ref f) H1
section
variable {X : Cx}
theorem pe_lamb {T : List NTab} {nm : Nat → Nat → Str} {c P : Addr} {params : Arguments} {body : Expr} {scope : Scope} {pos : Pos} (TB : TabB X.base X.mg c P) (hcode : X.env.code = .ref c) (hm : (P, nm) ∈ T) (hn : nm pos.line pos.col = X.env.qual ++ "<lambda>") (hu : ∀ p ∈ T, p.1 = P → p.2 = nm)
    (hfree : ∀ y ∈ scope.names, y.2 = .free → X.env.scope.names.lookup y.1 = some .cell ∨ X.env.scope.names.lookup y.1 = some .free) (hd0 : defaultsOf params X.env = ([], [])) :
    PE X (.Lambda params body scope pos) (tLamb T P pos (X.env.qual ++ "<lambda>") fun c' => ⟨X.env.qual ++ "<lambda>", params, body, scope, cloFrom X.env.cells scope.names [], c', none⟩) := by
  refine ⟨fun pins s σ H Q I h => ?_⟩
  obtain ⟨hT, h⟩ := h
  have hfr : ∀ y ∈ scope.names, y.2 = .free → ∃ c, X.env.cells.lookup y.1 = some c := fun y hy e => (hfree y hy e).elim (fun z => I.ok.has _ (.inl z)) fun z => I.ok.has _ (.inr z)
  refine PySem.W.kla_eval hd0 ?_
  rw [makeFunction_eq]
  simp only [List.zip_nil_right, List.filterMap_nil, List.isEmpty_nil, if_true, pure_bind]
  exact lam_tail (dt := none) I TB hcode hm hn hu hT hfr rfl fun f c' H1 s' I1 st => ⟨.ref f, H1, I1, rfl, h f c' H1 st⟩
end
/-! ### what stands behind the step -/
theorem LamStep.facts {T : List NTab} {nm : Nat → Nat → Str} {H H1 : Hp} {P : Addr} {pos : Pos} {q : Str} {mk : Addr → LF} {f c' : Addr} (st : LamStep H P pos q mk f c' H1) (hm : (P, nm) ∈ T) (hn : nm pos.line pos.col = q) (hu : ∀ p ∈ T, p.1 = P → p.2 = nm) (hT : TabsN T H) :
    ExtN H H1 ∧ TabsN T H1 ∧ H f = none ∧ H1 f = some (LamO f (mk c')) ∧ H1 c' = some (CodeO c' q) := by
  obtain ⟨ps0, hP0, ht, ha⟩ := (show TabN H P nm from hT _ hm)
  cases st with
  | @new ps f c' hP nC nF =>
    rw [hP0] at hP
    cases hP
    have hE : ExtN H (upd (upd H P (.tbl (ps0 ++ #[rawInt pos.line, rawInt pos.col, .ref c']))) c' (CodeO c' q)) := fun b o e n => by
      rw [upd_ne (ne_of_none e nC), upd_ne (fun z => n ps0 (Option.some.inj (e.symm.trans (by rw [z]; exact hP0))))]
      exact e
    have eL : (ps0 ++ #[rawInt pos.line, rawInt pos.col, .ref c']).toList = ps0.toList ++ [rawInt pos.line, rawInt pos.col, .ref c'] := by simp
    have T1 : TabsN T (upd (upd H P (.tbl (ps0 ++ #[rawInt pos.line, rawInt pos.col, .ref c']))) c' (CodeO c' q)) := fun p hp => by
      by_cases hb : p.1 = P
      · rw [hu p hp hb, hb]
        refine ⟨_, by rw [upd_ne (ne_of_none hP0 nC), upd_same], by rw [eL]; exact PySem.TriplesOk_snoc _ _ _ _ ht, fun p' cv hcv => ?_⟩
        rw [eL] at hcv
        rcases among_app2 _ ht hcv with z | ⟨z, z1, z2⟩
        · obtain ⟨c0, e1, e2⟩ := ha p' cv z
          exact ⟨c0, e1, hE _ _ e2 codeO_ne⟩
        · refine ⟨c', z, ?_⟩
          rw [← z1, ← z2, hn]
          exact upd_same
      · obtain ⟨ps', a1, a2, a3⟩ := hT p hp
        refine ⟨ps', by rw [upd_ne (ne_of_none a1 nC), upd_ne hb]; exact a1, a2, fun p' cv hcv => ?_⟩
        obtain ⟨c0, e1, e2⟩ := a3 p' cv hcv
        exact ⟨c0, e1, hE _ _ e2 codeO_ne⟩
    have ncf : c' ≠ f := fun z => by rw [z, upd_same] at nF; cases nF
    refine ⟨fun b o e n => ?_, T1.ext fun b o e => (upd_ne (ne_of_none e nF)).trans e, upd_none (upd_none nF), upd_same, (upd_ne ncf).trans upd_same⟩
    have e1 := hE b o e n
    exact (upd_ne (ne_of_none e1 nF)).trans e1
  | @hit ps f c' hP hc nF =>
    rw [hP0] at hP
    cases hP
    obtain ⟨c0, e1, e2⟩ := ha pos _ hc
    cases e1
    rw [hn] at e2
    exact ⟨fun b o e _ => (upd_ne (ne_of_none e nF)).trans e, hT.ext fun b o e => (upd_ne (ne_of_none e nF)).trans e, nF, upd_same, (upd_ne (ne_of_none e2 nF)).trans e2⟩
section
variable {S : Type} {J : S → Hp → Hp → Prop} {σ : L2.St} {s : S} {F : Hp} {R : V → S → Hp → Prop}
theorem tabs_hid (hd : Hid J) {T : List NTab} {H : Hp} (j : J s F H) (hT : TabsN T F) : TabsN T H := hT.ext fun b o e => hd.ex j b o e
theorem step_hid (hd : Hid J) {P : Addr} {pos : Pos} {q : Str} {mk : Addr → LF} {f c' : Addr} {H H1 : Hp} {ps : Array Value} (j : J s F H) (hP : F P = some (.tbl ps)) (st : LamStep H P pos q mk f c' H1) : ∃ F1, LamStep F P pos q mk f c' F1 ∧ J s F1 H1 := by
  have hPH := hd.ex j P _ hP
  cases st with
  | @new ps' f c' hP' nC nF =>
    rw [hPH] at hP'
    cases hP'
    have nPc : c' ≠ P := fun z => by rw [z, hPH] at nC; cases nC
    have j1 := hd.mu (o' := .tbl (ps ++ #[rawInt pos.line, rawInt pos.col, .ref c'])) j hP
    have j2 := hd.al (o := CodeO c' q) j1 (by rw [upd_ne nPc]; exact nC)
    have j3 := hd.al (o := LamO f (mk c')) j2 nF
    exact ⟨_, .new hP (hd.fresh j nC) (hd.fresh j2 nF), j3⟩
  | @hit ps' f c' hP' hc nF =>
    rw [hPH] at hP'
    cases hP'
    exact ⟨_, .hit hP hc (hd.fresh j nF), hd.al j nF⟩
theorem ew_lamb (hd : Hid J) {T : List NTab} {P : Addr} {pos : Pos} {q : Str} {mk : Addr → LF} {ps : Array Value} (hT : TabsN T F) (hP : F P = some (.tbl ps)) (h : ∀ (f c' : Addr) (F1 : Hp), LamStep F P pos q mk f c' F1 → R (.ref f) s F1) : EW J (tLamb T P pos q mk) σ s F R := fun H j Q k =>
  ⟨tabs_hid hd j hT, fun f c' H1 st => by
    obtain ⟨F1, st1, j1⟩ := step_hid hd j hP st
    exact k _ _ _ _ j1 (h f c' F1 st1)⟩
end
end Obr
namespace Obr
open PySem PySem.Spec PyProof.Rows L2 LamX NdefX
/-! ### a lambda is called -/
abbrev LSp := List (Option V) → Hp → VK → XK → Prop
/-- where the lambda F stands: itself, its code, its default -/
structure LamAt (H : Hp) (f : Addr) (F : LF) (ds : List V) : Prop where
  fn : H f = some (LamO f F)
  code : H F.c = some (CodeO F.c F.qual)
  dflt : ∀ t, F.dt = some t → H t = some (.tup ds)
structure LamOk (P : Program) (w : World) (K : PySem.W.Frag) (mg : Str → Option Value) (base : Heap) (CX : CXT) (k : Nat) (f : Addr) (F : LF) (ds : List V) (fr : List Str) (sp : LSp) : Prop where
  run : ∀ (A : Around) (outer : List Env) (s : Shared) (H : Hp) (ws : List (Option V)) (Q : VK) (E : XK), Room k A → Env0 P w K mg base A outer s H → LamAt H f F ds → CellsAt F.cl fr ws s.heap H → sp ws H Q E →
    codeAny (model P w) A (.call (.ref f) ⟨[], []⟩) (CR CX outer P w H s Q E) s
  mono_ : ∀ (ws : List (Option V)) (H : Hp) (Q Q' : VK) (E E' : XK), sp ws H Q E → (∀ v H', Q v H' → Q' v H') → (∀ cls d H', E cls d H' → E' cls d H') → sp ws H Q' E'
section
variable {CX : CXT} {P : Program} {w : World} {K : PySem.W.Frag} {mg : Str → Option Value} {base : Heap} {N ps fr : List Str} {F : LF} {f : Addr} {k j : Nat} {ds : List V} {sp : LSp}
/-- how the defaults are bound -/
def BindD (F : LF) (ps : List Str) (ds : List V) : Prop := ∀ (P : Program) (w : World) (s : Shared) (H : Hp) (doc pm ctv : Value), HOk P w H s.heap → (∀ t, F.dt = some t → H t = some (.tup ds)) → ∃ us, Vals ds us ∧ BindsTo s (F.fd doc pm ctv) ⟨[], []⟩ (ps.zip us)
theorem bind0 (h : ∀ doc pm ctv : Value, bindArgs (F.fd doc pm ctv) ⟨[], []⟩ = pure []) : BindD F [] [] := fun P w s H doc pm ctv _ _ => ⟨[], .nil, BindsTo.of_eq (h doc pm ctv)⟩
theorem lok_of (S : NScope N ps fr F.scope) (hl : ds.length = ps.length) (hb : BindD F ps ds) (hmo : ∀ (ws : List (Option V)) (H : Hp) (Q Q' : VK) (E E' : XK), sp ws H Q E → (∀ v H', Q v H' → Q' v H') → (∀ cls d H', E cls d H' → E' cls d H') → sp ws H Q' E')
    (hbody : ∀ (A : Around) (outer : List Env) (s : Shared) (H : Hp) (ws : List (Option V)) (Q : VK) (E : XK), Room k (A.deeper (envF F.nf f s.heap.objs.size)) → LamAt H f F ds → ws.length = fr.length → sp ws H Q E →
      ∃ t, PE (ncx CX P w K mg base N F.nf f A outer s H E) F.body t ∧ t (startF N ds ws) H Q) :
    LamOk P w K mg base CX (k + 1) f F ds fr sp := by
  refine ⟨fun A outer s H ws Q E hr e0 ha C hsp => ?_, hmo⟩
  have lim : s.heap.NoLimit := e0.mod.nolimit.keeps fun b o e => (e0.bs b o e).1
  obtain ⟨od, sl, doc, pm, ctv, ho⟩ := lamO_at e0.hok ha.fn
  obtain ⟨us, r, hbi⟩ := hb P w s H doc pm ctv e0.hok ha.dflt
  refine PySem.W.kla_callFunE hr.depth ho rfl S.co S.gen rfl (codeO_at e0.hok ha.code) (hbi _ _ _ _ ?_)
  refine wpAny_newFunctionEnv S.nocell (fun ⟨n, _⟩ hy => S.par n (List.of_mem_zip hy).1) (fun h₁ hns hsb => ⟨lim.fresh _ hsb, ?_⟩) S.kind
  show codeAny _ _ (.expr F.body (envF F.nf f s.heap.objs.size)) _ _
  have kp : ∀ b o, s.heap.get? b = some o → h₁.get? b = some o := fun b o e => hsb.extBut b o (Nat.ne_of_lt (Heap.lt_size e)) (Heap.get?_push_of_some _ e)
  obtain ⟨t, ht, hq⟩ := hbody A outer s H ws Q E (hr.deeper _) ha C.len hsp
  have I : Inv (ncx CX P w K mg base N F.nf f A outer s H E) [] (startF N ds ws) H { s with heap := h₁, toks := s.toks + (ps.zip us).length } := inv_startN (F := F.nf) S hr.hd e0 hl r C hns kp
  refine PySem.W.kla_codeExpr (wpAny_mono (ht.run [] _ (startF N ds ws) H Q I hq) (fun v s' hs => ?_) fun e s' hs => hs)
  obtain ⟨v', H', J, rv, q⟩ := hs
  exact ⟨v', H', J.os, J.bare, J.base, J.hok, rv, q⟩
end
section
variable {X : Cx} {pins : List (Addr × Obj)} {σ : L2.St} {H : Hp} {s : Shared} {CX : CXT} {F : LF} {f : Addr} {ds : List V} {fr : List Str} {ws : List (Option V)} {i j k : Nat} {a : Str} {sp : LSp} {E : L2.St → XK} {p pos : Pos}
theorem lamFnAt (I : Inv X pins σ H s) (e : H f = some (LamO f F)) : PySem.W.FnAt f s.heap := by
  obtain ⟨od, sl, doc, pm, ctv, ho⟩ := lamO_at I.hok e
  exact ⟨_, od, _, sl, ho⟩
/-- what the cells held at the frame's entry they hold still; the frames' slots may change -/
theorem cells_later {cl : List (Str × Addr)} (C : CellsAt cl fr ws X.s_0.heap X.H_0) (nx : X.ex = []) (I : Inv X pins σ H s) : CellsAt cl fr ws s.heap H := by
  have nx' : ∀ b : Addr, b ∉ X.ex := fun b z => by rw [nx] at z; cases z
  have kp : ∀ y c, cl.lookup y = some c → ∀ v, X.s_0.heap.IsCell c v → s.heap.IsCell c v := fun y c e v ⟨o, ho, hd⟩ => by
    obtain ⟨sl, q⟩ := I.base.any ho (C.all y c e).1 (nx' c)
    exact ⟨_, q, hd⟩
  refine ⟨C.len, fun y c e => ?_, C.inj, fun i y e => ?_⟩
  · obtain ⟨n, v, z⟩ := C.all y c e
    refine ⟨?_, v, kp y c e v z⟩
    obtain ⟨o, ho, _⟩ := z
    exact I.base.free c o ho n (nx' c)
  · obtain ⟨c, hc, hv⟩ := C.has i y e
    refine ⟨c, hc, fun v ev => ?_⟩
    obtain ⟨u, r, z⟩ := hv v ev
    exact ⟨u, r, kp y c hc _ z⟩
/-- a(), a a name of the running frame that holds a lambda; what its cells hold is told of the frame's entry -/
theorem pe_calll (O : LamOk X.prog X.w X.K X.mg X.base CX k f F ds fr sp) (C : CellsAt F.cl fr ws X.s_0.heap X.H_0) (nx : X.ex = []) (hr : Room j X.A) (hk : k ≤ j) (hx : ∀ σ, PassesAt CX X σ (E σ)) (hN : X.N[i]? = some a) (hv : Vis X.env.scope a)
    (hd : (a == ("__debug__" : Str)) = false := by decide) (hcd : (a == ("__classdict__" : Str)) = false := by decide) :
    PE X (.Call (.Name a p) [] [] pos) (fun σ H Q => σ[i]? = some (some (.ref f)) ∧ LamAt H f F ds ∧ sp ws H Q (E σ)) := by
  refine ⟨fun pins s σ H Q I h => ?_⟩
  obtain ⟨hs, ha, q⟩ := h
  refine wpAny_Call_Name_kw (thn ((pe_var (pos := p) hN hv hd hcd).run pins s σ H (fun v H1 => v = .ref f ∧ H1 = H) I ⟨.ref f, hs, rfl, rfl⟩) fun u s1 ⟨v, H1, I1, r1, q1⟩ => ?_)
  obtain ⟨ev, eH⟩ := q1
  subst ev
  rw [eH] at I1
  obtain rfl : u = Value.ref f := r1
  refine PySem.W.callWith_F0 (first := []) (lamFnAt I1 ha.fn) ?_
  show wpAny _ _ (call (.ref f) []) _ _ _
  refine wpAny_call (codeAny_mono (O.run X.A X.stack s1 H ws Q (E σ) (hr.mono hk) I1.env0 ha (cells_later C nx I1) q) fun r s' hq => ?_)
  cases r with
  | error e => exact hx σ pins H s1 e s' I1 hq
  | ok fl =>
    cases fl with
    | ret u => exact I1.after hq
    | next => exact False.elim hq
    | brk => exact False.elim hq
    | cont => exact False.elim hq
end
/-! ### a def that is handed a lambda and calls it -/
/-- TT: what the def makes of the lambda's promise -/
abbrev TTr := (XK → Hp → VK → Prop) → Hp → VK → XK → Prop
structure GOk (P : Program) (w : World) (K : PySem.W.Frag) (mg : Str → Option Value) (base : Heap) (CX CXl : CXT) (k kl : Nat) (g : Addr) (TT : TTr) : Prop where
  run : ∀ (A : Around) (outer : List Env) (s : Shared) (H : Hp) (f : Addr) (F : LF) (ds : List V) (fr : List Str) (ws : List (Option V)) (sp : LSp) (Q : VK) (E : XK), Room k A → Env0 P w K mg base A outer s H → LamAt H f F ds → CellsAt F.cl fr ws s.heap H →
    LamOk P w K mg base CXl kl f F ds fr sp → TT (fun E' H' Q' => LamAt H' f F ds ∧ sp ws H' Q' E') H Q E → codeAny (model P w) A (.call (.ref g) ⟨[.ref f], []⟩) (CR CX outer P w H s Q E) s
end Obr
namespace Obr
open PySem PySem.Spec PyProof.Rows L2 LamX NdefX
section
variable {X : Cx} {pins : List (Addr × Obj)} {σ : L2.St} {H : Hp} {s : Shared}
/-- b is none of the frame's own things -/
def Away (X : Cx) (pins : List (Addr × Obj)) (b : Addr) : Prop := (b ∈ X.ex ∨ X.s_0.heap.objs.size ≤ b) ∧ b ≠ X.env.locals ∧ (∀ x c, X.env.cells.lookup x = some c → c ≠ b) ∧ ∀ p ∈ X.pn ++ pins, p.1 ≠ b
theorem away_new (I : Inv X pins σ H s) {b : Addr} (h : s.heap.objs.size ≤ b) : Away X pins b := by
  obtain ⟨_, h1, _, h2, h3, h4⟩ := I.fpOk (H' := fun _ => none) h rfl
  exact ⟨h2, h1, h3, h4⟩
/-- things that nobody tracks have changed -/
theorem inv_ch {ch : List Addr} {h' : Heap} {tk : Nat} (I : Inv X pins σ H s) (ha : ∀ b ∈ ch, Away X pins b) (hn : ∀ b ∈ ch, H b = none) (k : ∀ b o, b ∉ ch → s.heap.get? b = some o → h'.get? b = some o) : Inv X pins σ H { s with heap := h', toks := tk } := by
  have kn : ∀ b u, H b = some u → b ∉ ch := fun b u e z => by rw [hn b z] at e; cases e
  refine I.call' (ch := ch) (s' := { s with heap := h', toks := tk }) rfl ⟨fun b o e _ _ hx => k b o hx e, fun b o e _ _ hx => ⟨o.slots, k b o hx e⟩, fun _ _ _ n _ => n, fun b o e hx => ⟨o, k b o hx e⟩, fun _ _ e => e, fun _ _ _ e => e, fun b ps e => ⟨#[], by rw [e]; simp⟩⟩ (fun b u e => ?_) I.bare ha
  refine (I.hok b u e).stay (fun c v hc q => k c v ?_ q) (fun _ q => q) fun _ _ q => q
  rcases hc with z | z
  · rw [z]
    exact kn b u e
  · exact kn c _ z
end
/-! ### [x(a) for a in ..], x a def that is handed a lambda -/
def KCall (X : Cx) (CXl : CXT) (kl : Nat) (TT : TTr) (σ : L2.St) (y : V) (H : Hp) (R : VK) : Prop :=
  ∃ (f : Addr) (F : LF) (ds : List V) (fr : List Str) (js : List Nat) (sp : LSp), y = .ref f ∧ LamAt H f F ds ∧ (X.Ok → Caps X F.cl fr js) ∧ LamOk X.prog X.w X.K X.mg X.base CXl kl f F ds fr sp ∧ TT (fun E' H' Q' => LamAt H' f F ds ∧ sp (js.map (slotAt σ)) H' Q' E') H R C8.E0
def tKC (X : Cx) (CXl : CXT) (kl : Nat) (TT : TTr) (tl : TE) : TE := fun σ H Q => tl σ H fun v H1 => ∃ l xs, v = .ref l ∧ SqL X.K H1 l xs ∧ xs.length ≤ 1000 ∧ (∀ y ∈ xs, ∃ f, y = V.ref f) ∧ ∃ Pv : Nat → List V → Hp → Prop, Pv 0 [] H1 ∧ (∀ i acc H, Pv i acc H → SqL X.K H l xs) ∧
  (∀ (i : Nat) acc y H, xs[i]? = some y → Pv i acc H → KCall X CXl kl TT σ y H fun z H' => Pv (i + 1) (acc ++ [z]) H') ∧ ∀ acc H, Pv xs.length acc H → ∀ D, H D = none → Q (.ref D) (upd H D (.lst acc))
end Obr
namespace PySem.SeqAt
open AutoSeq1 (wpAny_loadPart')
open MeetsSeq MeetsSeq2 MeetsSeq3 SeqRoads2
end PySem.SeqAt
namespace Obr
open PySem L2 PySem.Spec PyProof.Rows
section
variable {X : Cx}
/-- xs.remove(y), the items data of any depth: the first that is equal goes -/
def rRemD (K : PySem.W.Frag) : V → List V → Hp → VK → Prop := fun x xs H Q => ∃ (a : Addr) (vs : List V) (y : V) (d : PyData) (ds : List PyData) (j : Nat) (z : PyData), x = V.ref a ∧ xs = [y] ∧ H a = some (.lst vs) ∧ DpAll K H vs ds ∧ Dp K H y d ∧
  SeqAt.shaped (.list ds) = true ∧ SeqAt.shaped d = true ∧ ds[j]? = some z ∧ PyData.eqv z d = true ∧ (∀ (m : Nat) (z' : PyData), m < j → ds[m]? = some z' → PyData.eqv z' d = false) ∧ Q .non (upd H a (.lst (vs.eraseIdx j)))
/-- tuples of whole numbers and truth values, by < -/
def numV : V → Option Int
  | .int i => some i
  | .bl b => some (b2i b)
  | _ => none
def rLtM (K : PySem.W.Frag) : R2 := fun x y H Q => ∃ (a b : Addr) (xs ys : List V) (ns ms : List Int), x = .ref a ∧ y = .ref b ∧ SqT K H a xs ∧ SqT K H b ys ∧ xs.map numV = ns.map some ∧ ys.map numV = ms.map some ∧
  (∀ (j : Nat) (x y : V), xs[j]? = some x → ys[j]? = some y → (∃ i k, x = V.int i ∧ y = V.int k) ∨ ∃ i k, x = V.bl i ∧ y = V.bl k) ∧
  Q (.bl (Ob.lexAt (fun j => decide (ns.getD j 0 = ms.getD j 0)) (fun j => decide (ns.getD j 0 < ms.getD j 0)) (decide (ns.length < ms.length)) 0 (min ns.length ms.length))) H
end
end Obr
namespace Obr
open PySem L2 PySem.Spec PyProof.Rows
section
variable {S : Type} {J : S → Hp → Hp → Prop} {K : PySem.W.Frag} {s : S} {F : Hp} {R : V → S → Hp → Prop}
theorem rw_eqD (hd : Hid J) {x y : V} {d e : PyData} (h1 : Dp K F x d) (h2 : Dp K F y e) (s1 : SeqAt.shaped d = true) (s2 : SeqAt.shaped e = true) (h : R (.bl (PyData.eqv d e)) s F) : RW J (rEqD K) x y s F R := fun H j Q q =>
  ⟨d, e, dp_ex (hd.ex j) h1, dp_ex (hd.ex j) h2, s1, s2, q _ _ _ _ j h⟩
end
/-! ### flat data is shaped -/
def flatD : PyData → Bool
  | .none => true
  | .bool _ => true
  | .int _ => true
  | .str _ => true
  | _ => false
/-- data of depth n at most -/
def lowD : Nat → PyData → Bool
  | _, .none => true
  | _, .bool _ => true
  | _, .int _ => true
  | _, .str x => PyData.strOk x
  | n + 1, .list ds => ds.all (lowD n)
  | n + 1, .tuple ds => ds.all (lowD n)
  | _, _ => false
theorem lowD_ok : ∀ (n : Nat) (d : PyData), lowD n d = true → d.canLay0 = true ∧ d.depth ≤ n
  | _, .none, _ => by simp [PyData.canLay0, PyData.depth]
  | _, .bool _, _ => by simp [PyData.canLay0, PyData.depth]
  | _, .int _, _ => by simp [PyData.canLay0, PyData.depth]
  | _, .str x, h => by
    have h' : PyData.strOk x = true := by simpa [lowD] using h
    simp [PyData.canLay0, PyData.depth, h']
  | 0, .list ds, h => by simp [lowD] at h
  | 0, .tuple ds, h => by simp [lowD] at h
  | _, .dict ds, h => by simp [lowD] at h
  | n + 1, .list ds, h => by
    have : ∀ ds : List PyData, ds.all (lowD n) = true → PyData.canLayAll0 ds = true ∧ PyData.depthAll ds ≤ n := fun ds => by
      induction ds with
      | nil => intro _; simp [PyData.canLayAll0, PyData.depthAll]
      | cons d ds ih =>
        intro h
        simp only [List.all_cons, Bool.and_eq_true] at h
        have a := lowD_ok n d h.1
        have b := ih h.2
        simp only [PyData.canLayAll0, PyData.depthAll, Bool.and_eq_true]
        exact ⟨⟨a.1, b.1⟩, by omega⟩
    simp only [lowD] at h
    have := this ds h
    simp only [PyData.canLay0, PyData.depth]
    exact ⟨this.1, by omega⟩
  | n + 1, .tuple ds, h => by
    have : ∀ ds : List PyData, ds.all (lowD n) = true → PyData.canLayAll0 ds = true ∧ PyData.depthAll ds ≤ n := fun ds => by
      induction ds with
      | nil => intro _; simp [PyData.canLayAll0, PyData.depthAll]
      | cons d ds ih =>
        intro h
        simp only [List.all_cons, Bool.and_eq_true] at h
        have a := lowD_ok n d h.1
        have b := ih h.2
        simp only [PyData.canLayAll0, PyData.depthAll, Bool.and_eq_true]
        exact ⟨⟨a.1, b.1⟩, by omega⟩
    simp only [lowD] at h
    have := this ds h
    simp only [PyData.canLay0, PyData.depth]
    exact ⟨this.1, by omega⟩
theorem shaped_low {n : Nat} {d : PyData} (h : lowD n d = true) (hn : n ≤ 64 := by decide) : SeqAt.shaped d = true := by
  have := lowD_ok n d h
  show (d.canLay0 && decide (d.depth ≤ 64)) = true
  rw [Bool.and_eq_true]
  exact ⟨this.1, decide_eq_true (by omega)⟩
end Obr
theorem L2.Room.u65 {k : Nat} {A : PySem.Around} (r : L2.Room k A) : A.units + 65 < PySem.cLine := by have := r.un; omega
namespace Obr
open PySem L2
theorem cutV_one (a : V) (l : List V) : cutV (a :: l) (some 1) none = l := by
  unfold cutV HT.sIx
  simp
theorem at_zero {x : V} {xs : List V} : atI (x :: xs) 0 = some x := by
  have h : ixN (x :: xs).length 0 = some 0 := by
    unfold ixN
    rw [if_pos (by decide), if_pos (by simp only [List.length_cons]; omega)]
    rfl
  unfold atI
  rw [h]
  rfl
end Obr
namespace Obr
open PySem L2 PySem.Spec PyProof.Rows

/-! ### dicts by keys -/
section
variable {κ : Type} [DecidableEq κ]
end
section
variable {S : Type} {J : S → Hp → Hp → Prop} {K : PySem.W.Frag} {σ : L2.St} {s : S} {F : Hp} {R : V → S → Hp → Prop} {td ty tv te : TE} {D : En S}
/-- the pairs of a display -/
def PPW {S : Type} (J : S → Hp → Hp → Prop) (trs : List (TE × TE)) (σ : L2.St) (s : S) (F : Hp) (R : List (V × V) → S → Hp → Prop) : Prop :=
  ∀ H, J s F H → ∀ Q : List (V × V) → Hp → Prop, (∀ ps s' F' H', J s' F' H' → R ps s' F' → Q ps H') → tPairs trs σ H Q
end
section
variable {X : Cx}
/-- d.update(e), two dicts -/
def rUpdD : V → List V → Hp → VK → Prop := fun x vs H Q => ∃ d o kvs more, x = .ref d ∧ vs = [.ref o] ∧ d ≠ o ∧ H d = some (.dK kvs) ∧ H o = some (.dK more) ∧ kvs.length + more.length ≤ 1000 ∧ Q .non (upd H d (.dK (mergeK kvs more)))
end
section
variable {S : Type} {J : S → Hp → Hp → Prop} {K : PySem.W.Frag} {σ : L2.St} {s : S} {F : Hp} {R : V → S → Hp → Prop} {te : TE} {tr : TA}
end

/-! ### owned cells: F0 knows none of them, F holds each -/
structure Own (F0 F : Hp) (own : List (Addr × HO)) : Prop where
  ex : Ex F0 F
  out : ∀ p ∈ own, F0 p.1 = none
  at_ : ∀ p ∈ own, F p.1 = some p.2
  nd : (own.map (·.1)).Nodup
section
variable {F0 F : Hp} {own : List (Addr × HO)}
theorem Own.get (h : Own F0 F own) {i : Nat} {a : Addr} {o : HO} (e : own[i]? = some (a, o)) : F a = some o := h.at_ (a, o) (List.mem_of_getElem? e)
theorem Own.none (h : Own F0 F own) {i : Nat} {a : Addr} {o : HO} (e : own[i]? = some (a, o)) : F0 a = Option.none := h.out (a, o) (List.mem_of_getElem? e)
theorem own_map_set {i : Nat} {a : Addr} {o o' : HO} (e : own[i]? = some (a, o)) : (own.set i (a, o')).map (·.1) = own.map (·.1) := by
  rw [List.map_set]
  have h : (own.map (·.1))[i]? = some a := by rw [List.getElem?_map, e]; rfl
  refine List.ext_getElem? fun j => ?_
  rw [List.getElem?_set]
  by_cases c : i = j
  · subst c
    rw [if_pos rfl, h]
    have hi : i < own.length := (List.getElem?_eq_some_iff.mp e).1
    simp [hi]
  · rw [if_neg c]
theorem Own.set (h : Own F0 F own) {i : Nat} {a : Addr} {o o' : HO} (e : own[i]? = some (a, o)) : Own F0 (upd F a o') (own.set i (a, o')) where
  ex := h.ex.out (h.none e)
  out := fun p hp => by
    rcases List.mem_or_eq_of_mem_set hp with hp | rfl
    · exact h.out p hp
    · exact h.none e
  at_ := fun p hp => by
    obtain ⟨j, hj⟩ := List.getElem?_of_mem hp
    rw [List.getElem?_set] at hj
    by_cases c : i = j
    · subst c
      rw [if_pos rfl] at hj
      simp at hj
      rw [← hj.2]
      exact upd_same
    · rw [if_neg c] at hj
      have : p.1 ≠ a := fun q => c (nd_ix h.nd (x := a) (by rw [List.getElem?_map, e]; rfl) (by rw [List.getElem?_map, hj]; exact congrArg some q))
      rw [upd_ne this]
      exact h.at_ p (List.mem_of_getElem? hj)
  nd := by rw [own_map_set e]; exact h.nd
theorem Own.new' (h : Own F0 F own) {p : Addr} {o : HO} (hp : F p = Option.none) : Own F0 (upd F p o) own where
  ex := h.ex.new hp
  out := h.out
  at_ := fun q hq => by rw [upd_ne (ne_of_none (h.at_ q hq) hp)]; exact h.at_ q hq
  nd := h.nd
/-- a new thing that is owned -/
theorem Own.more (h : Own F0 F own) {p : Addr} {o : HO} (hp : F p = Option.none) : Own F0 (upd F p o) ((p, o) :: own) where
  ex := h.ex.new hp
  out := fun q hq => by
    rcases List.mem_cons.mp hq with rfl | hq
    · exact h.ex.free hp
    · exact h.out q hq
  at_ := fun q hq => by
    rcases List.mem_cons.mp hq with rfl | hq
    · exact upd_same
    · rw [upd_ne (ne_of_none (h.at_ q hq) hp)]; exact h.at_ q hq
  nd := by
    rw [List.map_cons, List.nodup_cons]
    refine ⟨fun hm => ?_, h.nd⟩
    obtain ⟨q, hq, e⟩ := List.mem_map.mp hm
    have := h.at_ q hq
    rw [e, hp] at this
    cases this
theorem own_nil {F : Hp} : Own F F [] := ⟨.refl _, (fun _ h => by cases h), (fun _ h => by cases h), List.nodup_nil⟩
end
end Obr
namespace Obr
open PySem L2 PySem.Spec PyProof.Rows
end Obr
namespace Obr
open PySem L2 PySem.Spec PyProof.Rows
end Obr
namespace Obr
open PySem L2 PySem.Spec PyProof.Rows
/-- the list that a comprehension makes stands at D, hidden, with what it has so far -/
def JD {S : Type} (J : S → Hp → Hp → Prop) (D : Addr) (acc : List V) : S → Hp → Hp → Prop := fun s F H => F D = none ∧ J s (upd F D (.lst acc)) H
theorem Hid.jd {S : Type} {J : S → Hp → Hp → Prop} {D : Addr} {acc : List V} (hd : Hid J) : Hid (JD J D acc) where
  ex := fun {s F H} ⟨fd, j⟩ a o e => hd.ex j a o (by rw [upd_ne (fun q => by rw [q, fd] at e; cases e)]; exact e)
  al := fun {s F H p o} ⟨fd, j⟩ hp => by
    have e := hd.fresh j hp
    have n : p ≠ D := fun q => by rw [q, upd_same] at e; cases e
    refine ⟨by rw [upd_ne n.symm]; exact fd, ?_⟩
    have c : upd (upd F p o) D (.lst acc) = upd (upd F D (.lst acc)) p o := by
      funext x
      unfold upd
      by_cases h1 : x = D
      · by_cases h2 : x = p
        · exact absurd (h2.symm.trans h1) n
        · simp [h1, n.symm]
      · by_cases h2 : x = p
        · simp [h2, n]
        · simp [h1, h2]
    rw [c]
    exact hd.al j hp
  mu := fun {s F H a o o'} ⟨fd, j⟩ e => by
    have n : a ≠ D := fun q => by rw [q, fd] at e; cases e
    refine ⟨by rw [upd_ne n.symm]; exact fd, ?_⟩
    have c : upd (upd F a o') D (.lst acc) = upd (upd F D (.lst acc)) a o' := by
      funext x
      unfold upd
      by_cases h1 : x = D
      · by_cases h2 : x = a
        · exact absurd (h2.symm.trans h1) n
        · simp [h1, n.symm]
      · by_cases h2 : x = a
        · simp [h2, n]
        · simp [h1, h2]
    rw [c]
    refine hd.mu j (o := o) ?_
    rw [upd_ne n]
    exact e
section
variable {S : Type} {J : S → Hp → Hp → Prop} {K : PySem.W.Frag} {σ : L2.St} {s : S} {F : Hp} {R : V → S → Hp → Prop} {tl te : TE} {g : TG} {tt : TT} {vs : List Nat} {ta : TA}
/-- what one turn of a comprehension asks -/
def LcTurn (J : S → Hp → Hp → Prop) (Dl : Addr) (g : TG) (tt : TT) (te : TE) (vs : List Nat) (σ : L2.St) (acc : List V) (x : V) (s : S) (F : Hp) (P : List V → S → Hp → Prop) : Prop :=
  GW (JD J Dl acc) g x (wipe σ vs) s F fun σ2 s2 F2 => wipe σ2 vs = wipe σ vs ∧ TW (JD J Dl acc) tt σ2 s2 F2 fun b s3 F3 => (b = true → EW (JD J Dl acc) te σ2 s3 F3 fun y s4 F4 => P (acc ++ [y]) s4 F4) ∧ (b = false → P acc s3 F3)
theorem lc_step (hd : Hid J) {Dl : Addr} {acc : List V} {x : V} {P : List V → S → Hp → Prop} (hz : acc.length < 100000) (h : LcTurn J Dl g tt te vs σ acc x s F P) {H : Hp} (fd : F Dl = none) (j : J s (upd F Dl (.lst acc)) H) {Nx : Hp → Prop}
    (q : ∀ acc s F H, F Dl = none → J s (upd F Dl (.lst acc)) H → P acc s F → Nx H) : g x (wipe σ vs) H fun σ2 H2 => wipe σ2 vs = wipe σ vs ∧ tt σ2 H2 fun b H3 =>
      if b = true then te σ2 H3 fun y H4 => ∃ acc, H4 Dl = some (.lst acc) ∧ acc.length < sizeLine ∧ Nx (upd H4 Dl (.lst (acc ++ [y]))) else Nx H3 :=
  h H ⟨fd, j⟩ _ fun σ2 s2 F2 H2 j2 ⟨hw, k⟩ => ⟨hw, k H2 j2 _ fun b s3 F3 H3 j3 k => by
    cases b with
    | true =>
      refine k.1 rfl H3 j3 _ fun y s4 F4 H4 ⟨fd4, j4⟩ k4 => ⟨acc, hd.ex j4 _ _ upd_same, Nat.lt_of_lt_of_le hz (by decide), q (acc ++ [y]) s4 F4 _ fd4 ?_ k4⟩
      have := hd.mu (o' := .lst (acc ++ [y])) j4 upd_same
      rw [upd_upd] at this
      exact this
    | false => exact q acc s3 F3 _ j3.1 j3.2 (k.2 rfl)⟩
theorem ew_lcT (hd : Hid J) (h : EW J tl σ s F fun v s1 F1 => ∃ a xs, v = .ref a ∧ SqT K F1 a xs ∧ xs.length ≤ 100000 ∧ ∀ Dl, F1 Dl = none → ∃ Pv : Nat → List V → S → Hp → Prop, Pv 0 [] s1 F1 ∧
      (∀ i acc s F, i ≤ xs.length → F Dl = none → Pv i acc s F → SqT K F a xs ∧ acc.length ≤ i) ∧ (∀ (i : Nat) acc x s F, xs[i]? = some x → F Dl = none → Pv i acc s F → LcTurn J Dl g tt te vs σ acc x s F (Pv (i + 1))) ∧
      (∀ acc s F, F Dl = none → Pv xs.length acc s F → R (.ref Dl) s (upd F Dl (.lst acc)))) : EW J (tLc (iTup K tl) g tt te vs) σ s F R := fun H j Q q =>
  h H j _ fun v s1 F1 H1 j1 ⟨a, xs, e, l1, hz, k⟩ => ⟨a, e, ⟨xs, hd.sqT j1 l1⟩, fun Dl hD => by
    have fD := hd.fresh j1 hD
    obtain ⟨Pv, h0, hl, hs, hdn⟩ := k Dl fD
    refine lc_tup (xs := xs) (fun i H => ∃ acc s F, i ≤ xs.length ∧ F Dl = none ∧ J s (upd F Dl (.lst acc)) H ∧ Pv i acc s F) ⟨[], s1, F1, Nat.zero_le _, fD, hd.al j1 hD, h0⟩ (fun i H' hi ⟨acc, s', F', _, f1, j', p⟩ => ?_) (fun i x H' hi ⟨acc, s', F', hle, f1, j', p⟩ => ?_) (fun H' ⟨acc, s', F', _, f1, j', p⟩ => q _ _ _ _ j' (hdn acc s' F' f1 p))
    · refine hd.sqT j' ?_
      obtain ⟨f2, _⟩ := hl i acc s' F' hi f1 p
      exact Ex.sqT (Ex.out (Ex.refl _) f1) f2
    · have hlt := (List.getElem?_eq_some_iff.mp hi).1
      obtain ⟨f2, f3⟩ := hl i acc s' F' hle f1 p
      exact lc_step hd (by omega) (hs i acc x s' F' hi f1 p) f1 j' fun acc s F H fd j p => ⟨acc, s, F, by omega, fd, j, p⟩⟩
theorem ew_lcL (hd : Hid J) (h : EW J tl σ s F fun v s1 F1 => ∃ a xs, v = .ref a ∧ SqL K F1 a xs ∧ xs.length ≤ 100000 ∧ ∀ Dl, F1 Dl = none → ∃ Pv : Nat → List V → S → Hp → Prop, Pv 0 [] s1 F1 ∧
      (∀ i acc s F, i ≤ xs.length → F Dl = none → Pv i acc s F → SqL K F a xs ∧ acc.length ≤ i) ∧ (∀ (i : Nat) acc x s F, xs[i]? = some x → F Dl = none → Pv i acc s F → LcTurn J Dl g tt te vs σ acc x s F (Pv (i + 1))) ∧
      (∀ acc s F, F Dl = none → Pv xs.length acc s F → R (.ref Dl) s (upd F Dl (.lst acc)))) : EW J (tLc (iList K tl) g tt te vs) σ s F R := fun H j Q q =>
  h H j _ fun v s1 F1 H1 j1 ⟨a, xs, e, l1, hz, k⟩ => ⟨a, e, ⟨xs, hd.sqL j1 l1⟩, fun Dl hD => by
    have fD := hd.fresh j1 hD
    obtain ⟨Pv, h0, hl, hs, hdn⟩ := k Dl fD
    refine lc_list (xs := xs) (fun i H => ∃ acc s F, i ≤ xs.length ∧ F Dl = none ∧ J s (upd F Dl (.lst acc)) H ∧ Pv i acc s F) ⟨[], s1, F1, Nat.zero_le _, fD, hd.al j1 hD, h0⟩ (fun i H' hi ⟨acc, s', F', _, f1, j', p⟩ => ?_) (fun i x H' hi ⟨acc, s', F', hle, f1, j', p⟩ => ?_) (fun H' ⟨acc, s', F', _, f1, j', p⟩ => q _ _ _ _ j' (hdn acc s' F' f1 p))
    · refine hd.sqL j' ?_
      obtain ⟨f2, _⟩ := hl i acc s' F' hi f1 p
      exact Ex.sqL (Ex.out (Ex.refl _) f1) f2
    · have hlt := (List.getElem?_eq_some_iff.mp hi).1
      obtain ⟨f2, f3⟩ := hl i acc s' F' hle f1 p
      exact lc_step hd (by omega) (hs i acc x s' F' hi f1 p) f1 j' fun acc s F H fd j p => ⟨acc, s, F, by omega, fd, j, p⟩⟩
theorem ew_lcR (hd : Hid J) (h : AW J ta σ s F fun ws s1 F1 => ∃ n : Int, ws = [.int n] ∧ n ≤ 100000 ∧ -100000 ≤ n ∧ ∀ Dl, F1 Dl = none → ∃ Pv : Nat → List V → S → Hp → Prop, Pv 0 [] s1 F1 ∧
      (∀ (i : Nat) acc s F, i ≤ n.toNat → F Dl = none → Pv i acc s F → acc.length ≤ i) ∧ (∀ (i : Nat) acc s F, (i : Int) < n → F Dl = none → Pv i acc s F → LcTurn J Dl g tt te vs σ acc (.int (i : Int)) s F (Pv (i + 1))) ∧
      (∀ acc s F, F Dl = none → Pv n.toNat acc s F → R (.ref Dl) s (upd F Dl (.lst acc)))) : EW J (tLc (iRng1 ta) g tt te vs) σ s F R := fun H j Q q =>
  h H j _ fun v s1 F1 H1 j1 ⟨n, e, hz, hz2, k⟩ => ⟨n, e, by omega, by omega, fun Dl hD => by
    have fD := hd.fresh j1 hD
    obtain ⟨Pv, h0, hl, hs, hdn⟩ := k Dl fD
    refine lc_range (lo := 0) (n := n.toNat) (fun i H => ∃ acc s F, i ≤ n.toNat ∧ F Dl = none ∧ J s (upd F Dl (.lst acc)) H ∧ Pv i acc s F) ⟨[], s1, F1, Nat.zero_le _, fD, hd.al j1 hD, h0⟩ (fun i H' hi ⟨acc, s', F', hle, f1, j', p⟩ => ?_) (fun H' ⟨acc, s', F', _, f1, j', p⟩ => q _ _ _ _ j' (hdn acc s' F' f1 p))
    have f3 := hl i acc s' F' hle f1 p
    have e0 : (0 : Int) + (i : Int) = (i : Int) := Int.zero_add _
    rw [e0]
    exact lc_step hd (by omega) (hs i acc s' F' (by omega) f1 p) f1 j' fun acc s F H fd j p => ⟨acc, s, F, by omega, fd, j, p⟩⟩
end
end Obr
namespace Obr
open PySem PySem.Spec PyProof.Rows L2 LamX NdefX
/-! ### defs that raise -/
/-- the promise of a def that ends by raising -/
def LX (A : List V → Hp → (Value → Option Addr → Hp → Prop) → Prop) : Sp := fun vs H _ E => ∃ (J : Unit → Hp → Hp → Prop) (F : Hp) (W : Value → Option Addr → Hp → Prop), Hid J ∧ J () F H ∧ A vs F W ∧ ∀ cls d F' H', J () F' H' → W cls d F' → E cls d H'
section
variable {S : Type} {J : S → Hp → Hp → Prop} {K : PySem.W.Frag} {σ : L2.St} {s : S} {F : Hp} {R : V → S → Hp → Prop} {tr : TA} {te : TE} {A : List V → Hp → (Value → Option Addr → Hp → Prop) → Prop} {E : XK}
end
/-! ### how often a flat value stands in a list -/
section
variable {X : Cx}
def rCntV (K : PySem.W.Frag) : V → List V → Hp → VK → Prop := fun x xs H Q => ∃ (p : Addr) (ys : List V) (y : V), x = .ref p ∧ xs = [y] ∧ SqL K H p ys ∧ flatV y = true ∧ ys.all flatV = true ∧ Q (.int (ys.countP fun z => eqV z y : Nat)) H
theorem count_eqU {y : V} : ∀ {ys : List V} {us : List Value}, Vals ys us → ys.all flatV = true → us.countP (eqU y) = ys.countP fun z => eqV z y
  | [], _, .nil, _ => rfl
  | a :: ys, _, .cons ra rt, h => by
    rw [List.all_cons, Bool.and_eq_true] at h
    rw [List.countP_cons, List.countP_cons, count_eqU rt h.2, eqU_of ra h.1]
theorem mt_countV : MtR X "list.count" (rCntV X.K) := by
  intro pins s σ H x xs v us Q I rx rxs h
  obtain ⟨p, ys, y, rfl, rfl, hs, fy, fys, q⟩ := h
  cases rx
  obtain ⟨u, rfl, ru⟩ := rxs.one
  obtain ⟨its, rv, ⟨⟨cls, dd, data, sl⟩, n, ho, hc, hdn, hd⟩, hlen⟩ := I.list hs
  simp only at hc hd
  subst hc hd
  refine call_meets PySem.F.slot_list_count ⟨_, ho, rfl⟩ PySem.F.entry_list_count (PySem.F.args_list_count_2 _ _)
    (SeqAt.list_countAt p its.toArray n dd sl u (eqU y)) ⟨ho, fun u' hu' => mem_eqAt ru fy rv fys u' (by simpa using hu'), ?_⟩
  refine ⟨.int (ys.countP fun z => eqV z y : Nat), H, I.tok _, ⟨s.toks, ?_⟩, q⟩
  show Value.int ((its.toArray.toList.countP (eqU y) : Nat) : Int) s.toks = _
  rw [show its.toArray.toList = its from rfl, count_eqU rv fys]
end
section
variable {S : Type} {J : S → Hp → Hp → Prop} {K : PySem.W.Frag} {s : S} {F : Hp} {R : V → S → Hp → Prop}
theorem mw_countV (hd : Hid J) {p : Addr} {ys : List V} {y : V} (l : SqL K F p ys) (fy : flatV y = true) (fys : ys.all flatV = true) (h : R (.int (ys.countP fun z => eqV z y : Nat)) s F) : MW J (rCntV K) (.ref p) [y] s F R := fun H j Q q => ⟨p, ys, y, rfl, rfl, hd.sqL j l, fy, fys, q _ _ _ _ j h⟩
theorem mw_indexV (hd : Hid J) {p : Addr} {ys : List V} {y z : V} {i : Nat} (l : SqL K F p ys) (fy : flatV y = true) (fys : ys.all flatV = true) (h1 : ys[i]? = some z) (h2 : eqV z y = true) (h3 : ∀ (m : Nat) (z' : V), m < i → ys[m]? = some z' → eqV z' y = false) (h : R (.int (i : Nat)) s F) : MW J (rIndex K) (.ref p) [y] s F R := fun H j Q q =>
  ⟨p, ys, y, i, z, rfl, rfl, hd.sqL j l, fy, fys, h1, h2, h3, q _ _ _ _ j h⟩
theorem cw_isE {D a : Addr} {c : V} {cv : Value} {b : Bool} (h1 : ∀ u, L2.RelV c u → u = cv) (h2 : PySem.W.kitOne K (.ref D) cv = some b) (h : R (.bl b) s F) : CW J (rIsE K D a) [.ref a, c] s F R := fun H j Q q => ⟨c, cv, b, rfl, h1, h2, q _ _ _ _ j h⟩
end
/-- what is told of an own exception class without own words -/
structure XF (K : PySem.W.Frag) (mg : Str → Option Value) (x : Str) (C : Addr) : Prop where
  xF : PySem.W.excIn K C [Value.type "ValueError", Value.type "Exception", Value.type "BaseException", Value.type "object"] "ValueError.__new__" = true
  gF : mg x = some (.ref C)
  kF : PySem.W.keepIn K (.ref C) = true
  bF : PySem.W.subIn K (.ref C) (.type "BaseException") = some true
  tF : PySem.W.typeIn K (.ref C) = some (.type "type")
end Obr
namespace Obr
open PySem PySem.Spec L2 LamX NdefX PyProof.Rows
/-! ### what stays when a table has changed; a def with its code object -/
theorem extN_sqT {F G : Hp} (g : ExtN F G) {K a xs} (h : SqT K F a xs) : SqT K G a xs := by
  rcases h with (h | ⟨o, h⟩) | h
  · exact Or.inl (Or.inl (g _ _ h (fun ps z => by cases z)))
  · exact Or.inl (Or.inr ⟨o, g _ _ h (fun ps z => by cases z)⟩)
  · exact Or.inr h
theorem extN_sqL {F G : Hp} (g : ExtN F G) {K a xs} (h : SqL K F a xs) : SqL K G a xs := by
  rcases h with (h | ⟨o, h⟩) | h
  · exact Or.inl (Or.inl (g _ _ h (fun ps z => by cases z)))
  · exact Or.inl (Or.inr ⟨o, g _ _ h (fun ps z => by cases z)⟩)
  · exact Or.inr h
mutual
theorem dp_extN {K : PySem.W.Frag} {F G : Hp} (g : ExtN F G) : ∀ {d : PyData} {v : V}, Dp K F v d → Dp K G v d
  | .none, _, h => by cases h; exact .non
  | .bool b, _, h => by cases h; exact .bl b
  | .int i, _, h => by cases h; exact .int i
  | .str x, _, h => by cases h; exact .str x
  | .list ds, _, h => by
    cases h with
    | lst hs ha => exact .lst (extN_sqL g hs) (dps_extN g ha)
  | .tuple ds, _, h => by
    cases h with
    | tup hs ha => exact .tup (extN_sqT g hs) (dps_extN g ha)
  | .dict _, _, h => by cases h
theorem dps_extN {K : PySem.W.Frag} {F G : Hp} (g : ExtN F G) : ∀ {ds : List PyData} {vs : List V}, DpAll K F vs ds → DpAll K G vs ds
  | [], _, h => by cases h; exact .nil
  | d :: ds, _, h => by
    cases h with
    | cons h1 h2 => exact .cons (dp_extN g h1) (dps_extN g h2)
end
theorem Fun.okC {P : Program} {w : World} {K : PySem.W.Frag} {mg : Str → Option Value} {base : Heap} {x qual : Str} {st : Stmt} {f : Addr} {fd : FuncData} {N ps : List Str} {k : Nat} {sp : Sp} (F : Fun K x qual st f fd) (S : FnScope N ps (defScope st)) (len : ∀ vs H Q E, sp vs H Q E → vs.length = ps.length)
    (hbody : ∀ (cdv : Value) (_ : fd.code = cdv) (A : Around) (outer : List Env) (s : Shared) (H : Hp) (vs : List V) (Q : VK) (E : XK), Room k (A.deeper (envOfC qual (defScope st) s.heap.objs.size f cdv)) → sp vs H Q E →
      ∃ t, PSs (cxOf CX0 P w K mg base N qual (defScope st) f cdv A outer s H E).nox (defBody st) t ∧ t { nx := fun _ H' => Q .non H', rt := Q } (start N vs) H) : FnOk P w K mg base CX0 (k + 1) f fd ps sp := by
  obtain ⟨oc, od, kV, doc, pm, an, cdv, ct, osl, rfl, lk, hcd⟩ := F.ex
  refine fn_of lk hcd S len fun A outer s H vs Q E hr hsp => ?_
  obtain ⟨t, h, q⟩ := hbody cdv rfl A outer s H vs Q E hr hsp
  exact ⟨t, h.nox, q⟩
/-! ### the law -/
def lamQ : Str := "law" ++ ".<locals>." ++ "<lambda>"
abbrev lamT (P : Addr) : List NTab := [(P, fun _ _ => lamQ)]
end Obr
/-! ### a caught exception with fields: isinstance, and its fields -/
namespace Obr
open PySem PySem.Spec PyProof.Rows L2
/-- isinstance(e, c), e caught, its fields at dx -/
def rIsX (K : PySem.W.Frag) (D a dx : Addr) : List V → Hp → VK → Prop := fun xs F R => ∃ (c : V) (cv : Value) (yes : Bool) (fs : List (Str × V)), xs = [.ref a, c] ∧ (∀ u, L2.RelV c u → u = cv) ∧ PySem.W.kitOne K (.ref D) cv = some yes ∧ F dx = some (.xd fs) ∧ R (.bl yes) F
theorem call_isX {X : Cx} {a D dx : Addr} {oe : Obj} {pn : List (Addr × Obj)} (T : ExcC X.K D) (hz : Zc (.ref D) (some dx) oe) (hf : ∃ vs, oe.data = .fields vs) : CallR (X.suite a ((a, oe) :: pn)) (.builtin "isinstance") (rIsX X.K D a dx) := fun pins s σ H xs us Q I rs ⟨c, cv, yes, fs, ex, hcv, hk, hd, z⟩ => by
  subst ex
  match us, rs with
  | [_, _], .cons r1 (.cons r2 .nil) =>
    cases r1
    cases hcv _ r2
    obtain ⟨got, _⟩ := I.pin (a, oe) (List.mem_append_left _ List.mem_cons_self)
    obtain ⟨vs, data⟩ := hf
    have dict : ObjOk X.prog X.w H s.heap dx (.xd fs) := I.hok dx _ hd
    obtain ⟨_, ns, _⟩ := dict
    obtain ⟨od, at_, _⟩ := lookIn_ns ns
    have inst : PySem.W.InstAt s.heap a oe D (some od) := ⟨got, hz.1, by unfold PySem.W.notCls; rw [data] <;> rfl, by rw [hz.2]; exact at_⟩
    have cl : (PySem.W.clsIn X.K D).isSome = true := by
      have h := T.hd
      unfold PySem.W.hasDictIn at h
      cases e : PySem.W.clsIn X.K D with
      | none => rw [e] at h; cases h
      | some _ => rfl
    exact PySem.W.kia_one (PySem.W.kitx_exc cl T.hg T.hk T.hs T.ha T.hn T.ht T.hm) I.kIn inst hk nofun fun tk => ⟨.bl yes, H, I.kept (t' := tk) fun _ _ y => y, rfl, z⟩
section
variable {S : Type} {J : S → Hp → Hp → Prop} {K : PySem.W.Frag} {s : S} {F : Hp} {R : V → S → Hp → Prop} {σ : L2.St} {te : TE}
theorem cw_isX (hd : Hid J) {D a dx : Addr} {c : V} {cv : Value} {yes : Bool} {fs : List (Str × V)} (h1 : ∀ u, L2.RelV c u → u = cv) (h2 : PySem.W.kitOne K (.ref D) cv = some yes) (h3 : F dx = some (.xd fs)) (h : R (.bl yes) s F) : CW J (rIsX K D a dx) [.ref a, c] s F R := fun H j Q q => ⟨c, cv, yes, fs, rfl, h1, h2, hd.ex j _ _ h3, q _ _ _ _ j h⟩
theorem ew_xf (hd : Hid J) {a C dx : Addr} {n : Str} (h : EW J te σ s F fun x s1 F1 => x = .ref a ∧ ∃ (fs : List (Str × V)) (v : V), F1 dx = some (.xd fs) ∧ fs.lookup n = some v ∧ R v s1 F1) : EW J (tXf a (.ref C) (some dx) C n te) σ s F R := fun H j Q q =>
  h H j _ fun x s1 F1 H1 j1 ⟨ex, fs, v, e, l, k⟩ => ⟨ex, rfl, dx, fs, v, rfl, hd.ex j1 _ _ e, l, q _ _ _ _ j1 k⟩
end
end Obr
/-! ### k(e), k a def that is handed a lambda -/
namespace Obr
open PySem PySem.Spec L2 LamX NdefX PyProof.Rows
def tKCall (X : Cx) (CXl : CXT) (kl : Nat) (TT : TTr) (ta : TA) : TE := fun σ H Q => ta σ H fun vs G => ∃ v, vs = [v] ∧ KCall X CXl kl TT σ v G Q
theorem pe_kcall {X : Cx} {ta : TA} {e : Expr} {x : Str} {g : Addr} {p pos : Pos} {TT : TTr} {CXl : CXT} {kg kl j : Nat} (ha : PA X [e] ta) (hg : Gl X x) (hm : X.mg x = some (.ref g)) (hk : PySem.W.keepIn X.K (.ref g) = true)
    (G : GOk X.prog X.w X.K X.mg X.base C8.CX0 CXl kg kl g TT) (hr : Room j X.A) (hj : kg ≤ j) (dbg : (x == ("__debug__" : Str)) = false := by decide)
    (one : starEach [e] X.env = (false, eval e X.env) :: starEach [] X.env := by rfl) (plain : (backTo pos (starEach [] X.env)).any (·.1) = false := by rfl) :
    PE X (.Call (.Name x p) [e] [] pos) (tKCall X CXl kl TT ta) := ⟨fun pins s σ H Q I h => by
  refine wpAny_Call_Name_kw (ld_glob I hg hm (PySem.W.callWith_K (h₀ := X.base) I.ok.mod.kin hk (thn (ha.run pos pins s σ H _ I h) ?_) one plain) dbg)
  rintro us s1 ⟨_, G1, J, rs, _, rfl, f, F, ds, fr, js, sp, rfl, lat, cap, lok, tt⟩
  refine ⟨J.kIn, ?_⟩
  match us, rs with
  | [_], .cons r .nil =>
    cases r
    refine wpAny_call (codeAny_mono (G.run X.A X.stack s1 G1 f F ds fr _ sp _ C8.E0 (hr.mono hj) J.env0 lat (cells_of J (cap J.ok)) lok tt) ?_)
    intro r2 s2 y
    match r2, y with
    | .error _, y => exact (show False from y).elim
    | .ok (.ret u), y =>
      obtain ⟨z, G2, sameOs, bare, un, ok, rz, told⟩ := y
      exact ⟨z, G2, J.call' (ch := []) sameOs un ok bare (fun b hb => nomatch hb), rz, told⟩
    | .ok .next, y => exact False.elim y
    | .ok .brk, y => exact False.elim y
    | .ok .cont, y => exact False.elim y⟩
end Obr
/-! own cells laid aside while a call runs that knows nothing of them -/
namespace Obr
open PySem L2 PyProof.Rows
def overH (F G : Hp) : Hp := fun y => match G y with | some o => some o | none => F y
def JP {S : Type} (J : S → Hp → Hp → Prop) (G : Hp) : S → Hp → Hp → Prop := fun s F H => (∀ y o, G y = some o → F y = none) ∧ J s (overH F G) H
theorem over_none {F G : Hp} {y : Addr} (h : G y = none) : overH F G y = F y := by unfold overH; rw [h]
theorem over_upd {F G : Hp} {p : Addr} {o : HO} (h : G p = none) : overH (upd F p o) G = upd (overH F G) p o := by
  funext y
  by_cases e : y = p
  · subst e
    rw [over_none h, upd_same, upd_same]
  · rw [upd_ne e]
    unfold overH
    cases G y with
    | none => exact upd_ne e
    | some _ => rfl
theorem Hid.jp {S : Type} {J : S → Hp → Hp → Prop} {G : Hp} (hd : Hid J) : Hid (JP J G) where
  ex := fun {s F H} ⟨h0, j⟩ a o e => hd.ex j a o (by
    have : G a = none := by
      cases g : G a with
      | none => rfl
      | some u => rw [h0 a u g] at e; cases e
    rw [over_none this]; exact e)
  al := fun {s F H p o} ⟨h0, j⟩ hp => by
    have e := hd.fresh j hp
    have g : G p = none := by
      cases g : G p with
      | none => rfl
      | some u => unfold overH at e; rw [g] at e; cases e
    refine ⟨fun y u gy => ?_, by rw [over_upd g]; exact hd.al j hp⟩
    have n : y ≠ p := fun z => by rw [z, g] at gy; cases gy
    rw [upd_ne n]
    exact h0 y u gy
  mu := fun {s F H a o o'} ⟨h0, j⟩ e => by
    have g : G a = none := by
      cases g : G a with
      | none => rfl
      | some u => rw [h0 a u g] at e; cases e
    refine ⟨fun y u gy => ?_, by rw [over_upd g]; exact hd.mu j (o := o) (by rw [over_none g]; exact e)⟩
    have n : y ≠ a := fun z => by rw [z, g] at gy; cases gy
    rw [upd_ne n]
    exact h0 y u gy
def pickH (F : Hp) (L : List (Addr × HO)) : Hp := fun y => if y ∈ L.map (·.1) then F y else none
def dropH (F : Hp) (L : List (Addr × HO)) : Hp := fun y => if y ∈ L.map (·.1) then none else F y
theorem over_pick {F : Hp} {L : List (Addr × HO)} : overH (dropH F L) (pickH F L) = F := by
  funext y
  unfold overH dropH pickH
  by_cases h : y ∈ L.map (·.1)
  · simp only [if_pos h]
    cases F y <;> rfl
  · simp only [if_neg h]
theorem drop_ex {F0 F : Hp} {L : List (Addr × HO)} (h : Own F0 F L) : Ex F0 (dropH F L) := fun y o e => by
  unfold dropH
  rw [if_neg (fun m => by
    obtain ⟨p, hp, rfl⟩ := List.mem_map.mp m
    rw [h.out p hp] at e
    cases e)]
  exact h.ex y o e
theorem ew_aside {S : Type} {J : S → Hp → Hp → Prop} {σ : L2.St} {s : S} {F0 F : Hp} {R : V → S → Hp → Prop} {t : TE} {L : List (Addr × HO)} (hd : Hid J) (h : Own F0 F L)
    (k : EW (JP J (pickH F L)) t σ s (dropH F L) fun v s' F' => ∀ F'', Own F' F'' L → R v s' F'') : EW J t σ s F R := by
  intro H j Q q
  have h1 : ∀ y o, pickH F L y = some o → dropH F L y = none := fun y o e => by
    unfold pickH at e
    unfold dropH
    split at e
    · rename_i m
      rw [if_pos m]
    · cases e
  have pk : ∀ p ∈ L, pickH F L p.1 = some p.2 := fun p hp => by
    unfold pickH
    rw [if_pos (List.mem_map.mpr ⟨p, hp, rfl⟩)]
    exact h.at_ p hp
  refine k H ⟨h1, by rw [over_pick]; exact j⟩ Q fun v s' F' H' ⟨h0, j'⟩ r => q v s' _ H' j' (r _ ⟨fun y o e => ?_, fun p hp => h0 p.1 p.2 (pk p hp), fun p hp => ?_, h.nd⟩)
  · have g : pickH F L y = none := by
      cases g : pickH F L y with
      | none => rfl
      | some u => rw [h0 y u g] at e; cases e
    rw [over_none g]
    exact e
  · unfold overH
    rw [pk p hp]
end Obr
namespace Obr
open PySem L2
def top (i : Nat) : Stmt := PySem.Challenge.pw_onebreath_k12_texts_of_no_world.main.body.getD i (.Pass ⟨0, 0, 0, 0⟩)

local macro_rules | `(tactic| walk_at "ob_at") => `(tactic| first
  | assumption
  | exact upd_same
  | (refine Eq.trans (upd_ne ?obn) ?obr; (case obn => walk_at "ob_ne"); (case obr => walk_at "ob_at")))
local macro_rules | `(tactic| walk_at "ob_ne") => `(tactic| first
  | assumption
  | (refine Ne.symm ?obs; (case obs => assumption))
  | (refine' ne_of_none (H := ?_) ?obe ?obh; (case obh => assumption); (case obe => walk_at "ob_at"))
  | (refine Ne.symm ?obs; (case obs => (refine' ne_of_none (H := ?_) ?obe ?obh; (case obh => assumption); (case obe => walk_at "ob_at")))))
local macro_rules | `(tactic| walk_at "ob_fr") => `(tactic| first
  | assumption
  | (refine Eq.trans (upd_ne ?obn) ?obr; (case obn => walk_at "ob_ne"); (case obr => walk_at "ob_fr"))
  | (refine Ex.free (G := ?_) (by assumption) ?obh; (case obh => walk_at "ob_fr")))
local macro_rules | `(tactic| walk_at "ob_ex") => `(tactic| first
  | assumption
  | exact Ex.refl _
  | (refine Ex.out ?obg ?obh; (case obh => assumption); (case obg => walk_at "ob_ex"))
  | (refine Ex.new ?obg ?obh; (case obh => assumption); (case obg => walk_at "ob_ex"))
  | (refine Ex.new ?obg ?obh; (case obh => walk_at "ob_fr"); (case obg => walk_at "ob_ex")))
local macro_rules | `(tactic| walk_at "ob_sq") => `(tactic| first
  | assumption
  | (refine SqL.of ?oba; (case oba => walk_at "ob_at"))
  | (refine SqT.of ?oba; (case oba => walk_at "ob_at")))
local macro_rules | `(tactic| walk_at "ob_side") => `(tactic| first | exact rfl | assumption | decide | omega | exact ⟨by decide, by decide, by decide⟩ | exact Or.inr ⟨by decide, by decide⟩ | exact Or.inl ⟨by decide, by decide⟩)
local macro_rules | `(tactic| walk_at "ob1") => `(tactic| first
  | with_reducible refine sw_seq ?_
  | with_reducible refine sw_asg ?_
  | with_reducible refine sw_ret ?_
  | with_reducible refine sw_drop ?_
  | with_reducible refine sw_if ?_
  | with_reducible refine sw_next ?_
  | with_reducible refine gw_name ?_
  | with_reducible refine ew_c ?_
  | ((with_reducible refine' ew_var (v := ?_) ?obv ?_); (case obv => exact rfl))
  | with_reducible refine ew_op ?_
  | with_reducible refine ew_un ?_
  | with_reducible refine ew_cb ?_
  | with_reducible refine ew_if ?_
  | with_reducible refine aw_nil ?_
  | with_reducible refine aw_cons ?_
  | with_reducible refine rw_I0 ?_
  | ((with_reducible refine rw_I ?obc ?_); (case obc => walk_at "ob_side"))
  | ((with_reducible refine rw_eq ?obc ?_); (case obc => exact rfl))
  | ((with_reducible refine rw_ne ?obc ?_); (case obc => exact rfl))
  | with_reducible refine cw_max2 ?_
  | with_reducible refine cw_min2 ?_
  | with_reducible refine tw_test ?_
  | with_reducible refine tw_B ?_
  | with_reducible refine tw_not ?_
  | with_reducible refine ⟨_, rfl, ?_⟩
  | ((with_reducible refine' rw_ixL (v := ?_) (xs := ?_) (by assumption) ?obl ?oba ?_); (case obl => walk_at "ob_sq"); (case oba => exact rfl))
  | ((with_reducible refine' rw_ixT (v := ?_) (xs := ?_) (by assumption) ?obl ?oba ?_); (case obl => walk_at "ob_sq"); (case oba => exact rfl))
  | ((with_reducible refine' ew_lst (by assumption) ?_))
  | ((with_reducible refine' ew_tup (by assumption) ?_)))
local macro_rules | `(tactic| walk_at "ob") => `(tactic| repeat walk_at "ob1")

abbrev sNext : Stmt := top 31
def N_next : List Str := ["_law_h", "_law_many", "_law_cell"]
theorem sc_next : FnScope N_next ["_law_h", "_law_many"] (defScope sNext) := ⟨rfl, rfl, rfl, by decide +kernel, rfl, by decide +kernel, by decide +kernel⟩
section
variable {P : Program} {w : World} {K : PySem.W.Frag} {mg : Str → Option Value} {base : Heap}

theorem ok_next {f : Addr} {fd : FuncData} (Fn : Fun K "_law_next" "_law_next" sNext f fd) (B : Blt mg) : FnOk P w K mg base CX0 1 f fd ["_law_h", "_law_many"] (LN aNext) := by
  refine Fn.ok sc_next (fun vs H Q E h => ?_) (fun cdv A outer s H vs Q E hr h => ?_)
  · obtain ⟨h, c, J, F, R, ws, hd, rfl, j, ⟨n, rfl, _⟩, _⟩ := h
    rfl
  · have nd := sc_next.nd
    obtain ⟨h, c, J, F, R, ws, hd, rfl, ⟨G, m, p, cells, g, fh, fc, m0, m1, p0, l, gh, gc, j⟩, ⟨n, rfl, n0, n1, k⟩, q⟩ := h
    have hc : h ≠ c := fun e => by
      subst e
      rw [gh] at gc
      have := Option.some.inj gc
      unfold hL cL at this
      injection this with e1
      cases cells with
      | nil => cases e1
      | cons z t => cases t with
        | nil => cases e1
        | cons z2 t =>
          have := (List.cons.inj (List.cons.inj e1).2).1
          cases this
    refine ⟨_, (pss_cons (ps_set (i := 2) nd rfl (Or.inl rfl) (pe_ix ix_list (pe_op op_cat (pe_ix ix_list (pv 0) pe_int (fun _ _ => rfl)) (pe_lst (pa_cons pe_int pa_nil))) (pe_op op_mod (pe_ix ix_list (pv 0) pe_int (fun _ _ => rfl)) (pe_callB (call_max2 rfl) (by rfl) B.max (by decide +kernel) (pa_cons pe_int (pa_cons (pe_callB call_len_seq (by rfl) B.len (by decide +kernel) (pa_cons (pe_ix ix_list (pv 0) pe_int (fun _ _ => rfl)) pa_nil)) pa_nil)))) (fun _ _ => rfl)))
      (pss_cons (ps_if (pt_cmpR op_ge (pv 2) (pe_op op_pow pe_int pe_int) (nomark _)) (pss_cons (ps_asg (pe_op op_fdivW (pv 2) (pv 1)) (pg_sub (pe_ix ix_list (pv 0) pe_int (fun _ _ => rfl)) (pe_op op_mod (pe_ix ix_list (pv 0) pe_int (fun _ _ => rfl)) (pe_callB call_len_seq (by rfl) B.len (by decide +kernel) (pa_cons (pe_ix ix_list (pv 0) pe_int (fun _ _ => rfl)) pa_nil))) set_list))
      (pss_one (ps_ret (pe_op op_mod (pv 2) (pv 1))))) pss_nil)
      (pss_cons (ps_asg (pe_op op_mod (pe_op op_add (pe_op op_add (pe_op op_mul (pe_ix ix_list (pv 0) pe_int (fun _ _ => rfl)) pe_int) (pe_op op_mul (pv 2) pe_int)) pe_int) pe_int) (pg_sub (pv 0) pe_int set_list))
      (pss_cons (ps_asg (pe_op op_add (pe_ix ix_list (pv 0) pe_int (fun _ _ => rfl)) pe_int) (pg_sub (pv 0) pe_int set_list))
      (pss_one (ps_ret (pe_op op_mod (pe_op op_fdivW (pe_ix ix_list (pv 0) pe_int (fun _ _ => rfl)) pe_int) (pv 1)))))))), ?_⟩
    refine LS.body j (R := fun v G => ∃ (m p : Int) (cells : List Int), Ex F G ∧ 0 ≤ m ∧ m < 2147483647 ∧ 0 ≤ p ∧ cells.length ≤ 63 ∧ G h = some (hL c m p) ∧ G c = some (cL cells) ∧ R v F)
      (fun v G' H' j' ⟨m', p', cells', g1, g4, g5, g6, g7, e1, e2, r⟩ => q v F H' ⟨G', m', p', cells', g1, fh, fc, g4, g5, g6, g7, e1, e2, j'⟩ r) ?_
    walk_at "ob"
    refine ⟨by decide, fun p1 hp1 => ?_⟩
    walk_at "ob"
    refine rw_cat hd (xs := cells.map V.int) (zs := [V.int 0]) (by walk_at "ob_at") (by walk_at "ob_at") (by simp; omega) fun p2 hp2 => ?_
    walk_at "ob"
    refine cw_lenS hd (ys := cells.map V.int) (Or.inl (by walk_at "ob_sq")) ?_
    walk_at "ob"
    have M0 : 0 < (if ((cells.map V.int).length : Int) > 1 then ((cells.map V.int).length : Int) else 1) := by split <;> omega
    have e0 := Int.emod_nonneg p (show (if ((cells.map V.int).length : Int) > 1 then ((cells.map V.int).length : Int) else 1) ≠ 0 by omega)
    have e1 := Int.emod_lt_of_pos p M0
    generalize ei : p % (if ((cells.map V.int).length : Int) > 1 then ((cells.map V.int).length : Int) else 1) = i at e0 e1
    have e2 : i < ((cells ++ [0]).length : Nat) := by
      rw [List.length_append]
      rw [List.length_map] at e1
      simp only [List.length_singleton]
      split at e1 <;> omega
    have e3 : (cells.map V.int) ++ [V.int 0] = (cells ++ [0]).map V.int := by rw [List.map_append]; rfl
    rw [e3]
    refine rw_ixL hd (SqL.of (by walk_at "ob_at")) (at_ints e0 e2) ?_
    generalize ez : (cells ++ [0]).getD i.toNat 0 = z
    walk_at "ob"
    have e18 : (10 : Int) ^ (18 : Int).toNat = 1000000000000000000 := by decide
    refine ⟨fun hb => ?_, fun hb => ?_⟩
    · have hz := of_decide_eq_true hb
      rw [e18] at hz
      have hcells : 0 < cells.length := by
        cases cells with
        | nil =>
          simp only [List.nil_append] at ez
          cases hi : i.toNat with
          | zero => rw [hi] at ez; simp at ez; omega
          | succ k => rw [hi] at ez; simp at ez; omega
        | cons a t => simp
      walk_at "ob"
      refine rw_I (wide_div (b := 60) n0 (by omega) (by decide) (by decide)) ?_
      refine gw_subL hd ?_
      walk_at "ob"
      refine cw_lenS hd (ys := cells.map V.int) (Or.inl (by walk_at "ob_sq")) ?_
      walk_at "ob"
      have L0 : 0 < ((cells.map V.int).length : Int) := by rw [List.length_map]; omega
      refine rw_I L0 ?_
      have f0 := Int.emod_nonneg p (show ((cells.map V.int).length : Int) ≠ 0 by omega)
      have f1 := Int.emod_lt_of_pos p L0
      refine ⟨c, _, _, _, rfl, rfl, (by walk_at "ob_at"), ixN_of f0 (by exact f1), ?_⟩
      walk_at "ob"
      refine ⟨m, p, cells.set (p % ((cells.map V.int).length : Int)).toNat (z / n), by walk_at "ob_ex", m0, m1, p0, by rw [List.length_set]; exact l, by walk_at "ob_at", ?_, k _ (Int.emod_nonneg _ (by omega)) (Int.emod_lt_of_pos _ n0)⟩
      rw [map_set_int]
      exact upd_same
    · walk_at "ob"
      refine gw_subL hd ?_
      walk_at "ob"
      refine ⟨h, _, _, _, rfl, rfl, (by walk_at "ob_at"), rfl, ?_⟩
      walk_at "ob"
      refine gw_subL hd ?_
      walk_at "ob"
      refine ⟨h, _, _, _, rfl, rfl, (by walk_at "ob_at"), rfl, ?_⟩
      walk_at "ob"
      refine rw_I (wide_div (b := 10) (by decide) (by decide) (by decide) (by decide)) ?_
      walk_at "ob"
      refine ⟨_, p + 1, cells, by walk_at "ob_ex", ?_, ?_, by omega, l, upd_same, by walk_at "ob_at", k _ (Int.emod_nonneg _ (by omega)) (Int.emod_lt_of_pos _ n0)⟩
      · exact Int.emod_nonneg _ (by decide)
      · exact Int.emod_lt_of_pos _ (by decide)
end
end Obr
namespace Obr
open PySem L2
local macro_rules | `(tactic| walk_at "ob_at") => `(tactic| first
  | assumption
  | exact upd_same
  | (refine Eq.trans (upd_ne ?obn) ?obr; (case obn => walk_at "ob_ne"); (case obr => walk_at "ob_at")))
local macro_rules | `(tactic| walk_at "ob_ne") => `(tactic| first
  | assumption
  | (refine Ne.symm ?obs; (case obs => assumption))
  | (refine' ne_of_none (H := ?_) ?obe ?obh; (case obh => assumption); (case obe => walk_at "ob_at"))
  | (refine Ne.symm ?obs; (case obs => (refine' ne_of_none (H := ?_) ?obe ?obh; (case obh => assumption); (case obe => walk_at "ob_at")))))
local macro_rules | `(tactic| walk_at "ob_fr") => `(tactic| first
  | assumption
  | (refine Eq.trans (upd_ne ?obn) ?obr; (case obn => walk_at "ob_ne"); (case obr => walk_at "ob_fr"))
  | (refine Ex.free (G := ?_) (by assumption) ?obh; (case obh => walk_at "ob_fr")))
local macro_rules | `(tactic| walk_at "ob_ex") => `(tactic| first
  | assumption
  | exact Ex.refl _
  | (refine Ex.out ?obg ?obh; (case obh => assumption); (case obg => walk_at "ob_ex"))
  | (refine Ex.new ?obg ?obh; (case obh => assumption); (case obg => walk_at "ob_ex"))
  | (refine Ex.new ?obg ?obh; (case obh => walk_at "ob_fr"); (case obg => walk_at "ob_ex")))
local macro_rules | `(tactic| walk_at "ob_sq") => `(tactic| first
  | assumption
  | (refine SqL.of ?oba; (case oba => walk_at "ob_at"))
  | (refine SqT.of ?oba; (case oba => walk_at "ob_at")))
local macro_rules | `(tactic| walk_at "ob_side") => `(tactic| first | exact rfl | assumption | decide | omega | exact ⟨by decide, by decide, by decide⟩ | exact Or.inr ⟨by decide, by decide⟩ | exact Or.inl ⟨by decide, by decide⟩)
local macro_rules | `(tactic| walk_at "ob1") => `(tactic| first
  | with_reducible refine sw_seq ?_
  | with_reducible refine sw_asg ?_
  | with_reducible refine sw_ret ?_
  | with_reducible refine sw_drop ?_
  | with_reducible refine sw_if ?_
  | with_reducible refine sw_next ?_
  | with_reducible refine gw_name ?_
  | with_reducible refine ew_c ?_
  | ((with_reducible refine' ew_var (v := ?_) ?obv ?_); (case obv => exact rfl))
  | ((with_reducible refine ew_next (by assumption) ?obv ?_); (case obv => exact rfl))
  | ((with_reducible refine ew_world (by assumption) ?obv ?_); (case obv => exact rfl))
  | ((with_reducible refine ew_rule (by assumption) ?obv ?_); (case obv => exact rfl))
  | with_reducible refine ew_op ?_
  | with_reducible refine ew_un ?_
  | with_reducible refine ew_cb ?_
  | with_reducible refine ew_if ?_
  | with_reducible refine aw_nil ?_
  | with_reducible refine aw_cons ?_
  | with_reducible refine rw_I0 ?_
  | ((with_reducible refine rw_I ?obc ?_); (case obc => walk_at "ob_side"))
  | ((with_reducible refine rw_eq ?obc ?_); (case obc => exact rfl))
  | ((with_reducible refine rw_ne ?obc ?_); (case obc => exact rfl))
  | with_reducible refine cw_max2 ?_
  | with_reducible refine cw_min2 ?_
  | with_reducible refine tw_test ?_
  | with_reducible refine tw_B ?_
  | with_reducible refine tw_not ?_
  | (refine' Exists.intro _ (And.intro (show V.bl _ = V.bl _ from rfl) ?_))
  | (refine' Exists.intro _ (And.intro (show V.int _ = V.int _ from rfl) ?_))
  | ((with_reducible refine' rw_ixL (v := ?_) (xs := ?_) (by assumption) ?obl ?oba ?_); (case obl => walk_at "ob_sq"); (case oba => exact rfl))
  | ((with_reducible refine' rw_ixT (v := ?_) (xs := ?_) (by assumption) ?obl ?oba ?_); (case obl => walk_at "ob_sq"); (case oba => exact rfl))
  | ((with_reducible refine' ew_lst (by assumption) ?_))
  | ((with_reducible refine' ew_tup (by assumption) ?_)))
local macro_rules | `(tactic| walk_at "ob_len") => `(tactic| first | exact Nat.le_of_ble_eq_true rfl | (simp; done) | omega)
local macro_rules | `(tactic| walk_at "ob") => `(tactic| repeat walk_at "ob1")

abbrev sMix : Stmt := top 30
def N_mix : List Str := ["_law_script", "_law_seed", "_law_mixed", "_law_cell"]
theorem sc_mix : FnScope N_mix ["_law_script", "_law_seed"] (defScope sMix) := ⟨rfl, rfl, rfl, by decide +kernel, rfl, by decide +kernel, by decide +kernel⟩
abbrev sRule : Stmt := top 34
def N_rule : List Str := ["_law_h"]
theorem sc_rule : FnScope N_rule ["_law_h"] (defScope sRule) := ⟨rfl, rfl, rfl, by decide +kernel, rfl, by decide +kernel, by decide +kernel⟩
section
variable {P : Program} {w : World} {K : PySem.W.Frag} {mg : Str → Option Value} {base : Heap}
theorem ok_mix {f : Addr} {fd : FuncData} (Fn : Fun K "_law_mix" "_law_mix" sMix f fd) (B : Blt mg) : FnOk P w K mg base CX0 1 f fd ["_law_script", "_law_seed"] (LS (aMix K)) := by
  refine Fn.ok sc_mix (fun vs H Q E h => ?_) (fun cdv A outer s H vs Q E hr h => ?_)
  · obtain ⟨J, F, R, hd, j, ⟨a, ns, z, rfl, _⟩, _⟩ := h
    rfl
  · have nd := sc_mix.nd
    obtain ⟨J, F, R, hd, j, ⟨a, ns, z, rfl, hl, z0, z1, k⟩, q⟩ := h
    refine ⟨_, (pss_cons (ps_set (i := 2) nd rfl (Or.inl rfl) (pv 1))
      (pss_cons (ps_for PassesOwn.never rfl (pi_list (pv 0)) (pg_name (i := 3) nd rfl (Or.inl rfl)) (pss_one (ps_set (i := 2) nd rfl (Or.inl rfl) (pe_op op_mod (pe_op op_add (pe_op op_add (pe_op op_mul (pv 2) pe_int) (pe_op op_mod (pv 3) pe_int)) pe_int) pe_int))))
      (pss_one (ps_ret (pe_lst (pa_cons (pv 2) (pa_cons (pe_callTy call_list_of (by rfl) B.list (by decide +kernel) (pa_cons (pv 0) pa_nil)) (pa_cons pe_int pa_nil)))))))), ?_⟩
    refine LS.body j q ?_
    walk_at "ob"
    refine sw_forL hd ?_
    walk_at "ob"
    refine ⟨a, ns.map V.int, fun i σ s G => G = F ∧ ∃ (m : Int) (y : Option V), σ = [some (.ref a), some (.int z), some (.int m), y] ∧ 0 ≤ m ∧ m < 2147483647, rfl, hl, ⟨rfl, z, none, rfl, z0, z1⟩, ?_, ?_, ?_⟩
    · rintro i σ s G hi ⟨rfl, _⟩
      exact hl
    · rintro i x σ s G hi ⟨rfl, m, y, rfl, m0, m1⟩
      obtain ⟨u, rfl⟩ : ∃ u, x = V.int u := by
        rw [List.getElem?_map] at hi
        cases e : ns[i]? with
        | none => rw [e] at hi; cases hi
        | some u => rw [e] at hi; exact ⟨u, (Option.some.inj hi).symm⟩
      walk_at "ob"
      exact ⟨rfl, _, _, rfl, Int.emod_nonneg _ (by decide), Int.emod_lt_of_pos _ (by decide)⟩
    · rintro σ s G ⟨rfl, m, y, rfl, m0, m1⟩
      walk_at "ob"
      refine cw_list hd (ys := ns.map V.int) (Or.inl (by exact hl)) fun c hc => ?_
      walk_at "ob"
      refine ⟨by walk_at "ob_len", fun h hh => ?_⟩
      exact k m c h m0 m1 hc (Ex.free (Ex.new (Ex.refl _) hc) hh) (ne_of_none upd_same hh)
theorem ok_rule {f f1 : Addr} {fd fd1 : FuncData} (Fn : Fun K "_law_rule" "_law_rule" sRule f fd) (B : Blt mg)
    (C_law_next : Cal K mg "_law_next" f1 fd1 ["_law_h", "_law_many"]) (G_law_next : FnOk P w K mg base CX0 1 f1 fd1 ["_law_h", "_law_many"] (LN aNext)) :
    FnOk P w K mg base CX0 2 f fd ["_law_h"] (LN (aRule K)) := by
  refine Fn.ok sc_rule (fun vs H Q E h => ?_) (fun cdv A outer s H vs Q E hr h => ?_)
  · obtain ⟨h, c, J, F, R, ws, hd, rfl, j, ⟨rfl, _⟩, _⟩ := h
    rfl
  · have nd := sc_rule.nd
    obtain ⟨h, c, J, F, R, ws, hd0, rfl, j, ⟨rfl, k⟩, q⟩ := h
    have hd := hd0.hj (h := h) (c := c)
    refine ⟨_, (pss_one (ps_ret (pe_tup (pa_cons (pe_ix ix_list (pe_lst (pa_cons pe_str (pa_cons pe_str (pa_cons pe_str (pa_cons pe_str pa_nil))))) (pe_call G_law_next (hr.mono (by decide)) (by rfl) C_law_next.g C_law_next.k C_law_next.a .nil pass0 (pa_cons (pv 0) (pa_cons pe_int pa_nil))) (fun _ _ => rfl)) (pa_cons (pe_cmpR op_eq (pe_call G_law_next (hr.mono (by decide)) (by rfl) C_law_next.g C_law_next.k C_law_next.a .nil pass0 (pa_cons (pv 0) (pa_cons pe_int pa_nil))) pe_int (nomark _)) pa_nil))))), ?_⟩
    refine LN.body j q ?_
    walk_at "ob"
    refine ⟨by walk_at "ob_len", fun p hp => ?_⟩
    walk_at "ob"
    refine ⟨by decide, by decide, fun r r0 r1 => ?_⟩
    obtain ⟨rg, er⟩ : ∃ rg : Rgt, atI [V.str "rank", V.str "turns", V.str "wait", V.str "least"] r = some (V.str (rgtS rg)) := by
      have : r = 0 ∨ r = 1 ∨ r = 2 ∨ r = 3 := by omega
      rcases this with rfl | rfl | rfl | rfl
      · exact ⟨.rank, rfl⟩
      · exact ⟨.turns, rfl⟩
      · exact ⟨.wait, rfl⟩
      · exact ⟨.least, rfl⟩
    refine rw_ixL hd (SqL.of upd_same) er ?_
    walk_at "ob"
    refine ⟨by decide, by decide, fun r2 r20 r21 => ?_⟩
    walk_at "ob"
    refine ⟨by walk_at "ob_len", fun t ht => ?_⟩
    exact k _ _ rg _ (by walk_at "ob_ex") (.tup (SqT.of upd_same) (.cons (.str _) (.cons (.bl _) .nil)))
end
end Obr
/-! ### worlds as texts (mathematics only) -/
namespace Obr
open PySem L2 TL
def figS : Str := "0123456789"
def isNumB (z : Str) : Bool := z.cps.toList.all (fun c => decide (c ∈ figS.cps.toList)) && (decide (z.length = 1) || (decide (z.length = 2) && !decide (z.cps.toList.head? = some 48)))
def threeB (ys : List Str) : Bool := decide (ys.length = 3) && ys.all isNumB
def numS (i : Int) : Str := toString i
/-- words that are these three numbers -/
structure NumsIs (ys : List Str) (ns : List Int) : Prop where
  len : ys.length = 3
  len2 : ns.length = 3
  num : ∀ y ∈ ys, isNumB y = true
  val : ∀ (i : Nat) (y : Str) (n : Int), ys[i]? = some y → ns[i]? = some n → PySem.intText? y = some n ∧ y.length ≤ 2
theorem NumsIs.three {ys : List Str} {ns : List Int} (h : NumsIs ys ns) : threeB ys = true := by
  unfold threeB
  rw [decide_eq_true h.len, Bool.true_and, List.all_eq_true]
  exact h.num
def StoreIs (z : Str) (c s f : Int) : Prop := z.length ≤ 1000 ∧ ∃ ys, Txt.split z " " = ("store" : Str) :: ys ∧ NumsIs ys [c, s, f]
def StepIs (z : Str) (st : Stp) : Prop := z.length ≤ 1000 ∧ NumsIs (Txt.split z ",") [st.draw, st.long, st.back]
def MachIs (z : Str) (ss : List Stp) : Prop := z.length ≤ 1000 ∧ ∃ ws, Txt.split z " " = ("machine" : Str) :: ws ∧ ws.length = ss.length ∧ ∀ (i : Nat) (w : Str) (st : Stp), ws[i]? = some w → ss[i]? = some st → StepIs w st
def TextIs (z : Str) (w : Wld) : Prop := z.length ≤ 1000 ∧ ∃ r rs, Txt.split z "\n" = r :: rs ∧ StoreIs r w.cap w.start w.refill ∧ rs.length = w.ms.length ∧ ∀ (i : Nat) (q : Str) (ss : List Stp), rs[i]? = some q → w.ms[i]? = some ss → MachIs q ss
/-! the texts that are written -/
def stepT (st : Stp) : Str := Txt.join "," [numS st.draw, numS st.long, numS st.back]
def rowT (ss : List Stp) : Str := Txt.join " " (("machine" : Str) :: ss.map stepT)
def storeT (c s f : Int) : Str := Txt.join " " [("store" : Str), numS c, numS s, numS f]
def textT (w : Wld) : Str := Txt.join "\n" (storeT w.cap w.start w.refill :: w.ms.map rowT)
theorem tl_sp : tl (" " : Str) = [32] := by decide +kernel
theorem tl_co : tl ("," : Str) = [44] := by decide +kernel
theorem tl_nl : tl ("\n" : Str) = [10] := by decide +kernel
theorem tl_numS {n : Nat} : tl (numS (n : Int)) = numL n := tl_num n
theorem joinL_mem {S : List Nat} {x : Nat} : ∀ {ps : List (List Nat)}, x ∈ joinL S ps → x ∈ S ∨ ∃ p ∈ ps, x ∈ p
  | [], h => by cases h
  | [p], h => .inr ⟨p, .head _, h⟩
  | p :: q :: r, h => by
    rcases List.mem_append.mp (show x ∈ p ++ (S ++ joinL S (q :: r)) from h) with z | z
    · exact .inr ⟨p, .head _, z⟩
    · rcases List.mem_append.mp z with z | z
      · exact .inl z
      · rcases joinL_mem z with y | ⟨p', h1, h2⟩
        · exact .inl y
        · exact .inr ⟨p', .tail _ h1, h2⟩
theorem joinL_len {S : List Nat} {k : Nat} : ∀ {ps : List (List Nat)}, (∀ p ∈ ps, p.length ≤ k) → (joinL S ps).length ≤ ps.length * (k + S.length)
  | [], _ => Nat.zero_le _
  | [p], h => by
    show p.length ≤ 1 * (k + S.length)
    have := h p (.head _)
    omega
  | p :: q :: r, h => by
    have z := joinL_len (S := S) (ps := q :: r) fun x hx => h x (.tail _ hx)
    have := h p (.head _)
    show (p ++ (S ++ joinL S (q :: r))).length ≤ ((q :: r).length + 1) * (k + S.length)
    rw [List.length_append, List.length_append, Nat.add_mul, Nat.one_mul]
    omega
theorem tl_joinT (y : Str) (ps : List Str) : tl (Txt.join y ps) = joinL (tl y) (ps.map tl) := by rw [join_eq, tl_join]
theorem join_mem {y : Str} {ps : List Str} {x : Nat} (h : x ∈ tl (Txt.join y ps)) : x ∈ tl y ∨ ∃ p ∈ ps, x ∈ tl p := by
  rw [tl_joinT] at h
  rcases joinL_mem h with z | ⟨p, h1, h2⟩
  · exact .inl z
  · obtain ⟨q, hq, rfl⟩ := List.mem_map.mp h1
    exact .inr ⟨q, hq, h2⟩
theorem join_len {y : Str} {ps : List Str} {k : Nat} (h : ∀ p ∈ ps, p.length ≤ k) : (Txt.join y ps).length ≤ ps.length * (k + y.length) := by
  rw [len_tl, tl_joinT, len_tl y]
  have z := joinL_len (S := tl y) (k := k) (ps := ps.map tl) fun p hp => by
    obtain ⟨q, hq, rfl⟩ := List.mem_map.mp hp
    rw [← len_tl]
    exact h q hq
  rw [List.length_map] at z
  exact z
/-- a number of one or two figures -/
def Two (i : Int) : Prop := 0 ≤ i ∧ i ≤ 99
theorem fig_in : ∀ d : Nat, d < 10 → (48 + d) ∈ figS.cps.toList := by decide +kernel
theorem numL_two {n : Nat} (h : n ≤ 99) : (n < 10 ∧ numL n = [48 + n]) ∨ (10 ≤ n ∧ numL n = [48 + n / 10, 48 + n % 10]) := by
  by_cases c : n < 10
  · exact .inl ⟨c, numL_lt c⟩
  · right
    refine ⟨by omega, ?_⟩
    rw [numL_step (by omega), numL_lt (by omega)]
    rfl
theorem numS_is {i : Int} (h : Two i) : isNumB (numS i) = true ∧ PySem.intText? (numS i) = some i ∧ (numS i).length ≤ 2 ∧ ∀ x : Nat, (x < 48 ∨ 57 < x) → x ∉ tl (numS i) := by
  obtain ⟨n, rfl⟩ := Int.eq_ofNat_of_zero_le h.1
  have hn : n ≤ 99 := by have := h.2; omega
  have hl : (numS (n : Int)).length ≤ 2 := by
    rw [len_tl, tl_numS]
    rcases numL_two hn with ⟨_, e⟩ | ⟨_, e⟩ <;> rw [e] <;> simp
  refine ⟨?_, int_num (by rw [← tl_numS, ← len_tl]; omega), hl, fun x hx => by rw [tl_numS]; exact numL_free hx⟩
  unfold isNumB
  rw [len_tl]
  show ((tl (numS (n : Int))).all _ && (_ || (_ && !decide ((tl (numS (n : Int))).head? = some 48)))) = true
  rw [tl_numS]
  rcases numL_two hn with ⟨c, e⟩ | ⟨c, e⟩
  · rw [e]
    have h1 := fig_in n c
    show (([48 + n].all fun c => decide (c ∈ figS.cps.toList)) && (decide ([48 + n].length = 1) || _)) = true
    rw [List.all_cons, decide_eq_true h1]
    rfl
  · rw [e]
    have h1 := fig_in (n / 10) (by omega)
    have h2 := fig_in (n % 10) (by omega)
    show (([48 + n / 10, 48 + n % 10].all fun c => decide (c ∈ figS.cps.toList)) && (decide ([48 + n / 10, 48 + n % 10].length = 1) || (decide ([48 + n / 10, 48 + n % 10].length = 2) && !decide (some (48 + n / 10) = some 48)))) = true
    rw [List.all_cons, List.all_cons, decide_eq_true h1, decide_eq_true h2, decide_eq_false (fun z : some (48 + n / 10) = some 48 => by have := Option.some.inj z; omega)]
    rfl
theorem nums_is {a b c : Int} (ha : Two a) (hb : Two b) (hc : Two c) : NumsIs [numS a, numS b, numS c] [a, b, c] := by
  refine ⟨rfl, rfl, fun y hy => ?_, fun i y n h1 h2 => ?_⟩
  · rcases List.mem_cons.mp hy with rfl | hy
    · exact (numS_is ha).1
    · rcases List.mem_cons.mp hy with rfl | hy
      · exact (numS_is hb).1
      · rw [List.mem_singleton.mp hy]; exact (numS_is hc).1
  · match i with
    | 0 => cases h1; cases h2; exact ⟨(numS_is ha).2.1, (numS_is ha).2.2.1⟩
    | 1 => cases h1; cases h2; exact ⟨(numS_is hb).2.1, (numS_is hb).2.2.1⟩
    | 2 => cases h1; cases h2; exact ⟨(numS_is hc).2.1, (numS_is hc).2.2.1⟩
    | i + 3 => simp at h1
def StpTwo (st : Stp) : Prop := Two st.draw ∧ Two st.long ∧ Two st.back
theorem stp_two {cap : Int} {st : Stp} (h : StpOk cap st) (hc : cap ≤ 99) : StpTwo st := by
  have := h.d0; have := h.d1; have := h.l0; have := h.l1; have := h.b0; have := h.b1
  exact ⟨⟨by omega, by omega⟩, ⟨by omega, by omega⟩, ⟨by omega, by omega⟩⟩
theorem step_free {st : Stp} (h : StpTwo st) {x : Nat} (hx : x ≠ 44) (h2 : x < 48 ∨ 57 < x) : x ∉ tl (stepT st) := fun hm => by
  rcases join_mem hm with z | ⟨p, hp, z⟩
  · rw [tl_co] at z
    exact hx (List.mem_singleton.mp z)
  · rcases List.mem_cons.mp hp with rfl | hp
    · exact (numS_is h.1).2.2.2 x h2 z
    · rcases List.mem_cons.mp hp with rfl | hp
      · exact (numS_is h.2.1).2.2.2 x h2 z
      · rw [List.mem_singleton.mp hp] at z
        exact (numS_is h.2.2).2.2.2 x h2 z
theorem step_len {st : Stp} (h : StpTwo st) : (stepT st).length ≤ 9 := by
  have z := join_len (y := ",") (ps := [numS st.draw, numS st.long, numS st.back]) (k := 2) fun p hp => by
    rcases List.mem_cons.mp hp with rfl | hp
    · exact (numS_is h.1).2.2.1
    · rcases List.mem_cons.mp hp with rfl | hp
      · exact (numS_is h.2.1).2.2.1
      · rw [List.mem_singleton.mp hp]; exact (numS_is h.2.2).2.2.1
  exact z
theorem word_free : (32 : Nat) ∉ tl ("machine" : Str) ∧ (10 : Nat) ∉ tl ("machine" : Str) ∧ (32 : Nat) ∉ tl ("store" : Str) ∧ (10 : Nat) ∉ tl ("store" : Str) := by decide +kernel
theorem row_len {ss : List Stp} (h : ∀ st ∈ ss, StpTwo st) (h6 : ss.length ≤ 6) : (rowT ss).length ≤ 70 := by
  have z := join_len (y := " ") (ps := ("machine" : Str) :: ss.map stepT) (k := 9) fun p hp => by
    rcases List.mem_cons.mp hp with rfl | hp
    · decide +kernel
    · obtain ⟨st, hs, rfl⟩ := List.mem_map.mp hp
      exact step_len (h st hs)
  rw [List.length_cons, List.length_map] at z
  have e : (" " : Str).length = 1 := by decide +kernel
  rw [e] at z
  show (Txt.join " " (("machine" : Str) :: ss.map stepT)).length ≤ 70
  omega
theorem row_free {ss : List Stp} (h : ∀ st ∈ ss, StpTwo st) : (10 : Nat) ∉ tl (rowT ss) := fun hm => by
  rcases join_mem hm with z | ⟨p, hp, z⟩
  · rw [tl_sp] at z
    simp at z
  · rcases List.mem_cons.mp hp with rfl | hp
    · exact word_free.2.1 z
    · obtain ⟨st, hs, rfl⟩ := List.mem_map.mp hp
      exact step_free (h st hs) (by decide) (by decide) z
theorem store_is {c s f : Int} (hc : Two c) (hs : Two s) (hf : Two f) : StoreIs (storeT c s f) c s f ∧ (10 : Nat) ∉ tl (storeT c s f) ∧ (storeT c s f).length ≤ 24 := by
  have fr : ∀ p ∈ [("store" : Str), numS c, numS s, numS f], (32 : Nat) ∉ tl p ∧ (10 : Nat) ∉ tl p ∧ p.length ≤ 5 := fun p hp => by
    have two : ∀ {i : Int}, Two i → (32 : Nat) ∉ tl (numS i) ∧ (10 : Nat) ∉ tl (numS i) ∧ (numS i).length ≤ 5 := fun h => ⟨(numS_is h).2.2.2 32 (by decide), (numS_is h).2.2.2 10 (by decide), by have := (numS_is h).2.2.1; omega⟩
    rcases List.mem_cons.mp hp with rfl | hp
    · exact ⟨word_free.2.2.1, word_free.2.2.2, by decide +kernel⟩
    · rcases List.mem_cons.mp hp with rfl | hp
      · exact two hc
      · rcases List.mem_cons.mp hp with rfl | hp
        · exact two hs
        · rw [List.mem_singleton.mp hp]; exact two hf
  have hlen : (storeT c s f).length ≤ 24 := by
    have z := join_len (y := " ") (ps := [("store" : Str), numS c, numS s, numS f]) (k := 5) fun p hp => (fr p hp).2.2
    have e : (" " : Str).length = 1 := by decide +kernel
    rw [e] at z
    exact z
  refine ⟨⟨Nat.le_trans hlen (by decide), _, ?_, nums_is hc hs hf⟩, fun hm => ?_, hlen⟩
  · unfold storeT
    rw [split_join (y := " ") (s := 32) (S := []) tl_sp (by decide +kernel) (by simp) fun p hp => (fr p hp).1]
  · rcases join_mem hm with z | ⟨p, hp, z⟩
    · rw [tl_sp] at z
      simp at z
    · exact (fr p hp).2.1 z
theorem world_two {w : Wld} (hw : WldOk w) : Two w.cap ∧ Two w.start ∧ Two w.refill ∧ ∀ ss ∈ w.ms, ∀ st ∈ ss, StpTwo st := by
  have := hw.c0; have := hw.c1; have := hw.s0; have := hw.s1; have := hw.r0; have := hw.r1
  exact ⟨⟨by omega, by omega⟩, ⟨by omega, by omega⟩, ⟨by omega, by omega⟩, fun ss h st hs => stp_two (hw.st ss h st hs) hw.c1⟩
theorem text_rows {w : Wld} (hw : WldOk w) : Txt.split (textT w) "\n" = storeT w.cap w.start w.refill :: w.ms.map rowT := by
  obtain ⟨h1, h2, h3, h4⟩ := world_two hw
  unfold textT
  refine split_join (y := "\n") (s := 10) (S := []) tl_nl (by decide +kernel) (by simp) fun p hp => ?_
  rcases List.mem_cons.mp hp with rfl | hp
  · exact (store_is h1 h2 h3).2.1
  · obtain ⟨ss, hs, rfl⟩ := List.mem_map.mp hp
    exact row_free (h4 ss hs)
theorem rows_len {w : Wld} (hw : WldOk w) : ∀ p ∈ storeT w.cap w.start w.refill :: w.ms.map rowT, p.length ≤ 70 := fun p hp => by
  obtain ⟨h1, h2, h3, h4⟩ := world_two hw
  rcases List.mem_cons.mp hp with rfl | hp
  · have := (store_is h1 h2 h3).2.2; omega
  · obtain ⟨ss, hs, rfl⟩ := List.mem_map.mp hp
    exact row_len (h4 ss hs) (hw.n ss hs)
theorem text_len {w : Wld} (hw : WldOk w) : (textT w).length ≤ 500 := by
  have z := join_len (y := "\n") (k := 70) (rows_len hw)
  rw [List.length_cons, List.length_map] at z
  have e : ("\n" : Str).length = 1 := by decide +kernel
  rw [e] at z
  have := hw.m
  show (Txt.join "\n" _).length ≤ 500
  omega
/-! the same texts, written otherwise -/
theorem store_law {c s f : Int} : ("store " : Str) ++ Txt.join " " [numS c, numS s, numS f] = storeT c s f := by
  refine ext_tl ?_
  unfold storeT
  rw [tl_append, tl_joinT, tl_joinT]
  have e : tl ("store " : Str) = tl ("store" : Str) ++ tl (" " : Str) := by decide +kernel
  rw [e, List.append_assoc]
  rfl
/-- a world's first machines -/
def cutW (w : Wld) (n : Nat) : Wld := { w with ms := w.ms.take n }
theorem sum_le {l : List Nat} {k : Nat} (h : ∀ x ∈ l, x ≤ k) : l.sum ≤ l.length * k := by
  induction l with
  | nil => simp
  | cons a t ih =>
    have := ih fun x hx => h x (.tail _ hx)
    have := h a (.head _)
    rw [List.sum_cons, List.length_cons, Nat.add_mul, Nat.one_mul]
    omega
end Obr
/-! ### which world can't be (mathematics only) -/
namespace Obr
open PySem L2
def stepB (cap : Int) (st : Stp) : Bool := (decide (0 ≤ st.draw) && decide (st.draw ≤ cap)) && ((decide (1 ≤ st.long) && decide (st.long ≤ 9)) && (decide (0 ≤ st.back) && decide (st.back ≤ st.draw)))
def storeB (c s f : Int) : Bool := (decide (1 ≤ c) && decide (c ≤ 99)) && ((decide (0 ≤ s) && decide (s ≤ c)) && (decide (0 ≤ f) && decide (f ≤ 9)))
/-- a machine's first step that can't be, the i-th being the first one looked at -/
def badAt (cap : Int) : Nat → List Stp → Option Nat
  | _, [] => none
  | i, st :: r => if i = 6 ∨ stepB cap st = false then some i else badAt cap (i + 1) r
/-- the first step that can't be: its machine, its place there -/
def badMs (cap : Int) : Nat → List (List Stp) → Option (Nat × Nat)
  | _, [] => none
  | k, ss :: r => if k = 5 then some (5, 0) else match badAt cap 0 ss with
    | some j => some (k, j)
    | none => badMs cap (k + 1) r
theorem bad_skip {cap : Int} : ∀ (k i : Nat) (l : List Stp), i + k ≤ 6 → k ≤ l.length → (∀ st ∈ l.take k, stepB cap st = true) → badAt cap i l = badAt cap (i + k) (l.drop k)
  | 0, i, l, _, _, _ => rfl
  | k + 1, i, [], _, h, _ => by cases h
  | k + 1, i, st :: r, h6, hk, h => by
    have h1 : stepB cap st = true := h st (.head _)
    have z := bad_skip k (i + 1) r (by omega) (by simpa using hk) fun x hx => h x (.tail _ hx)
    show (if i = 6 ∨ stepB cap st = false then some i else badAt cap (i + 1) r) = badAt cap (i + (k + 1)) (r.drop k)
    rw [if_neg (by rw [h1]; intro c; rcases c with c | c; omega; cases c), z]
    rw [show i + 1 + k = i + (k + 1) by omega]
theorem bad_at {cap : Int} {l : List Stp} {k : Nat} {st : Stp} (h6 : k < 6) (hst : l[k]? = some st) (hg : ∀ x ∈ l.take k, stepB cap x = true) (hb : stepB cap st = false) : badAt cap 0 l = some k := by
  have hk := (List.getElem?_eq_some_iff.mp hst).1
  rw [bad_skip k 0 l (by omega) (by omega) hg, List.drop_eq_getElem_cons hk]
  have e : l[k] = st := (List.getElem?_eq_some_iff.mp hst).2
  rw [e, Nat.zero_add]
  show (if k = 6 ∨ stepB cap st = false then some k else _) = some k
  rw [if_pos (.inr hb)]
theorem bad_six {cap : Int} {l : List Stp} (hl : 6 < l.length) (hg : ∀ x ∈ l.take 6, stepB cap x = true) : badAt cap 0 l = some 6 := by
  rw [bad_skip 6 0 l (by omega) (by omega) hg, List.drop_eq_getElem_cons hl]
  show (if 0 + 6 = 6 ∨ _ then some 6 else _) = some 6
  rw [if_pos (.inl rfl)]
theorem bad_not {cap : Int} {l : List Stp} (hl : l.length ≤ 6) (hg : ∀ x ∈ l.take 6, stepB cap x = true) : badAt cap 0 l = none := by
  rw [bad_skip l.length 0 l (by omega) (Nat.le_refl _) (fun x hx => hg x (by rw [List.take_of_length_le (Nat.le_refl _)] at hx; rw [List.take_of_length_le hl]; exact hx)), List.drop_length]
  rfl
theorem ms_skip {cap : Int} : ∀ (k i : Nat) (l : List (List Stp)), i + k ≤ 5 → k ≤ l.length → (∀ ss ∈ l.take k, badAt cap 0 ss = none) → badMs cap i l = badMs cap (i + k) (l.drop k)
  | 0, i, l, _, _, _ => rfl
  | k + 1, i, [], _, h, _ => by cases h
  | k + 1, i, ss :: r, h5, hk, h => by
    have h1 : badAt cap 0 ss = none := h ss (.head _)
    have z := ms_skip k (i + 1) r (by omega) (by simpa using hk) fun x hx => h x (.tail _ hx)
    show (if i = 5 then some (5, 0) else match badAt cap 0 ss with | some j => some (i, j) | none => badMs cap (i + 1) r) = badMs cap (i + (k + 1)) (r.drop k)
    rw [if_neg (by omega), h1]
    show badMs cap (i + 1) r = _
    rw [z, show i + 1 + k = i + (k + 1) by omega]
theorem ms_at {cap : Int} {l : List (List Stp)} {k j : Nat} {ss : List Stp} (h5 : k < 5) (hss : l[k]? = some ss) (hg : ∀ x ∈ l.take k, badAt cap 0 x = none) (hb : badAt cap 0 ss = some j) : badMs cap 0 l = some (k, j) := by
  have hk := (List.getElem?_eq_some_iff.mp hss).1
  rw [ms_skip k 0 l (by omega) (by omega) hg, List.drop_eq_getElem_cons hk]
  have e : l[k] = ss := (List.getElem?_eq_some_iff.mp hss).2
  rw [e, Nat.zero_add]
  show (if k = 5 then some (5, 0) else match badAt cap 0 ss with | some j => some (k, j) | none => _) = some (k, j)
  rw [if_neg (by omega), hb]
theorem ms_five {cap : Int} {l : List (List Stp)} (hl : 5 < l.length) (hg : ∀ x ∈ l.take 5, badAt cap 0 x = none) : badMs cap 0 l = some (5, 0) := by
  rw [ms_skip 5 0 l (by omega) (by omega) hg, List.drop_eq_getElem_cons hl]
  show (if 0 + 5 = 5 then some (5, 0) else _) = some (5, 0)
  rw [if_pos rfl]
theorem ms_not {cap : Int} {l : List (List Stp)} (hl : l.length ≤ 5) (hg : ∀ x ∈ l.take 5, badAt cap 0 x = none) : badMs cap 0 l = none := by
  rw [ms_skip l.length 0 l (by omega) (Nat.le_refl _) (fun x hx => hg x (by rw [List.take_of_length_le (Nat.le_refl _)] at hx; rw [List.take_of_length_le hl]; exact hx)), List.drop_length]
  rfl
end Obr
/-! ### an own exception that is made by name: C(f=v), over ValueError -/
namespace Obr
open PySem PySem.W PySem.Calls PySem.HandSPX Builtin
/-- one step on: a part of an object that is known, a question on the class, or what the tree says itself -/
local macro_rules | `(tactic| walk_at "ox_on") => `(tactic| repeat (any_goals (first
  | assumption
  | with_reducible exact rfl
  | with_reducible refine wpAny_madeHere_exc PySem.F.excBase_ValueError.canon (by assumption) ?_
  | with_reducible refine wpAny_madeBy_exc (by assumption) ?_
  | with_reducible refine wpAny_staticBase_exc (by assumption) ?_
  | with_reducible refine wpAny_loadPart_at (by assumption) ?_
  | (with_reducible refine wpAny_isSubtype_exc (by assumption) ?_; first | rw [‹(Value.ref _ :: _).contains (.ref _) = true›] | rw [‹(Value.ref _ :: _).contains (.type "ValueError") = true›] | rw [‹(Value.ref _ :: _).contains (.type "AttributeError") = false›] | rw [‹(Value.ref _ :: _).contains (.type "NameError") = false›])
  | wp_step)))
section
variable {P : Program} {w : World} {A : Around} {R : Result → Shared → Prop} {K : PySem.W.Frag} {C fI : Addr} {kw : List (Str × Value)}
theorem made_by_name (T : L2.OexC K C) (iC : findIn K (.ref C) "__init__" = some (some (.ref fI))) (tI : typeIn K (.ref fI) = some (.type "function")) {s : Shared} (KI : K.In s.heap)
    (z : codeAny (model P w) (A.under (.builtin "type.__call__" ⟨[.ref C], kw⟩)) (.call (.ref fI) ⟨[.ref (s.heap.objs.size + 1)], kw⟩) (InitBack (s.heap.objs.size + 1) R) { s with heap := (s.heap.push (kdv_tup [])).push (excO C s.heap.objs.size) }) :
    codeAny (model P w) A (.call (.ref C) ⟨[], kw⟩) R s := by
  obtain ⟨_, _, _, _, bm, _, _, _, _, _, _, _, _, _, _, look, tail⟩ := T.cls
  have has : ∀ Y : String, (Value.ref C :: bm).contains (.type Y) = ([Value.type "ValueError", .type "Exception", .type "BaseException", .type "object"]).contains (.type Y) := fun Y => by
    rw [List.contains_cons, refsVE_contains Y bm tail]
    rfl
  have i1 := (has "ValueError").trans (c := true) (by decide +kernel)
  have i2 := (has "AttributeError").trans (c := false) (by decide +kernel)
  have i3 := (has "NameError").trans (c := false) (by decide +kernel)
  have at0 := KI _ _ look
  have kind : s.TypeIs (.ref C) "type" := ⟨_, at0, rfl⟩
  have fl := tc_lookup
  have fb := tc_bind (.ref C)
  refine codeAny_of_tree ?_
  show wpAny _ _ (callAny (.ref C) ⟨[], kw⟩) _ _ s
  walk_at "ox_on"
  have F := PySem.F.excBase_ValueError
  have quiet := Code.quiet_builtin (⟨[.ref C], kw⟩ : Args) F.quiet
  refine ⟨rfl, codeAny_call_builtin_at (Code.quiet_builtin _ (by decide +kernel)) entry_typeCall (wpAny_check_type_call_sub at0 ?_)⟩
  walk_at "ox_on"
  refine codeAny_call_builtin_code quiet ?_
  have star := F.noStar
  simp only [checkBuiltinCall, F.newKind, F.newSplit, F.newRow, bne_self_eq_false, Bool.false_eq_true, if_false]
  walk_at "ox_on"
  refine codeAny_builtinAt F.entry (show wpAt _ _ _ (Builtin.«BaseException.__new__» _) _ _ _ from wpAt_bind (show wpAt _ _ _ (stack >>= _) _ _ _ from wpAt_bind (wpAt_stack fun _ _ => wpAt_of_wpAny ?_)))
  walk_at "ox_on"
  rw [if_pos F.ends, F.owner]
  refine wpAny_pure (wpAt_of_wpAny ?_)
  have kp := fun b o (e : s.heap.get? b = some o) => Heap.get?_push_of_some (excO C s.heap.objs.size) (Heap.get?_push_of_some (kdv_tup []) e)
  have at1 := kp _ _ at0
  have self : (Value.ref C :: bm).contains (.ref C) = true := by simp
  have lk := (looks_findIn (M := model P w) KI iC).keeps kp
  have bd := (bind_fn (M := model P w) KI (.ref (s.heap.objs.size + 1)) tI).keeps kp
  walk_at "ox_on"
  refine wpAny_isSubtype_exc at1 ?_
  rw [self]
  walk_at "ox_on"
  rw [Heap.size_push]
  refine lk.at ?_
  refine wpAny_holding (wpAny_bind (bd.at (wpAny_bind (wpAny_call (codeAny_mono z ?_)))))
  intro r s' y
  match r, y with
  | .ok (.ret v), y =>
    obtain ⟨hv, y⟩ := y
    subst hv
    walk_at "ox_on"
  | .error e, y => exact y
  | .ok .next, y => exact False.elim y
  | .ok .brk, y => exact False.elim y
  | .ok .cont, y => exact False.elim y
end
end Obr
namespace Obr
open PySem L2 PySem.Spec PyProof.Rows
/-- C(f=v, ..), nothing by position; C's own __init__ keeps sp -/
def tMkOK (C : Addr) (sp : Sp) (gV : List V → List V → List V) (tk : TA) : L2.St → Hp → L2.XK → Prop := fun σ H Q => tk σ H fun zs G => ∀ a : Addr, G a = none → sp (gV [V.ref a] zs) (upd G a (exo a C none))
  (fun v G' => v = V.non ∧ ∃ dx fs, G' a = some (exo a C (some dx)) ∧ G' dx = some (exd dx fs) ∧ G dx = none ∧ Q (Value.ref C) (some dx) (upd (L2.del G' a) dx (HO.xd fs))) (fun _ _ _ => False)
/-- D.__init__(self, ..), D an own class whose __init__ is ValueError's -/
def tOeI (K : PySem.W.Frag) (D : Addr) (te : TE) (ta : TA) : TE := fun σ H Q => te σ H fun x G => x = V.ref D ∧ ta σ G fun vs G' => ∃ (a C : Addr) (ws : List V), vs = V.ref a :: ws ∧ ws.length ≤ 1000 ∧ OexC K C ∧ G' a = some (exo a C none) ∧ Q V.non G'
section
variable {X : Cx} {o e : Expr} {es : List Expr} {te : TE} {ta tk : TA} {p apos pos : Pos}
theorem pmk_named {CX : CXT} {x : Str} {kws : List Keyword} {C fI : Addr} {k : Nat} {fd : FuncData} {ps ks : List Str} {g : List Value → List Value → List Value} {gV : List V → List V → List V} {sp : Sp} (T : OexC X.K C) (iC : PySem.W.findIn X.K (.ref C) "__init__" = some (some (.ref fI))) (tI : PySem.W.typeIn X.K (.ref fI) = some (.type "function"))
    (F1 : FnOk X.prog X.w X.K X.mg X.base CX k fI fd ps sp) (hr : Room (k + 1) X.A) (hb : KBinds X.K fd ps ks g gV) (hx : Passes CX X (fun _ _ _ => False)) (hg : Gl X x) (hm : X.mg x = some (.ref C)) (hkw : PK X kws tk)
    (all : (backToKw pos (keywordEach kws X.env)).all (·.1.isSome) = true := by rfl) (nms : (backToKw pos (keywordEach kws X.env)).filterMap (·.1) = ks := by rfl)
    (dbg : (x == ("__debug__" : Str)) = false := by decide) (pl : ((backTo pos (starEach [] X.env)).any (·.1) || (backToKw pos (keywordEach kws X.env)).any (·.1.isNone)) = false := by rfl) :
    PMk X (.Call (.Name x p) [] kws pos) (tMkOK C sp gV tk) := fun pins s σ H Q I h => by
  refine wpAny_Call_Name_kw (ld_glob I hg hm (PySem.W.callWith_KW0 (h₀ := X.base) I.ok.mod.kin T.kC all (thn (hkw.run pos pins s σ H _ I h) fun ws s1 ⟨zs, G, J, rz, went⟩ => ⟨J.kIn, ?_⟩) pl) dbg)
  rw [nms]
  show wpAny _ _ (call (.ref C) [] (ks.zip ws)) _ _ s1
  have big := Nat.le_succ s1.heap.objs.size
  have stay := fun b o (e : s1.heap.get? b = some o) => Heap.get?_push_of_some (PySem.HandSPX.excO C s1.heap.objs.size) (Heap.get?_push_of_some (PySem.W.kdv_tup []) e)
  have there : ((s1.heap.push (PySem.W.kdv_tup [])).push (PySem.HandSPX.excO C s1.heap.objs.size)).get? (s1.heap.objs.size + 1) = some (PySem.HandSPX.excO C s1.heap.objs.size) := by heap_get
  have J2 := J.laid (t' := s1.toks) (o := exo (s1.heap.objs.size + 1) C none) stay big (exo_ok there)
  have start := went _ (J.hok.fresh big)
  have me : Vals [V.ref (s1.heap.objs.size + 1)] [Value.ref (s1.heap.objs.size + 1)] := .cons rfl .nil
  have vals := hb.rel me rz
  have long : (g [Value.ref (s1.heap.objs.size + 1)] ws).length = ps.length := vals.length ▸ F1.len _ _ _ _ start
  refine wpAny_call (made_by_name T iC tI J.kIn (codeAny_mono (F1.run _ X.stack _ _ ⟨[Value.ref (s1.heap.objs.size + 1)], ks.zip ws⟩ _ _ _ _ (hr.make C [] (ks.zip ws)) (J2.env0.make C [] (ks.zip ws)) (hb.to _ [Value.ref (s1.heap.objs.size + 1)] ws J2.kIn long) vals start) ?_))
  intro r s' y
  match r, y with
  | .error er, y => exact hx _ σ _ _ er s' J2 y
  | .ok (.ret u), y =>
    obtain ⟨_, G', sameOs, bare, un, ok, rv, rfl, dx, fs, at1, at2, at3, z⟩ := y
    exact ⟨rv, mk_end (raises_own T.exC T.tyC) J big stay un ok sameOs bare at1 at2 at3 z⟩
  | .ok .next, y => exact False.elim y
  | .ok .brk, y => exact False.elim y
  | .ok .cont, y => exact False.elim y
theorem pe_oeinit {pl : Sem Bool} {D : Addr} (ho : PE X o te) (rd : ClX.CRead X.K D (.type "type")) (vV : PySem.W.findCls X.K (.ref D) (.type "type") "__init__" = some (.val (.builtin "ValueError.__init__"))) (ha : PA X (e :: es) ta)
    (tree : eval (.Call (.Attribute o "__init__" apos) (e :: es) [] pos) X.env = (do
      let c ← eval o X.env
      standAt apos.atName
      let fm ← holding [c] (getMethod c "__init__" pl)
      callWith pos fm.1 fm.2 (backTo pos (starEach (e :: es) X.env)) (backToKw pos (keywordEach [] X.env))) := by rfl)
    (one : starEach (e :: es) X.env = (false, eval e X.env) :: starEach es X.env := by rfl) (plain : (backTo pos (starEach es X.env)).any (·.1) = false := by rfl) :
    PE X (.Call (.Attribute o "__init__" apos) (e :: es) [] pos) (tOeI X.K D te ta) := ⟨fun pins s σ H Q I h => by
  refine PySem.W.methodCall_KW (pl := pl) (thn (ho.run pins s σ H _ I h) ?_) tree
  rintro u s1 ⟨_, G, J, ru, rfl, z⟩
  cases (ru : u = Value.ref D)
  refine PySem.W.method_cls J.kIn rd.ga (PySem.W.cls_value J.kIn rd.rd vV (by decide +kernel) ?_)
  refine PyProof.Rows.callWith_method1 (thn (ha.run pos pins _ σ G _ (J.tok (s1.toks + 1)) z) ?_) one plain
  rintro us s3 ⟨_, G', J', rs, a, C, ws, rfl, few, T, at0, z2⟩
  match us, rs with
  | _ :: ur, .cons ra rw' =>
    cases ra
    exact oinit_ok T J' at0 (by rw [← Paired.length rw', sizeLine_eq]; omega) fun _ J'' => ⟨V.non, G', J'', rfl, z2⟩⟩
end
end Obr
namespace Obr
open PySem L2
local macro_rules | `(tactic| walk_at "ob_at") => `(tactic| first
  | assumption
  | exact upd_same
  | (refine Eq.trans (upd_ne ?obn) ?obr; (case obn => walk_at "ob_ne"); (case obr => walk_at "ob_at")))
local macro_rules | `(tactic| walk_at "ob_ne") => `(tactic| first
  | assumption
  | (refine Ne.symm ?obs; (case obs => assumption))
  | (refine' ne_of_none (H := ?_) ?obe ?obh; (case obh => assumption); (case obe => walk_at "ob_at"))
  | (refine Ne.symm ?obs; (case obs => (refine' ne_of_none (H := ?_) ?obe ?obh; (case obh => assumption); (case obe => walk_at "ob_at")))))
local macro_rules | `(tactic| walk_at "ob_fr") => `(tactic| first
  | assumption
  | (refine Eq.trans (upd_ne ?obn) ?obr; (case obn => walk_at "ob_ne"); (case obr => walk_at "ob_fr"))
  | (refine Ex.free (G := ?_) (by assumption) ?obh; (case obh => walk_at "ob_fr")))
local macro_rules | `(tactic| walk_at "ob_ex") => `(tactic| first
  | assumption
  | exact Ex.refl _
  | (refine Ex.out ?obg ?obh; (case obh => assumption); (case obg => walk_at "ob_ex"))
  | (refine Ex.new ?obg ?obh; (case obh => assumption); (case obg => walk_at "ob_ex"))
  | (refine Ex.new ?obg ?obh; (case obh => walk_at "ob_fr"); (case obg => walk_at "ob_ex")))
local macro_rules | `(tactic| walk_at "ob_sq") => `(tactic| first
  | assumption
  | (refine SqL.of ?oba; (case oba => walk_at "ob_at"))
  | (refine SqT.of ?oba; (case oba => walk_at "ob_at")))
local macro_rules | `(tactic| walk_at "ob_side") => `(tactic| first | exact rfl | assumption | decide | omega | exact ⟨by decide, by decide, by decide⟩ | exact Or.inr ⟨by decide, by decide⟩ | exact Or.inl ⟨by decide, by decide⟩ | exact wide_div (b := 60) (by first | decide | omega) (by first | decide | omega) (by decide) (by decide))
local macro_rules | `(tactic| walk_at "ob1") => `(tactic| first
  | with_reducible refine sw_seq ?_
  | with_reducible refine sw_asg ?_
  | with_reducible refine sw_ret ?_
  | with_reducible refine sw_drop ?_
  | with_reducible refine sw_if ?_
  | with_reducible refine sw_next ?_
  | with_reducible refine gw_name ?_
  | with_reducible refine ew_c ?_
  | ((with_reducible refine' ew_var (v := ?_) ?obv ?_); (case obv => exact rfl))
  | ((with_reducible refine ew_next (by assumption) ?obv ?_); (case obv => exact rfl))
  | ((with_reducible refine ew_world (by assumption) ?obv ?_); (case obv => exact rfl))
  | ((with_reducible refine ew_rule (by assumption) ?obv ?_); (case obv => exact rfl))
  | with_reducible refine ew_op ?_
  | with_reducible refine ew_un ?_
  | with_reducible refine ew_cb ?_
  | with_reducible refine ew_if ?_
  | with_reducible refine aw_nil ?_
  | with_reducible refine aw_cons ?_
  | with_reducible refine rw_I0 ?_
  | ((with_reducible refine rw_I ?obc ?_); (case obc => walk_at "ob_side"))
  | ((with_reducible refine rw_eq ?obc ?_); (case obc => exact rfl))
  | ((with_reducible refine rw_ne ?obc ?_); (case obc => exact rfl))
  | with_reducible refine cw_max2 ?_
  | with_reducible refine cw_min2 ?_
  | with_reducible refine tw_test ?_
  | with_reducible refine tw_B ?_
  | with_reducible refine tw_not ?_
  | (refine' Exists.intro _ (And.intro (show V.bl _ = V.bl _ from rfl) ?_))
  | (refine' Exists.intro _ (And.intro (show V.int _ = V.int _ from rfl) ?_))
  | ((with_reducible refine' rw_ixL (v := ?_) (xs := ?_) (by assumption) ?obl ?oba ?_); (case obl => walk_at "ob_sq"); (case oba => exact rfl))
  | ((with_reducible refine' rw_ixT (v := ?_) (xs := ?_) (by assumption) ?obl ?oba ?_); (case obl => walk_at "ob_sq"); (case oba => exact rfl))
  | ((with_reducible refine' ew_lst (by assumption) ?_))
  | ((with_reducible refine' ew_tup (by assumption) ?_)))
local macro_rules | `(tactic| walk_at "ob_len") => `(tactic| first | exact Nat.le_of_ble_eq_true rfl | (simp; done) | omega)
local macro_rules | `(tactic| walk_at "ob") => `(tactic| repeat walk_at "ob1")

abbrev sWorld : Stmt := top 33
def N_world : List Str := ["_law_h", "_law_most", "_law_cap", "_law_store", "_law_machines", "_law_k", "_law_steps", "_law_time", "_law_draw", "_law_back"]
theorem sc_world : FnScope N_world ["_law_h", "_law_most", "_law_cap"] (defScope sWorld) := ⟨rfl, rfl, rfl, by decide +kernel, rfl, by decide +kernel, by decide +kernel⟩
section
variable {P : Program} {w : World} {K : PySem.W.Frag} {mg : Str → Option Value} {base : Heap}
theorem ok_world {f f1 : Addr} {fd fd1 : FuncData} (Fn : Fun K "_law_world" "_law_world" sWorld f fd) (B : Blt mg)
    (C_law_next : Cal K mg "_law_next" f1 fd1 ["_law_h", "_law_many"]) (G_law_next : FnOk P w K mg base CX0 1 f1 fd1 ["_law_h", "_law_many"] (LN aNext)) :
    FnOk P w K mg base CX0 2 f fd ["_law_h", "_law_most", "_law_cap"] (LN (aWorld K)) := by
  refine Fn.ok sc_world (fun vs H Q E h => ?_) (fun cdv A outer s H vs Q E hr h => ?_)
  · obtain ⟨h, c, J, F, R, ws, hd, rfl, j, ⟨most, cap, rfl, _⟩, _⟩ := h
    rfl
  · have nd := sc_world.nd
    obtain ⟨h, c, J, F, R, ws, hd0, rfl, j, ⟨most, cap, rfl, mo0, mo1, c0, c1, k⟩, q⟩ := h
    have hd := hd0.hj (h := h) (c := c)
    refine ⟨_, (pss_cons (ps_set (i := 3) nd rfl (Or.inl rfl) (pe_tup (pa_cons (pe_op op_add pe_int (pe_call G_law_next (hr.mono (by decide)) (by rfl) C_law_next.g C_law_next.k C_law_next.a .nil pass0 (pa_cons (pv 0) (pa_cons (pv 2) pa_nil)))) (pa_cons pe_int (pa_cons (pe_ix ix_list (pe_lst (pa_cons pe_int (pa_cons pe_int (pa_cons pe_int (pa_cons pe_int (pa_cons (pe_call G_law_next (hr.mono (by decide)) (by rfl) C_law_next.g C_law_next.k C_law_next.a .nil pass0 (pa_cons (pv 0) (pa_cons pe_int pa_nil))) pa_nil)))))) (pe_call G_law_next (hr.mono (by decide)) (by rfl) C_law_next.g C_law_next.k C_law_next.a .nil pass0 (pa_cons (pv 0) (pa_cons pe_int pa_nil))) (fun _ _ => rfl)) pa_nil)))))
      (pss_cons (ps_set (i := 3) nd rfl (Or.inl rfl) (pe_tup (pa_cons (pe_ix ix_tup (pv 3) pe_int (fun _ _ => rfl)) (pa_cons (pe_call G_law_next (hr.mono (by decide)) (by rfl) C_law_next.g C_law_next.k C_law_next.a .nil pass0 (pa_cons (pv 0) (pa_cons (pe_op op_add (pe_ix ix_tup (pv 3) pe_int (fun _ _ => rfl)) pe_int) pa_nil))) (pa_cons (pe_ix ix_tup (pv 3) pe_int (fun _ _ => rfl)) pa_nil)))))
      (pss_cons (ps_set (i := 4) nd rfl (Or.inl rfl) (pe_lst pa_nil))
      (pss_cons (ps_for PassesOwn.never rfl (pi_range1 rfl B.range (pa_cons (pe_call G_law_next (hr.mono (by decide)) (by rfl) C_law_next.g C_law_next.k C_law_next.a .nil pass0 (pa_cons (pv 0) (pa_cons (pe_op op_add (pv 1) pe_int) pa_nil))) pa_nil)) (pg_name (i := 5) nd rfl (Or.inl rfl)) (pss_cons (ps_set (i := 6) nd rfl (Or.inl rfl) (pe_lst pa_nil))
      (pss_cons (ps_for PassesOwn.never rfl (pi_range1 rfl B.range (pa_cons (pe_call G_law_next (hr.mono (by decide)) (by rfl) C_law_next.g C_law_next.k C_law_next.a .nil pass0 (pa_cons (pv 0) (pa_cons pe_int pa_nil))) pa_nil)) (pg_name (i := 7) nd rfl (Or.inl rfl)) (pss_cons (ps_set (i := 8) nd rfl (Or.inl rfl) (pe_ifExp (pt_cmpR op_eq (pe_call G_law_next (hr.mono (by decide)) (by rfl) C_law_next.g C_law_next.k C_law_next.a .nil pass0 (pa_cons (pv 0) (pa_cons pe_int pa_nil))) pe_int (nomark _)) (pe_call G_law_next (hr.mono (by decide)) (by rfl) C_law_next.g C_law_next.k C_law_next.a .nil pass0 (pa_cons (pv 0) (pa_cons (pe_op op_add (pe_ix ix_tup (pv 3) pe_int (fun _ _ => rfl)) pe_int) pa_nil))) (pe_call G_law_next (hr.mono (by decide)) (by rfl) C_law_next.g C_law_next.k C_law_next.a .nil pass0 (pa_cons (pv 0) (pa_cons (pe_op op_add (pe_callB (call_min2 rfl) (by rfl) B.min (by decide +kernel) (pa_cons pe_int (pa_cons (pe_ix ix_tup (pv 3) pe_int (fun _ _ => rfl)) pa_nil))) pe_int) pa_nil)))))
      (pss_cons (ps_set (i := 9) nd rfl (Or.inl rfl) (pe_ix ix_list (pe_lst (pa_cons pe_int (pa_cons (pv 8) (pa_cons (pe_call G_law_next (hr.mono (by decide)) (by rfl) C_law_next.g C_law_next.k C_law_next.a .nil pass0 (pa_cons (pv 0) (pa_cons (pe_op op_add (pv 8) pe_int) pa_nil))) pa_nil)))) (pe_call G_law_next (hr.mono (by decide)) (by rfl) C_law_next.g C_law_next.k C_law_next.a .nil pass0 (pa_cons (pv 0) (pa_cons pe_int pa_nil))) (fun _ _ => rfl)))
      (pss_one (ps_expr (pe_bm PySem.F.plainAttrs_list PySem.F.slot_list_append PySem.F.type_list_append mt_append (pv 6) (pa_cons (pe_tup (pa_cons (pv 8) (pa_cons (pe_op op_add pe_int (pe_call G_law_next (hr.mono (by decide)) (by rfl) C_law_next.g C_law_next.k C_law_next.a .nil pass0 (pa_cons (pv 0) (pa_cons (pe_ix ix_list (pe_lst (pa_cons pe_int (pa_cons pe_int pa_nil))) (pe_op op_fdivW (pe_call G_law_next (hr.mono (by decide)) (by rfl) C_law_next.g C_law_next.k C_law_next.a .nil pass0 (pa_cons (pv 0) (pa_cons pe_int pa_nil))) pe_int) (fun _ _ => rfl)) pa_nil)))) (pa_cons (pv 9) pa_nil)))) pa_nil)))))))
      (pss_one (ps_expr (pe_bm PySem.F.plainAttrs_list PySem.F.slot_list_append PySem.F.type_list_append mt_append (pv 4) (pa_cons (pe_callTy call_tuple_of (by rfl) B.tuple (by decide +kernel) (pa_cons (pv 6) pa_nil)) pa_nil)))))))
      (pss_one (ps_ret (pe_tup (pa_cons (pv 3) (pa_cons (pe_callTy call_tuple_of (by rfl) B.tuple (by decide +kernel) (pa_cons (pv 4) pa_nil)) pa_nil))))))))), ?_⟩
    refine LN.body j q ?_
    walk_at "ob"
    refine ⟨by omega, by omega, fun r1 r10 r11 => ?_⟩
    walk_at "ob"
    refine ⟨by decide, by decide, fun r2 r20 r21 => ?_⟩
    walk_at "ob"
    refine ⟨by walk_at "ob_len", fun p1 hp1 => ?_⟩
    walk_at "ob"
    refine ⟨by decide, by decide, fun r3 r30 r31 => ?_⟩
    obtain ⟨rf, erf, rf0, rf1⟩ : ∃ rf : Int, atI [V.int 0, V.int 1, V.int 1, V.int 2, V.int r2] r3 = some (V.int rf) ∧ 0 ≤ rf ∧ rf ≤ 9 := by
      have : r3 = 0 ∨ r3 = 1 ∨ r3 = 2 ∨ r3 = 3 ∨ r3 = 4 := by omega
      rcases this with rfl | rfl | rfl | rfl | rfl
      · exact ⟨0, rfl, by omega, by omega⟩
      · exact ⟨1, rfl, by omega, by omega⟩
      · exact ⟨1, rfl, by omega, by omega⟩
      · exact ⟨2, rfl, by omega, by omega⟩
      · exact ⟨r2, rfl, by omega, by omega⟩
    refine rw_ixL hd (SqL.of upd_same) erf ?_
    walk_at "ob"
    refine ⟨by walk_at "ob_len", fun p2 hp2 => ?_⟩
    walk_at "ob"
    refine ⟨by omega, by omega, fun r4 r40 r41 => ?_⟩
    walk_at "ob"
    refine ⟨by walk_at "ob_len", fun st hst => ?_⟩
    walk_at "ob"
    refine ⟨by walk_at "ob_len", fun ml hml => ?_⟩
    walk_at "ob"
    refine sw_forR1 ?_
    walk_at "ob"
    refine ⟨by omega, by omega, fun nm nm0 nm1 => ?_⟩
    walk_at "ob"
    refine ⟨nm, fun i σ _ G => ∃ (x5 x6 x7 x8 x9 : Option V) (G0 : Hp) (vs : List V) (mss : List (List Stp)), σ = [some (.ref h), some (.int most), some (.int cap), some (.ref st), some (.ref ml), x5, x6, x7, x8, x9] ∧
      Ex F G0 ∧ Ex G0 G ∧ G0 ml = none ∧ G ml = some (.lst vs) ∧ G0 st = some (.tup [.int (1 + r1), .int r4, .int rf]) ∧ DpAll K G0 vs (mss.map macD) ∧ mss.length = i ∧ (∀ ss ∈ mss, ss.length ≤ 4) ∧ ∀ ss ∈ mss, ∀ s ∈ ss, StpOk (1 + r1) s,
      rfl, by omega, by omega, ⟨none, none, none, none, none, _, [], [], rfl, ?_, Ex.new (Ex.refl _) hml, hml, upd_same, upd_same, .nil, rfl, ?_, ?_⟩, ?_, ?_⟩
    · walk_at "ob_ex"
    · intro ss hss; cases hss
    · intro ss hss; cases hss
    · rintro i σ _ G hi ⟨x5, x6, x7, x8, x9, G0, vs, mss, rfl, g1, g2, e1, e2, e3, dv, hl, ok1, ok2⟩
      walk_at "ob"
      refine ⟨by walk_at "ob_len", fun sl hsl => ?_⟩
      have nsl : ml ≠ sl := ne_of_none e2 hsl
      have e4 : G0 sl = none := g2.free hsl
      walk_at "ob"
      refine sw_forR1 ?_
      walk_at "ob"
      refine ⟨by decide, by decide, fun ns ns0 ns1 => ?_⟩
      walk_at "ob"
      refine ⟨ns, fun k σ _ G => ∃ (x7 x8 x9 : Option V) (G1 : Hp) (ws : List V) (ss : List Stp), σ = [some (.ref h), some (.int most), some (.int cap), some (.ref st), some (.ref ml), some (.int (i : Int)), some (.ref sl), x7, x8, x9] ∧
        Ex G0 G1 ∧ Ex G1 G ∧ G1 ml = none ∧ G1 sl = none ∧ G ml = some (.lst vs) ∧ G sl = some (.lst ws) ∧ DpAll K G1 ws (ss.map stpD) ∧ ss.length = k ∧ ∀ s ∈ ss, StpOk (1 + r1) s,
        rfl, by omega, by omega, ⟨x7, x8, x9, G0, [], [], rfl, Ex.refl _, Ex.new g2 hsl, e1, e4, by walk_at "ob_at", upd_same, .nil, rfl, ?_⟩, ?_, ?_⟩
      · intro s hs; cases hs
      · rintro kk σ _ G hk ⟨x7, x8, x9, G1, ws, ss, rfl, g3, g4, e1, e4, e2, e5, dw, hss, oks⟩
        have est : G st = some (.tup [.int (1 + r1), .int r4, .int rf]) := g4 _ _ (g3 _ _ e3)
        refine gw_name ?_
        refine sw_seq (sw_asg ?_)
        refine EW.imp (R := fun v _ G' => G' = G ∧ ∃ dr : Int, v = .int dr ∧ 0 ≤ dr ∧ dr ≤ 1 + r1) ?_ ?_
        · walk_at "ob"
          refine ⟨by decide, by decide, fun q0 q00 q01 => ?_⟩
          walk_at "ob"
          refine ⟨fun hb => ?_, fun hb => ?_⟩
          · walk_at "ob"
            exact ⟨by omega, by omega, fun r5 r50 r51 => ⟨rfl, r5, rfl, r50, by omega⟩⟩
          · walk_at "ob"
            refine ⟨by split <;> omega, by split <;> omega, fun r5 r50 r51 => ⟨rfl, r5, rfl, r50, ?_⟩⟩
            split at r51 <;> omega
        · rintro v _ G' ⟨rfl, dr, rfl, d0, d1⟩
          walk_at "ob"
          refine ⟨by omega, by omega, fun r6 r60 r61 => ?_⟩
          walk_at "ob"
          refine ⟨by walk_at "ob_len", fun p3 hp3 => ?_⟩
          walk_at "ob"
          refine ⟨by decide, by decide, fun r7 r70 r71 => ?_⟩
          obtain ⟨bk, ebk, b0, b1⟩ : ∃ bk : Int, atI [V.int 0, V.int dr, V.int r6] r7 = some (V.int bk) ∧ 0 ≤ bk ∧ bk ≤ dr := by
            have : r7 = 0 ∨ r7 = 1 ∨ r7 = 2 := by omega
            rcases this with rfl | rfl | rfl
            · exact ⟨0, rfl, by omega, by omega⟩
            · exact ⟨dr, rfl, by omega, by omega⟩
            · exact ⟨r6, rfl, by omega, by omega⟩
          refine rw_ixL hd (SqL.of upd_same) ebk ?_
          walk_at "ob"
          refine ew_bmL hd ?_
          walk_at "ob"
          refine ⟨sl, ws, rfl, SqL.of (by walk_at "ob_at"), ?_⟩
          walk_at "ob"
          refine ⟨by walk_at "ob_len", fun p4 hp4 => ?_⟩
          walk_at "ob"
          refine ⟨by decide, by decide, fun r8 r80 r81 => ?_⟩
          walk_at "ob"
          obtain ⟨lo, elo, l0, l1⟩ : ∃ lo : Int, atI [V.int 3, V.int 9] (r8 / 3) = some (V.int lo) ∧ 0 < lo ∧ lo ≤ 9 := by
            have : r8 / 3 = 0 ∨ r8 / 3 = 1 := by omega
            rcases this with e | e
            · exact ⟨3, by rw [e]; rfl, by omega, by omega⟩
            · exact ⟨9, by rw [e]; rfl, by omega, by omega⟩
          refine rw_ixL hd (SqL.of upd_same) elo ?_
          refine ⟨lo, rfl, l0, by omega, fun r9 r90 r91 => ?_⟩
          walk_at "ob"
          refine ⟨by walk_at "ob_len", fun t ht => ?_⟩
          walk_at "ob"
          refine mw_append hd (xs := ws) (by walk_at "ob_at") (by have := dps_len dw; simp at this; omega) ?_
          have n1 : ml ≠ t := by walk_at "ob_ne"
          have n2 : sl ≠ t := by walk_at "ob_ne"
          have hp5 : G1 t = none := Ex.free (Ex.new (Ex.new g4 hp3) hp4) ht
          refine ⟨_, _, _, upd G1 t (.tup [.int dr, .int (1 + r9), .int bk]), ws ++ [.ref t], ss ++ [⟨dr, 1 + r9, bk⟩], rfl, Ex.new g3 hp5, ?_, ?_, ?_, by walk_at "ob_at", upd_same, ?_, by simp [hss], ?_⟩
          · refine Ex.out (Ex.upd (by walk_at "ob_ex")) ?_
            refine Eq.trans (upd_ne ?_) e4
            walk_at "ob_ne"
          · refine Eq.trans (upd_ne ?_) e1
            walk_at "ob_ne"
          · refine Eq.trans (upd_ne ?_) e4
            walk_at "ob_ne"
          · rw [List.map_append]
            refine dps_snoc (dps_ex (Ex.new (Ex.refl _) hp5) dw) (.tup (SqT.of upd_same) (.cons (.int _) (.cons (.int _) (.cons (.int _) .nil))))
          · intro s hs
            rcases List.mem_append.mp hs with hs | hs
            · exact oks s hs
            · simp at hs
              subst hs
              exact ⟨d0, d1, by show 1 ≤ 1 + r9; omega, by show 1 + r9 ≤ 9; omega, b0, b1⟩
      · rintro σ _ G ⟨x7, x8, x9, G1, ws, ss, rfl, g3, g4, e1, e4, e2, e5, dw, hss, oks⟩
        walk_at "ob"
        refine ew_bmL hd ?_
        walk_at "ob"
        refine ⟨ml, vs, rfl, SqL.of e2, ?_⟩
        walk_at "ob"
        refine cw_tuple hd (ys := ws) (SqL.of e5) fun t ht => ?_
        walk_at "ob"
        refine mw_append hd (xs := vs) (by walk_at "ob_at") (by have := dps_len dv; simp at this; omega) ?_
        have n1 : ml ≠ t := by walk_at "ob_ne"
        have hp5 : G1 t = none := g4.free ht
        refine ⟨_, _, _, _, _, upd G1 t (.tup ws), vs ++ [.ref t], mss ++ [ss], rfl, g1.trans (Ex.new g3 hp5), ?_, ?_, upd_same, ?_, ?_, by simp [hl], ?_, ?_⟩
        · refine Ex.out (Ex.upd g4) ?_
          refine Eq.trans (upd_ne ?_) e1
          walk_at "ob_ne"
        · refine Eq.trans (upd_ne ?_) e1
          walk_at "ob_ne"
        · exact Ex.new g3 hp5 _ _ e3
        · rw [List.map_append]
          refine dps_snoc (dps_ex (Ex.new g3 hp5) dv) (.tup (SqT.of upd_same) (dps_ex (Ex.new (Ex.refl _) hp5) dw))
        · intro s hs
          rcases List.mem_append.mp hs with hs | hs
          · exact ok1 s hs
          · simp at hs
            subst hs
            omega
        · intro s hs
          rcases List.mem_append.mp hs with hs | hs
          · exact ok2 s hs
          · simp at hs
            subst hs
            exact oks
    · rintro σ _ G ⟨x5, x6, x7, x8, x9, G0, vs, mss, rfl, g1, g2, e1, e2, e3, dv, hl, ok1, ok2⟩
      walk_at "ob"
      refine cw_tuple hd (ys := vs) (SqL.of e2) fun t ht => ?_
      walk_at "ob"
      refine ⟨by walk_at "ob_len", fun a ha => ?_⟩
      have gA : Ex G0 (upd (upd G t (.tup vs)) a (.tup [.ref st, .ref t])) := by walk_at "ob_ex"
      refine k _ _ ⟨1 + r1, r4, rf, mss⟩ (g1.trans gA) ?_ ⟨?_, ?_, r40, ?_, rf0, rf1, ?_, ?_, ok2⟩ ?_ ?_ ok1
      · refine .tup (SqT.of upd_same) (.cons (.tup (SqT.of (gA _ _ e3)) (.cons (.int _) (.cons (.int _) (.cons (.int _) .nil)))) (.cons (.tup (SqT.of (xs := vs) ?_) (dps_ex gA dv)) .nil))
        walk_at "ob_at"
      · show 1 ≤ 1 + r1; omega
      · show 1 + r1 ≤ 99; omega
      · show r4 ≤ 1 + r1; omega
      · show mss.length ≤ 5; omega
      · intro ss hs
        have := ok1 ss hs
        omega
      · show 1 + r1 ≤ cap; omega
      · show ((mss.length : Nat) : Int) ≤ most; omega
end
end Obr
namespace Obr
open PySem L2 PyProof.Rows
local macro_rules | `(tactic| walk_at "ob_at") => `(tactic| first
  | assumption
  | exact upd_same
  | (refine Eq.trans (upd_ne ?obn) ?obr; (case obn => walk_at "ob_ne"); (case obr => walk_at "ob_at")))
local macro_rules | `(tactic| walk_at "ob_ne") => `(tactic| first
  | assumption
  | (refine Ne.symm ?obs; (case obs => assumption))
  | (refine' ne_of_none (H := ?_) ?obe ?obh; (case obh => assumption); (case obe => walk_at "ob_at"))
  | (refine Ne.symm ?obs; (case obs => (refine' ne_of_none (H := ?_) ?obe ?obh; (case obh => assumption); (case obe => walk_at "ob_at")))))
local macro_rules | `(tactic| walk_at "ob_fr") => `(tactic| first
  | assumption
  | (refine Eq.trans (upd_ne ?obn) ?obr; (case obn => walk_at "ob_ne"); (case obr => walk_at "ob_fr"))
  | (refine Ex.free (G := ?_) (by assumption) ?obh; (case obh => walk_at "ob_fr")))
local macro_rules | `(tactic| walk_at "ob_ex") => `(tactic| first
  | assumption
  | exact Ex.refl _
  | (refine Ex.out ?obg ?obh; (case obh => assumption); (case obg => walk_at "ob_ex"))
  | (refine Ex.new ?obg ?obh; (case obh => assumption); (case obg => walk_at "ob_ex"))
  | (refine Ex.new ?obg ?obh; (case obh => walk_at "ob_fr"); (case obg => walk_at "ob_ex")))
local macro_rules | `(tactic| walk_at "ob_sq") => `(tactic| first
  | assumption
  | (refine SqL.of ?oba; (case oba => walk_at "ob_at"))
  | (refine Ex.sqT (F := ?_) ?obg ?obh; (case obh => assumption); (case obg => walk_at "ob_ex"))
  | (refine Ex.sqL (F := ?_) ?obg ?obh; (case obh => assumption); (case obg => walk_at "ob_ex"))
  | (refine SqT.of ?oba; (case oba => walk_at "ob_at")))
local macro_rules | `(tactic| walk_at "ob_side") => `(tactic| first | exact rfl | assumption | decide | omega | exact ⟨by decide, by decide, by decide⟩ | exact Or.inr ⟨by decide, by decide⟩ | exact Or.inl ⟨by decide, by decide⟩ | exact wide_div (b := 60) (by first | decide | omega) (by first | decide | omega) (by decide) (by decide))
local macro_rules | `(tactic| walk_at "ob1") => `(tactic| first
  | with_reducible refine sw_seq ?_
  | with_reducible refine sw_asg ?_
  | with_reducible refine sw_ret ?_
  | with_reducible refine sw_par ?_
  | with_reducible refine ⟨_, _, rfl, ?_⟩
  | with_reducible refine sw_drop ?_
  | with_reducible refine sw_if ?_
  | with_reducible refine sw_next ?_
  | with_reducible refine gw_name ?_
  | with_reducible refine ew_c ?_
  | ((with_reducible refine' ew_var (v := ?_) ?obv ?_); (case obv => exact rfl))
  | ((with_reducible refine ew_next (by assumption) ?obv ?_); (case obv => exact rfl))
  | ((with_reducible refine ew_world (by assumption) ?obv ?_); (case obv => exact rfl))
  | ((with_reducible refine ew_rule (by assumption) ?obv ?_); (case obv => exact rfl))
  | with_reducible refine ew_op ?_
  | with_reducible refine ew_un ?_
  | with_reducible refine ew_cb ?_
  | with_reducible refine ew_if ?_
  | with_reducible refine ew_slL (by assumption) ?_
  | with_reducible refine ow_some ?_
  | with_reducible refine ow_none ?_
  | with_reducible refine aw_nil ?_
  | with_reducible refine aw_cons ?_
  | with_reducible refine rw_I0 ?_
  | ((with_reducible refine rw_I ?obc ?_); (case obc => walk_at "ob_side"))
  | ((with_reducible refine rw_eq ?obc ?_); (case obc => exact rfl))
  | ((with_reducible refine rw_ne ?obc ?_); (case obc => exact rfl))
  | with_reducible refine cw_max2 ?_
  | with_reducible refine cw_min2 ?_
  | with_reducible refine tw_test ?_
  | with_reducible refine tw_B ?_
  | with_reducible refine tw_not ?_
  | (refine' Exists.intro _ (And.intro (show V.bl _ = V.bl _ from rfl) ?_))
  | (refine' Exists.intro _ (And.intro (show V.int _ = V.int _ from rfl) ?_))
  | ((with_reducible refine' rw_ixL (v := ?_) (xs := ?_) (by assumption) ?obl ?oba ?_); (case obl => walk_at "ob_sq"); (case oba => first | exact rfl | exact at_zero))
  | ((with_reducible refine' rw_ixT (v := ?_) (xs := ?_) (by assumption) ?obl ?oba ?_); (case obl => walk_at "ob_sq"); (case oba => first | exact rfl | exact at_zero))
  | ((with_reducible refine' ew_lst (by assumption) ?_))
  | ((with_reducible refine' ew_tup (by assumption) ?_)))
local macro_rules | `(tactic| walk_at "ob_len") => `(tactic| first | exact Nat.le_of_ble_eq_true rfl | (simp; done) | omega)
local macro_rules | `(tactic| walk_at "ob") => `(tactic| repeat walk_at "ob1")

/-! ### _law_turn: the claims by their keys -/
structure Clm where
  k : Int
  draw : Int
  since : Int
  deriving DecidableEq
def clmD (c : Clm) : PyData := .tuple [.int c.k, .int c.draw, .int c.since]
def ckey (r : Rgt) (last : Int) (c : Clm) : Int := match r with
  | .rank => 0
  | .turns => b2i (decide (c.k ≤ last))
  | .wait => c.since
  | .least => c.draw
def cLt (r : Rgt) (last : Int) (a b : Clm) : Prop := ckey r last a < ckey r last b ∨ (ckey r last a = ckey r last b ∧ a.k < b.k)
instance (r : Rgt) (last : Int) (a b : Clm) : Decidable (cLt r last a b) := by unfold cLt; infer_instance
/-- _law_turn(right, claims, last): the claims in their turn -/
def aTurn (K : PySem.W.Frag) : List V → Hp → VK → Prop := fun vs F R => ∃ (F0 : Hp) (r : Rgt) (last : Int) (ca : Addr) (cvs : List V) (cs : List Clm), vs = [.str (rgtS r), .ref ca, .int last] ∧ Ex F0 F ∧ SqL K F ca cvs ∧ DpAll K F0 cvs (cs.map clmD) ∧ cs.length ≤ 60 ∧ (cs.map Clm.k).Nodup ∧
  ∀ (p : Addr) (F' : Hp) (ts : List Clm) (vs2 : List V), Ex F F' → F p = none → F' p = some (.lst vs2) → DpAll K F0 vs2 (ts.map clmD) → ts.Perm cs → ts.Pairwise (cLt r last) → R (.ref p) F'
section
variable {P : Program} {w : World} {K : PySem.W.Frag} {mg : Str → Option Value} {base : Heap}
end
end Obr
namespace Obr
open PySem L2 PyProof.Rows
local macro_rules | `(tactic| walk_at "ob_at") => `(tactic| first
  | assumption
  | exact upd_same
  | (refine Eq.trans (upd_ne ?obn) ?obr; (case obn => walk_at "ob_ne"); (case obr => walk_at "ob_at")))
local macro_rules | `(tactic| walk_at "ob_ne") => `(tactic| first
  | assumption
  | (refine Ne.symm ?obs; (case obs => assumption))
  | (refine' ne_of_none (H := ?_) ?obe ?obh; (case obh => assumption); (case obe => walk_at "ob_at"))
  | (refine Ne.symm ?obs; (case obs => (refine' ne_of_none (H := ?_) ?obe ?obh; (case obh => assumption); (case obe => walk_at "ob_at")))))
local macro_rules | `(tactic| walk_at "ob_fr") => `(tactic| first
  | assumption
  | (refine Eq.trans (upd_ne ?obn) ?obr; (case obn => walk_at "ob_ne"); (case obr => walk_at "ob_fr"))
  | (refine Ex.free (G := ?_) (by assumption) ?obh; (case obh => walk_at "ob_fr")))
local macro_rules | `(tactic| walk_at "ob_ex") => `(tactic| first
  | assumption
  | exact Ex.refl _
  | (refine Ex.out ?obg ?obh; (case obh => assumption); (case obg => walk_at "ob_ex"))
  | (refine Ex.new ?obg ?obh; (case obh => assumption); (case obg => walk_at "ob_ex"))
  | (refine Ex.new ?obg ?obh; (case obh => walk_at "ob_fr"); (case obg => walk_at "ob_ex")))
local macro_rules | `(tactic| walk_at "ob_sq") => `(tactic| first
  | assumption
  | (refine SqL.of ?oba; (case oba => walk_at "ob_at"))
  | (refine Ex.sqT (F := ?_) ?obg ?obh; (case obh => assumption); (case obg => walk_at "ob_ex"))
  | (refine Ex.sqL (F := ?_) ?obg ?obh; (case obh => assumption); (case obg => walk_at "ob_ex"))
  | (refine SqT.of ?oba; (case oba => walk_at "ob_at")))
local macro_rules | `(tactic| walk_at "ob_side") => `(tactic| first | exact rfl | assumption | decide | omega | exact ⟨by decide, by decide, by decide⟩ | exact Or.inr ⟨by decide, by decide⟩ | exact Or.inl ⟨by decide, by decide⟩ | exact wide_div (b := 60) (by first | decide | omega) (by first | decide | omega) (by decide) (by decide))
local macro_rules | `(tactic| walk_at "ob1") => `(tactic| first
  | with_reducible refine sw_seq ?_
  | with_reducible refine sw_asg ?_
  | with_reducible refine sw_ret ?_
  | with_reducible refine sw_par ?_
  | with_reducible refine ⟨_, _, rfl, ?_⟩
  | with_reducible refine sw_drop ?_
  | with_reducible refine sw_if ?_
  | with_reducible refine sw_next ?_
  | with_reducible refine gw_name ?_
  | with_reducible refine ew_c ?_
  | ((with_reducible refine' ew_var (v := ?_) ?obv ?_); (case obv => exact rfl))
  | ((with_reducible refine ew_next (by assumption) ?obv ?_); (case obv => exact rfl))
  | ((with_reducible refine ew_world (by assumption) ?obv ?_); (case obv => exact rfl))
  | ((with_reducible refine ew_rule (by assumption) ?obv ?_); (case obv => exact rfl))
  | with_reducible refine ew_op ?_
  | with_reducible refine ew_un ?_
  | with_reducible refine ew_dget (by assumption) ?_
  | with_reducible refine uw_I ?_
  | with_reducible refine ppw_nil ?_
  | with_reducible refine ppw_cons ?_
  | with_reducible refine sw_dput (by assumption) ?_
  | with_reducible refine ew_cb ?_
  | with_reducible refine ew_if ?_
  | with_reducible refine ew_slL (by assumption) ?_
  | with_reducible refine ow_some ?_
  | with_reducible refine ow_none ?_
  | with_reducible refine aw_nil ?_
  | with_reducible refine aw_cons ?_
  | with_reducible refine rw_I0 ?_
  | ((with_reducible refine rw_I ?obc ?_); (case obc => walk_at "ob_side"))
  | ((with_reducible refine rw_eq ?obc ?_); (case obc => exact rfl))
  | ((with_reducible refine rw_ne ?obc ?_); (case obc => exact rfl))
  | with_reducible refine cw_max2 ?_
  | with_reducible refine cw_min2 ?_
  | with_reducible refine tw_test ?_
  | with_reducible refine tw_B ?_
  | with_reducible refine tw_not ?_
  | (refine' Exists.intro _ (And.intro (show V.bl _ = V.bl _ from rfl) ?_))
  | (refine' Exists.intro _ (And.intro (show V.int _ = V.int _ from rfl) ?_))
  | ((with_reducible refine' rw_ixL (v := ?_) (xs := ?_) (by assumption) ?obl ?oba ?_); (case obl => walk_at "ob_sq"); (case oba => first | exact rfl | exact at_zero))
  | ((with_reducible refine' rw_ixT (v := ?_) (xs := ?_) (by assumption) ?obl ?oba ?_); (case obl => walk_at "ob_sq"); (case oba => first | exact rfl | exact at_zero))
  | ((with_reducible refine' ew_lst (by assumption) ?_))
  | ((with_reducible refine' ew_tup (by assumption) ?_)))
local macro_rules | `(tactic| walk_at "ob_len") => `(tactic| first | exact Nat.le_of_ble_eq_true rfl | (simp; done) | omega)
local macro_rules | `(tactic| walk_at "ob") => `(tactic| repeat walk_at "ob1")
/-! ### the law's own machines: their state, and where it stands -/
structure Mac where
  at_ : Int
  over : Int
  since : Int
  done : Int
  waits : Int
  ends : Option Int
structure LSt where
  level : Int
  last : Int
  beat : Int
  ms : List Mac
structure WAd where
  w : Addr
  at_ : Addr
  over : Addr
  since : Addr
  done : Addr
  waits : Addr
  ends : Addr
  store : V
  machines : V
  rule : V
def oV : Option Int → V
  | none => .non
  | some i => .int i
def wkeys : List Key := [.inr "store", .inr "machines", .inr "rule", .inr "level", .inr "at", .inr "over", .inr "since", .inr "last", .inr "beat", .inr "done", .inr "waits", .inr "ends"]
def wkvs (A : WAd) (t : LSt) : List (Key × V) := [(.inr "store", A.store), (.inr "machines", A.machines), (.inr "rule", A.rule), (.inr "level", .int t.level), (.inr "at", .ref A.at_), (.inr "over", .ref A.over), (.inr "since", .ref A.since),
  (.inr "last", .int t.last), (.inr "beat", .int t.beat), (.inr "done", .ref A.done), (.inr "waits", .ref A.waits), (.inr "ends", .ref A.ends)]
def wown (A : WAd) (t : LSt) : List (Addr × HO) := [(A.w, .dK (wkvs A t)), (A.at_, .lst (t.ms.map fun m => .int m.at_)), (A.over, .lst (t.ms.map fun m => .int m.over)), (A.since, .lst (t.ms.map fun m => .int m.since)),
  (A.done, .lst (t.ms.map fun m => .int m.done)), (A.waits, .lst (t.ms.map fun m => .int m.waits)), (A.ends, .lst (t.ms.map fun m => oV m.ends))]
def stoD (w : Wld) : PyData := .tuple [.int w.cap, .int w.start, .int w.refill]
structure WAt (K : PySem.W.Frag) (F0 F : Hp) (A : WAd) (t : LSt) (w : Wld) (r : Rgt) (p : Bool) (ex : List (Addr × HO)) : Prop where
  own : Own F0 F (wown A t ++ ex)
  st : Dp K F0 A.store (stoD w)
  mc : Dp K F0 A.machines (.tuple (w.ms.map macD))
  ru : Dp K F0 A.rule (rulD r p)
  len : t.ms.length = w.ms.length
/-- all as it is ahead of beat 0 -/
def lBegun (w : Wld) : LSt := ⟨w.start, -1, 0, w.ms.map fun ss => ⟨0, -1, 0, 0, 0, if ss.isEmpty then some 0 else none⟩⟩
/-- _law_begun(world, rule) -/
def aBegun (K : PySem.W.Frag) : List V → Hp → VK → Prop := fun vs F R => ∃ (x y : V) (w : Wld) (r : Rgt) (p : Bool), vs = [x, y] ∧ Dp K F x (wldD w) ∧ Dp K F y (rulD r p) ∧ w.ms.length ≤ 5 ∧ (∀ ss ∈ w.ms, ss.length ≤ 12) ∧
  ∀ (F0 F' : Hp) (A : WAd), Ex F F0 → WAt K F0 F' A (lBegun w) w r p [] → R (.ref A.w) F'
def bk1 (sa ma : Addr) (y : V) (z : Int) (c1 : Addr) : List (Key × V) := [(.inr "store", .ref sa), (.inr "machines", .ref ma), (.inr "rule", y), (.inr "level", .int z), (.inr "at", .ref c1)]
def bk2 (c2 c3 c4 c5 : Addr) : List (Key × V) := [(.inr "over", .ref c2), (.inr "since", .ref c3), (.inr "last", .int (-1)), (.inr "beat", .int 0), (.inr "done", .ref c4), (.inr "waits", .ref c5)]
section
variable {P : Program} {w : World} {K : PySem.W.Frag} {mg : Str → Option Value} {base : Heap}
end
end Obr
namespace Obr
open PySem L2 PyProof.Rows
/-! ### reading and writing the law's machines -/
theorem atI_int {xs : List V} {i : Int} {v : V} (h0 : 0 ≤ i) (h : xs[i.toNat]? = some v) : atI xs i = some v := by
  obtain ⟨j, rfl⟩ : ∃ j : Nat, i = (j : Int) := ⟨i.toNat, by omega⟩
  exact atI_nat (by simpa using h)
section
variable {S : Type} {J : S → Hp → Hp → Prop} {K : PySem.W.Frag} {σ : L2.St} {s : S} {F0 F : Hp} {A : WAd} {t : LSt} {w : Wld} {r : Rgt} {p : Bool} {ex : List (Addr × HO)} {R : V → S → Hp → Prop} {D : L2.St → S → Hp → Prop}
end
end Obr
namespace Obr
open PySem L2 PyProof.Rows
/-! ### a beat of the law's machines -/
def minI (a b : Int) : Int := if b < a then b else a
def lEnd (w : Wld) (anew : Bool) (t : LSt) (k : Nat) : LSt :=
  match t.ms[k]?, w.ms[k]? with
  | some m, some ss =>
    if m.over = t.beat then
      match ss[m.at_.toNat]? with
      | some s =>
        if m.at_ + 1 = ss.length then { t with level := minI w.cap (t.level + s.back), ms := t.ms.set k ⟨if anew then 0 else m.at_ + 1, -1, t.beat, m.done + 1, m.waits, some t.beat⟩ }
        else { t with level := minI w.cap (t.level + s.back), ms := t.ms.set k ⟨m.at_ + 1, -1, t.beat, m.done + 1, m.waits, m.ends⟩ }
      | none => t
    else t
  | _, _ => t
def lEnds (w : Wld) (anew : Bool) (t : LSt) : Nat → LSt
  | 0 => t
  | n + 1 => lEnd w anew (lEnds w anew t n) n
def lFill (w : Wld) (t : LSt) : LSt := if 0 < t.beat then { t with level := minI w.cap (t.level + w.refill) } else t
def lClaim (w : Wld) (t : LSt) (k : Nat) : List Clm :=
  match t.ms[k]?, w.ms[k]? with
  | some m, some ss => if m.over < 0 ∧ m.at_ < ss.length then (match ss[m.at_.toNat]? with | some s => [⟨k, s.draw, m.since⟩] | none => []) else []
  | _, _ => []
def lClaims (w : Wld) (t : LSt) : Nat → List Clm
  | 0 => []
  | n + 1 => lClaims w t n ++ lClaim w t n
def lDraw (w : Wld) (p : Bool) (x : LSt × List Int × Bool) (c : Clm) : LSt × List Int × Bool :=
  match x.1.ms[c.k.toNat]?, w.ms[c.k.toNat]? with
  | some m, some ss =>
    if x.2.2 = true ∧ c.draw ≤ x.1.level then
      match ss[m.at_.toNat]? with
      | some s => ({ x.1 with level := x.1.level - c.draw, ms := x.1.ms.set c.k.toNat { m with over := x.1.beat + s.long } }, x.2.1 ++ [c.k], x.2.2)
      | none => x
    else ({ x.1 with ms := x.1.ms.set c.k.toNat { m with waits := m.waits + 1 } }, x.2.1, x.2.2 && p)
  | _, _ => x
def lDraws (w : Wld) (p : Bool) (ts : List Clm) (t : LSt) : LSt × List Int × Bool := ts.foldl (lDraw w p) (t, [], true)
def lLast (t : LSt) (bg : List Int) : LSt := { t with last := (if bg.isEmpty then t.last else bg.getLastD 0), beat := t.beat + 1 }
/-- the claims in their turn: any list that is that -/
structure TurnOk (r : Rgt) (last : Int) (cs ts : List Clm) : Prop where
  perm : ts.Perm cs
  srt : ts.Pairwise (cLt r last)
/-- a beat: from t to t', told (level, began) -/
structure LBeat (w : Wld) (r : Rgt) (p : Bool) (anew : Bool) (t t' : LSt) (lv : Int) (bg : List Int) : Prop where
  ex : ∃ ts, TurnOk r (lFill w (lEnds w anew t w.ms.length)).last (lClaims w (lFill w (lEnds w anew t w.ms.length)) w.ms.length) ts ∧ bg = (lDraws w p ts (lFill w (lEnds w anew t w.ms.length))).2.1 ∧
    t' = lLast (lDraws w p ts (lFill w (lEnds w anew t w.ms.length))).1 bg ∧ lv = t'.level
structure MacOk (ss : List Stp) (m : Mac) : Prop where
  a0 : 0 ≤ m.at_
  a1 : m.at_ ≤ ss.length
  o : 0 ≤ m.over → m.at_ < ss.length
structure LOk (w : Wld) (t : LSt) : Prop where
  b : 0 ≤ t.beat
  m : ∀ (k : Nat) (m : Mac) (ss : List Stp), t.ms[k]? = some m → w.ms[k]? = some ss → MacOk ss m
  len : t.ms.length = w.ms.length
/-- where each machine is, is left by a draw as it was -/
def SameAt (T X : LSt) : Prop := X.beat = T.beat ∧ ∀ k : Nat, (X.ms[k]?).map Mac.at_ = (T.ms[k]?).map Mac.at_
end Obr
namespace Obr
open PySem L2 PySem.Spec PyProof.Rows
/-! ### objects: fields, methods, making -/
section
variable {S : Type} {J : S → Hp → Hp → Prop} {K : PySem.W.Frag} {σ : L2.St} {s : S} {F : Hp} {R : V → S → Hp → Prop} {ta tv : TE} {tr : TA} {D : En S} {f : Str} {A : List V → Hp → VK → Prop} {E : XK} {C : Addr} {m : Str}
end
/-! ### fields by places -/
/-- a class whose objects have these fields, none of them a name of the class -/
structure ClsF (K : PySem.W.Frag) (C : Addr) (ns : List Str) : Prop where
  cl : Cls K C
  no : ∀ f ∈ ns, NoAttr K C f
/-- a method -/
structure Met (K : PySem.W.Frag) (C : Addr) (m : Str) (f : Addr) (fd : FuncData) (ps : List Str) : Prop where
  cl : Cls K C
  m : Meth K C m f
  a : Binds K fd ps []
/-! ### the program's machines -/
def ovV (i : Int) : V := if i < 0 then .non else .int i
def mkeys : List Str := ["number", "steps", "at", "over", "since", "paused"]
/-- of a machine what no beat changes: its steps, whether it's paused; full: all its steps, of which one that is paused does those it has begun -/
structure Sv where
  v : V
  pz : Bool
  full : List Stp
def mfs (n : Int) (sv : Sv) (m : Mac) : List (Str × V) := [("number", .int n), ("steps", sv.v), ("at", .int m.at_), ("over", ovV m.over), ("since", .int m.since), ("paused", .bl sv.pz)]
structure StAt (K : PySem.W.Frag) (F : Hp) (sv : Sv) (ss : List Stp) : Prop where
  d : Dp K F sv.v (macD sv.full)
  pre : ss <+: sv.full
  all : sv.pz = false → ss = sv.full
/-- one that is paused waits for nothing: it has done all that it has begun, or does the last of it -/
def PzOk (ss : List Stp) (m : Mac) : Prop := (m.over < 0 ∧ m.at_ = (ss.length : Int)) ∨ (0 ≤ m.over ∧ m.at_ + 1 = (ss.length : Int))
def rkeys : List Str := ["cap", "have", "refill", "anew", "beat", "machines", "right", "passing", "last"]
structure MAd where
  a : Addr
  dx : Addr
  sv : Sv
structure RAd where
  a : Addr
  dx : Addr
  ml : Addr
  C : Addr
  M : Addr
  mads : List MAd
  hp : Bool
/-- of a shop (sh) the first six, of a run all nine -/
def rfsS (sh : Bool) (A : RAd) (t : LSt) (w : Wld) (r : Rgt) (p anew : Bool) : List (Str × V) := ("cap", V.int w.cap) :: ("have", V.int t.level) :: ("refill", V.int w.refill) :: ("anew", V.bl anew) :: ("beat", V.int t.beat) :: ("machines", V.ref A.ml) :: (match sh with | true => [] | false => [("right", V.str (rgtS r)), ("passing", V.bl p), ("last", ovV t.last)])
abbrev rfs (A : RAd) (t : LSt) (w : Wld) (r : Rgt) (p anew : Bool) : List (Str × V) := rfsS false A t w r p anew
def mcell (M : Addr) (n : Nat) (ad : MAd) (m : Mac) : Addr × HO := (ad.a, .ins M ad.dx (mfs n ad.sv m))
def mcells (M : Addr) : Nat → List MAd → List Mac → List (Addr × HO)
  | n, ad :: as, m :: ms => mcell M n ad m :: mcells M (n + 1) as ms
  | _, _, _ => []
/-- of a machine what the program keeps -/
def mcore (m : Mac) : Int × Int × Int := (m.at_, m.over, m.since)
structure SAt (sh : Bool) (K : PySem.W.Frag) (F0 F : Hp) (A : RAd) (t : LSt) (w : Wld) (r : Rgt) (p anew : Bool) (ex : List (Addr × HO)) : Prop where
  own : Own F0 F ((A.a, .ins A.C A.dx (rfsS sh A t w r p anew)) :: (mcells A.M 0 A.mads t.ms ++ ex))
  ml : F0 A.ml = some (.lst (A.mads.map fun ad => .ref ad.a))
  st : ∀ (k : Nat) (ad : MAd) (ss : List Stp), A.mads[k]? = some ad → w.ms[k]? = some ss → StAt K F0 ad.sv ss
  len1 : A.mads.length = w.ms.length
  len2 : t.ms.length = w.ms.length
  pz : ∀ (k : Nat) (ad : MAd) (m : Mac) (ss : List Stp), A.mads[k]? = some ad → t.ms[k]? = some m → w.ms[k]? = some ss → ad.sv.pz = true → PzOk ss m
  np : A.hp = false → ∀ ad ∈ A.mads, ad.sv.pz = false
  na : anew = true → A.hp = false
abbrev RunAt (K : PySem.W.Frag) (F0 F : Hp) (A : RAd) (t : LSt) (w : Wld) (r : Rgt) (p anew : Bool) (ex : List (Addr × HO)) : Prop := SAt false K F0 F A t w r p anew ex
section
variable {sh : Bool} {S : Type} {J : S → Hp → Hp → Prop} {K : PySem.W.Frag} {σ : L2.St} {s : S} {F0 F : Hp} {A : RAd} {t : LSt} {w : Wld} {r : Rgt} {p anew : Bool} {ex : List (Addr × HO)} {D : L2.St → S → Hp → Prop}
end
end Obr
/-! ### C.m(e, ..): a plain def of a class, called by the class's name -/
namespace Obr
open PySem L2 PySem.Spec PyProof.Rows
/-- the class's def of this name, read off the class -/
structure ClsFn (K : PySem.W.Frag) (C : Addr) (m : Str) (f : Addr) (fd : FuncData) (ps : List Str) : Prop where
  rd : ClX.CRead K C (.type "type")
  vl : ClX.CVal K C (.type "type") m (.ref f) (.ref f)
  kp : PySem.W.keepIn K (.ref f) = true
  a : Binds K fd ps []
def tCFun (C : Addr) (sp : Sp) (E : XK) (ta : TE) (t : TA) : TE := fun σ H Q => ta σ H fun x H1 => x = .ref C ∧ t σ H1 fun vs H2 => sp (vs ++ []) H2 Q E
section
variable {X : Cx} {o e : Expr} {es : List Expr} {m : Str} {pos apos : Pos} {ta : TE} {t : TA} {C f : Addr} {fd : FuncData} {ps : List Str} {k : Nat} {CX : CXT} {sp : Sp} {E : XK}
end
section
variable {S : Type} {J : S → Hp → Hp → Prop} {K : PySem.W.Frag} {σ : L2.St} {s : S} {F : Hp} {R : V → S → Hp → Prop} {ta : TE} {tr : TA} {A : List V → Hp → VK → Prop} {E : XK} {C : Addr}
end
/-- the head's look at such a def -/
def clsFnB (K : PySem.W.Frag) (C : Addr) (m : Str) (f : Addr) : Bool := PySem.W.readsIn K C (.type "type") && (PySem.W.specialIn K (.ref C) "__getattribute__" == some (some (.builtin "type.__getattribute__"))) && (match PySem.W.findCls K (.ref C) (.type "type") m with | some (.val v) => v == .ref f | _ => false)
end Obr
/-! ### own exceptions with a field: BadPlan(beat=n) -/
namespace Obr
open PySem PySem.Spec L2 PyProof.Rows
theorem logT {n : Int} (h : n.natAbs.log2 < 1000) : (Str.ofString (toString n)).length ≤ 1001 := by
  have e := int_text_length_le (k := 1000) (by decide) h
  rw [PySem.ofString_length]
  exact e
theorem log_nat {n : Nat} (h : n ≤ 100000) : ((n : Int)).natAbs.log2 < 1000 := by
  have h1 : ((n : Int)).natAbs = n := Int.natAbs_natCast n
  rw [h1]
  by_cases c : n = 0
  · subst c; decide
  · have := (Nat.log2_lt c (k := 17)).mpr (by omega)
    omega
/-- C.__init__(self, n): the exception's text and its field f -/
def spX (K : PySem.W.Frag) (f : Str) : Sp := fun vs H Q _ => ∃ (a C : Addr) (n : Int), vs = [.ref a, .int n] ∧ OexC K C ∧ H a = some (exo a C none) ∧ PySem.W.findIn K (.ref C) f = some none ∧ n.natAbs.log2 < 1000 ∧
  ∀ dx, H dx = none → dx ≠ a → Q .non (upd (upd H dx (exd dx [(f, .int n)])) a (exo a C (some dx)))
section
variable {P : Program} {w : World} {K : PySem.W.Frag} {mg : Str → Option Value} {base : Heap} {D : Addr}
abbrev s_BadPlan__dot____init__ : Stmt := inClass (top 6) 0
def N_BadPlan___init__ : List Str := ["self", "beat"]
end
/-- self, and one more by its name -/
def self1 {α : Type} : List α → List α → List α
  | [a], [b] => [a, b]
  | _, _ => []
/-- what is told of an own exception class whose __init__(self, n) keeps n in the field f -/
structure XK (P : Program) (w : World) (K : PySem.W.Frag) (mg : Str → Option Value) (base : Heap) (x f : Str) (C : Addr) (fI : Addr) (fd : FuncData) : Prop where
  T : OexC K C
  iC : PySem.W.findIn K (.ref C) "__init__" = some (some (.ref fI))
  tI : PySem.W.typeIn K (.ref fI) = some (.type "function")
  no : PySem.W.findIn K (.ref C) f = some none
  gX : mg x = some (.ref C)
  kb : KBinds K fd ["self", f] [f] self1 self1
  ok : FnOk P w K mg base CX0 1 fI fd ["self", f] (spX K f)
section
variable {S : Type} {J : S → Hp → Hp → Prop} {K : PySem.W.Frag} {σ : L2.St} {s : S} {F : Hp} {C : Addr} {f : Str} {i : Nat} {n : Int}
end
end Obr
/-! ### a target that is a field; enumerate of a tuple -/
namespace Obr
open PySem L2 PySem.Spec PyProof.Rows
section
variable {X : Cx} {pos : Pos}
def gFld (K : PySem.W.Frag) (ta : TE) (f : Str) : TG := fun v σ H Q => ta σ H fun x H1 => ∃ a C dx fs, x = .ref a ∧ H1 a = some (.ins C dx fs) ∧ Cls K C ∧ NoAttr K C f ∧ fs.length < 1000 ∧ Q σ (upd H1 a (.ins C dx (putF f v fs)))
end
section
variable {S : Type} {J : S → Hp → Hp → Prop} {K : PySem.W.Frag} {σ : L2.St} {s : S} {F : Hp} {ta : TE} {x : V} {f : Str} {N : L2.St → S → Hp → Prop}
end
end Obr
namespace PySem
open Sem (wp)
set_option maxHeartbeats 4000000 in
theorem meets_enumerate_newB1 {v : Value} {o : Obj} {H : Heap → Prop} (B : Begins v o H) :
    Meets (Builtin.«enumerate.__new__» ⟨[.type "enumerate", v], []⟩) (fun _ R s => H s.heap ∧
      R (.ok (.ret (.ref (s.heap.push o).objs.size))) { s with heap := (s.heap.push o).push { cls := .type "enumerate", data := .fields #[.none, .bool false, .ref s.heap.objs.size, rawInt 0, .none, .none] } }) :=
  .of_wp fun prog w A R s h => by
    obtain ⟨hp, g, d, tk, os⟩ := s; obtain ⟨h1, h⟩ := h
    have hsub := sub_enumerate
    have q1 : ∀ {A' : Around} {E : Value → Shared → Prop} {Q : Value → Shared → Prop}, Q (.ref hp.objs.size) ⟨hp.push o, g, d, tk, os⟩ → wpAny (model prog w) A' (pyIter v) Q E ⟨hp, g, d, tk, os⟩ :=
      fun q => B.iter prog w _ _ ⟨hp, g, d, tk, os⟩ _ h1 q
    wp_walk using q1
    refine wpAny_stack_any fun st => wpAny_pure ?_
    split
    · rename_i c _ _ _ _ _
      cases (c == Value.type "enumerate")
      · wp_walk using q1
        exact ⟨_, rfl, h⟩
      · wp_walk using q1
        exact ⟨_, rfl, h⟩
    · wp_walk using q1
      exact ⟨_, rfl, h⟩
section
variable {prog : Program} {w : World} {A : Around} {E : Value → Shared → Prop} {s : Shared}
theorem enum_begins1 {v : Value} {o : Obj} {H : Heap → Prop} {Q : Value → Shared → Prop} (B : Begins v o H) (h1 : H s.heap)
    (h : ∀ h', IsEnum h' (s.heap.objs.size + 1) s.heap.objs.size 0 .none → h'.get? s.heap.objs.size = some o → h'.objs.size = s.heap.objs.size + 2 →
      (∀ b o, s.heap.get? b = some o → h'.get? b = some o) → Q (.ref (s.heap.objs.size + 1)) { s with heap := h' }) :
    wpAny (model prog w) A (call (.type "enumerate") [v]) Q E s := by
  refine callType_new F.called_enumerate (by decide) (F.typeCall_enumerate_1 _) (F.newCall_enumerate_1 _) (fun obj => F.args_object_init_2 obj _) F.entry_enumerate_new
    (meets_enumerate_newB1 B) ⟨h1, ?_⟩
  have hz : (s.heap.push o).objs.size = s.heap.objs.size + 1 := Heap.size_push ..
  show _ ∧ _
  rw [hz]
  have he : IsEnum ((s.heap.push o).push { cls := .type "enumerate", data := .fields #[.none, .bool false, .ref s.heap.objs.size, rawInt 0, .none, .none] }) (s.heap.objs.size + 1) s.heap.objs.size 0 .none := by
    have := Heap.get?_push_size (s.heap.push o) (o := { cls := .type "enumerate", data := .fields #[.none, .bool false, .ref s.heap.objs.size, rawInt 0, .none, .none] }) rfl
    rw [hz] at this; exact this
  refine ⟨⟨_, he, rfl⟩, h _ he (Heap.get?_push_of_some _ (Heap.get?_push_size _ B.free)) (by rw [Heap.size_push, hz]) fun b o x => Heap.get?_push_of_some _ (Heap.get?_push_of_some _ x)⟩
end
end PySem
namespace Obr
open PySem L2 PySem.Spec PyProof.Rows
/-- the tuple at a, each item in a new pair -/
def IteT (K : PySem.W.Frag) (a : Addr) : It :=
  ⟨fun i H => ∃ (xs : List V) (x : V), SqT K H a xs ∧ xs[i]? = some x, fun i H v H' => ∃ T x, v = .ref T ∧ H T = none ∧ H' = upd H T (.tup [.int (i : Nat), x]) ∧ ∀ xs, SqT K H a xs → xs[i]? = some x, fun i H => ∃ xs : List V, SqT K H a xs ∧ xs.length ≤ i⟩
theorem turn_enumT {P : Program} {w : World} {K : PySem.W.Frag} {elts : List Expr} {kk : Nat} {tpos : Pos} (a e it : Addr) :
    Turn P w K (.Tuple elts kk tpos) (IteT K a) [e, it] e (fun i h => (∃ old, IsEnum h e it ((i : Nat) : Int) old) ∧ h.IsTupleIter it a i ∧ e ≠ it) where
  mem := by simp
  obj := fun i h st b hb => by
    obtain ⟨⟨old, he⟩, ⟨o, ho, hc, hd⟩, _⟩ := st
    have e' : b = e ∨ b = it := by simpa using hb
    rcases e' with z | z
    · rw [z]; exact ⟨_, he, fun v q => nomatch q⟩
    · rw [z]; exact ⟨o, ho, fun v q => by rw [hd] at q; cases q⟩
  keep := fun i h h' st k => let ⟨⟨old, he⟩, hi, hne⟩ := st; ⟨⟨old, k e (by simp) _ he⟩, hi.at fun o q => k it (by simp) o q, hne⟩
  item := by
    intro X hP hw hK hc i pins s σ H E I hf st hg
    subst hP hw hK
    obtain ⟨⟨old, he⟩, hit, hne⟩ := st
    obtain ⟨xs, x, hq, hx⟩ := hg
    obtain ⟨its, rv, p, hz⟩ := I.tuple hq
    have p' : s.heap.IsTuple a its.toArray := p
    obtain ⟨u, hu, ru⟩ := rv.get hx
    have hel : e < s.heap.objs.size := Heap.lt_size he
    have hil : it < s.heap.objs.size := by obtain ⟨_, q, _⟩ := hit; exact Heap.lt_size q
    have hai : a ≠ it := fun z => by
      obtain ⟨o1, q1, c1, _⟩ := p'
      obtain ⟨o2, q2, c2, _⟩ := hit
      rw [z, q2] at q1
      cases q1
      rw [c1] at c2
      exact absurd c2 (by decide)
    have hae : e ≠ a := fun z => by
      obtain ⟨o1, q1, c1, _⟩ := p'
      have he' : s.heap.get? e = some _ := he
      rw [z, q1] at he'
      cases he'
      exact absurd (show Value.type "enumerate" = Value.type "tuple" from c1) (by decide)
    have hlt : i < its.toArray.size := by
      have := (List.getElem?_eq_some_iff.mp hu).1
      simpa using this
    refine wpAny_pyNext_enum_itemD (Draws.tuple (A := X.A.in1) (I.ok.hd hc) it a hai its.toArray) he ⟨hit, p'⟩ hlt hne (by simp [hne, hae]) fun v h' tk hv ho hst hT hsz hk => ?_
    have hvu : v = u := by
      have hv' : its[i]? = some v := by simpa using hv
      rw [hu] at hv'
      exact (Option.some.inj hv').symm
    subst hvu
    refine ⟨_, rfl, wpAny_letOwnedTupleGo_enum (s := { s with heap := h', toks := tk + 1 }) ho fun h'' he' sb => ?_⟩
    have hT2 : h''.get? s.heap.objs.size = some { cls := .type "tuple", data := .seq #[.int i tk, v] } := (sb.2 _ (Nat.ne_of_gt hel)).trans hT
    have new : ObjOk X.prog X.w (upd H s.heap.objs.size (.tup [.int (i : Nat), x])) h'' s.heap.objs.size (.tup [.int (i : Nat), x]) :=
      ⟨by show 2 ≤ sizeLine; decide, [.int i tk, v], .cons ⟨_, rfl⟩ (.cons ru .nil), ⟨_, hT2, rfl, _, rfl⟩⟩
    have I1 : Inv X pins σ (upd H s.heap.objs.size (.tup [.int (i : Nat), x])) { s with heap := h'', toks := tk + 1 } :=
      I.turnedNew (ch := [e, it]) (fun b ob hb q => (sb.2 b (fun z => hb (by simp [z]))).trans (hk b ob (fun z => hb (by simp [z])) (fun z => hb (by simp [z])) q)) hf (Nat.le_refl _) new
    refine ⟨.ref s.heap.objs.size, _, I1, rfl, ⟨_, x, rfl, I.hok.fresh (Nat.le_refl _), rfl, fun ys hy => by rw [I.tuple_inj hy hq]; exact hx⟩, ⟨⟨v, ?_⟩, hst.1.at fun o q => (sb.2 it (Ne.symm hne)).trans q, hne⟩, fun b hb => ?_⟩
    · have e1 : ((i + 1 : Nat) : Int) = (i : Int) + 1 := by omega
      rw [e1]; exact he'
    · have hb' : b < s.heap.objs.size := by
        have e' : b = e ∨ b = it := by simpa using hb
        rcases e' with z | z
        · rw [z]; exact hel
        · rw [z]; exact hil
      rw [upd_ne (Nat.ne_of_lt hb')]
      exact (hf b hb).1
  done := by
    intro X hP hw hK hc i pins s σ H E I hf st hg
    subst hP hw hK
    obtain ⟨⟨old, he⟩, hit, hne⟩ := st
    obtain ⟨xs, hq, hx⟩ := hg
    obtain ⟨its, rv, p, hz⟩ := I.tuple hq
    have p' : s.heap.IsTuple a its.toArray := p
    obtain ⟨f0, f1, f2, f3, f4, f5⟩ := hf it (by simp)
    have hl := rv.length
    have hT : s.TypeIs (.ref e) "enumerate" := ⟨_, he, rfl⟩
    unfold pyNext
    refine wpAny_bind (wpAny_attempt (wpAny_callSpecial?_slot (name := Str.ofString "__next__") hT F.slot_enumerate_next
      (wpAny_call_entry F.slot_enumerate_next hT F.entry_enumerate_next ?_ (F.args_enumerate_next_1 _))))
    show wpAny _ _ (field (.ref e) 2 >>= _) _ _ _
    refine wpAny_bind (wpAny_field he rfl (x := .ref it) rfl ?_)
    refine wpAny_bind (wpAny_nextOf_tuple_end (I.ok.hd hc) hit p' (by simp; omega) fun h' x he' hx' => ?_)
    obtain ⟨o, ho, hc'⟩ := hx'
    refine wpAny_bind (wpAny_isInstance (T := "StopIteration") (b := true) ⟨o, ho, hc'⟩ isSubtype_stop ?_)
    exact wpAny_pure ⟨rfl, I.turned (t' := s.toks) (fun b o hb q => he' b o hb q) f0 f1 f3 f4 f5⟩
  self := fun A i s Q E st h => let ⟨⟨_, he⟩, _⟩ := st; wpAny_pyIter_enum he h
def iEnumT (K : PySem.W.Frag) (ta : TA) : TI := fun σ H R => ta σ H fun vs H1 => ∃ a xs, vs = [.ref a] ∧ SqT K H1 a xs ∧ R (IteT K a) H1
theorem pi_enumT {X : Cx} {e : Expr} {ta : TA} {p pos tpos : Pos} {elts : List Expr} {kk : Nat} (hg : Gl X "enumerate") (hm : X.mg "enumerate" = none) (ha : PA X [e] ta) (hs : starEach [e] X.env = [(false, eval e X.env)] := by rfl) :
    PI X (.Tuple elts kk tpos) (.Call (.Name "enumerate" p) [e] [] pos) (iEnumT X.K ta) := by
  refine ⟨fun pins s σ H R I h => ?_⟩
  refine Call_ (ld_blt I hg hm boot_enumerate (PyProof.Rows.callWith_type1 (thn (ha.run pos pins s σ H _ I h) fun us s1 ⟨vs, H1, I1, r1, q1⟩ => ?_) hs rfl))
  obtain ⟨a, xs, ex, hq, q⟩ := q1
  subst ex
  cases r1 with
  | cons r rr =>
    cases rr
    cases r
    obtain ⟨its, rv, p', hz⟩ := I1.tuple hq
    have p'' : s1.heap.IsTuple a its.toArray := p'
    refine enum_begins1 (begins_tuple a its.toArray) p'' fun h' he hit hsz hk => wpAny_pyIter_enum he ?_
    have I2 : Inv X pins σ H1 { s1 with heap := h' } := I1.kept (t' := s1.toks) hk
    refine ⟨s1.heap.objs.size + 1, [s1.heap.objs.size + 1, s1.heap.objs.size], _, _, H1, rfl, I2, turn_enumT a (s1.heap.objs.size + 1) s1.heap.objs.size, ⟨⟨.none, he⟩, ⟨_, hit, rfl, rfl⟩, Nat.succ_ne_self _⟩, fun b hb => ?_, q⟩
    have e' : b = s1.heap.objs.size + 1 ∨ b = s1.heap.objs.size := by simpa using hb
    have hle : s1.heap.objs.size ≤ b := by
      rcases e' with z | z
      · rw [z]; exact Nat.le_add_right _ _
      · rw [z]; exact Nat.le_refl _
    exact I1.fpOk hle (I1.hok.fresh hle)
theorem walk_enumT {K : PySem.W.Frag} {a : Addr} {xs : List V} : Walk (IteT K a) xs.length (fun H => SqT K H a xs) (YPair (fun i => some (.int (i : Nat))) (fun i => xs[i]?)) := by
  refine ⟨fun i _ hi q => ⟨xs, xs[i], q, by simp [hi]⟩, fun _ q => ⟨xs, q, Nat.le_refl _⟩, fun i H v H' _ q y => ?_⟩
  obtain ⟨T, x, h1, h2, h3, h4⟩ := y
  exact ⟨T, .int (i : Nat), x, h1, h2, h3, rfl, h4 xs q⟩
section
variable {S : Type} {J : S → Hp → Hp → Prop} {K : PySem.W.Frag} {σ : L2.St} {s : S} {F : Hp} {R : V → S → Hp → Prop} {te : TE} {tt : TT} {t : TS} {g : TG} {ta : TA} {D : En S} {vs : List Nat}
theorem sw_forET (hd : Hid J) (h : AW J ta σ s F fun ws s1 F1 => ∃ (a : Addr) (xs : List V) (Pv : Nat → L2.St → S → Hp → Prop), ws = [.ref a] ∧ SqT K F1 a xs ∧ Pv 0 σ s1 F1 ∧ (∀ i σ s F, i ≤ xs.length → Pv i σ s F → SqT K F a xs) ∧
      (∀ (i : Nat) x σ s F T, xs[i]? = some x → Pv i σ s F → F T = none → GW J g (.ref T) σ s (upd F T (.tup [.int (i : Int), x])) fun σ s F => SW J t { D with nx := Pv (i + 1), ct := Pv (i + 1), bk := D.nx } σ s F) ∧ (∀ σ s F, Pv xs.length σ s F → D.nx σ s F)) :
    SW J (tFor (iEnumT K ta) g t) D σ s F := fun H j D' l =>
  h H j _ fun v s1 F1 H1 j1 ⟨a, xs, Pv, e, l1, h0, hl, hs, hdn⟩ => ⟨a, xs, e, hd.sqT j1 l1, for_it walk_enumT (fun i σ H => ∃ s F, J s F H ∧ Pv i σ s F) ⟨s1, F1, j1, h0⟩
    (fun i σ' H' hi ⟨s', F', j', p⟩ => hd.sqT j' (hl i σ' s' F' hi p))
    (fun i x σ' H' H'' hi ⟨s', F', j', p⟩ ⟨T, y, z, ex, hT, eH, e1, e2⟩ => by
      subst ex eH
      cases e1
      exact hs i z σ' s' F' T e2 p (hd.fresh j' hT) _ (hd.al j' hT) _ fun σ2 s2 F2 H2 j2 k => k H2 j2 _ ⟨fun σ3 s3 F3 H3 j3 k3 => ⟨s3, F3, j3, k3⟩, l.rt, l.nx, fun σ3 s3 F3 H3 j3 k3 => ⟨s3, F3, j3, k3⟩⟩)
    (fun σ' H' ⟨s', F', j', p⟩ => l.nx _ _ _ _ j' (hdn σ' s' F' p))⟩
end
end Obr
/-! a list or a tuple: the way is chosen where what stands in the slot is known -/
namespace Obr
open PySem L2 PyProof.Rows
def wiOr (w1 w2 : TI) : TI := fun σ H R => w1 σ H R ∨ w2 σ H R
def teOr (t1 t2 : TE) : TE := fun σ H Q => t1 σ H Q ∨ t2 σ H Q
section
variable {S : Type} {J : S → Hp → Hp → Prop} {σ : L2.St} {s : S} {F : Hp} {R : V → S → Hp → Prop} {t1 t2 te : TE} {w1 w2 : TI} {g : TG} {tt : TT} {vs : List Nat} {D : En S} {tb : TS}
end
end Obr
namespace Obr
open PySem L2 PySem.Spec PyProof.Rows RZ
/-! ### zip of a tuple and a list -/
def ItM (K : PySem.W.Frag) (a b : Addr) : It where
  go := fun i H => ∃ (us vs : List V) (u v : V), SqT K H a us ∧ SqL K H b vs ∧ us[i]? = some u ∧ vs[i]? = some v
  yld := fun i H r H' => ∃ T u v, r = .ref T ∧ H T = none ∧ H' = upd H T (.tup [u, v]) ∧ (∀ us, SqT K H a us → us[i]? = some u) ∧ ∀ vs, SqL K H b vs → vs[i]? = some v
  stop := fun i H => ∃ us vs : List V, SqT K H a us ∧ SqL K H b vs ∧ i ≤ us.length ∧ i ≤ vs.length ∧ (i = us.length ∨ i = vs.length)
structure StM (z TI TO i1 i2 a b : Addr) (i : Nat) (h : Heap) : Prop where
  zz : IsZip h z TI TO .none
  ti : IsTupOf2 h TI (.ref i1) (.ref i2)
  to : ∃ u v, IsTupOf2 h TO u v
  one : h.IsTupleIter i1 a i
  two : h.IsListIter i2 b i
def iZipM (K : PySem.W.Frag) (ta : TA) : TI := fun σ H R => ta σ H fun vs H1 => ∃ a b xs ys, vs = [.ref a, .ref b] ∧ SqT K H1 a xs ∧ SqL K H1 b ys ∧ R (ItM K a b) H1
section
variable {S : Type} {J : S → Hp → Hp → Prop} {K : PySem.W.Frag} {σ : L2.St} {s : S} {F : Hp} {R : V → S → Hp → Prop} {te : TE} {tt : TT} {g : TG} {ta : TA} {vs : List Nat}
/-- what a comprehension over a zip of xs and ys asks -/
def ZipAsk (J : S → Hp → Hp → Prop) (g : TG) (tt : TT) (te : TE) (vs : List Nat) (σ : L2.St) (xs ys : List V) (R : V → S → Hp → Prop) (s1 : S) (F1 : Hp) (st : Hp → Prop) : Prop :=
  xs.length = ys.length ∧ xs.length ≤ 100000 ∧ ∀ Dl, F1 Dl = none → ∃ Pv : Nat → List V → S → Hp → Prop, Pv 0 [] s1 F1 ∧
      (∀ i acc s F, i ≤ xs.length → F Dl = none → Pv i acc s F → st F ∧ acc.length ≤ i) ∧ (∀ (i : Nat) acc x y s F T, xs[i]? = some x → ys[i]? = some y → F Dl = none → Pv i acc s F → F T = none → T ≠ Dl → LcTurn J Dl g tt te vs σ acc (.ref T) s (upd F T (.tup [x, y])) (Pv (i + 1))) ∧
      (∀ acc s F, F Dl = none → Pv xs.length acc s F → R (.ref Dl) s (upd F Dl (.lst acc)))
end
end Obr
/-! a comprehension over a zip of two lists, or two tuples, of any lengths -/
namespace Obr
open PySem L2 PySem.Spec PyProof.Rows RZ
section
variable {S : Type} {J : S → Hp → Hp → Prop} {K : PySem.W.Frag} {σ : L2.St} {s : S} {F : Hp} {R : V → S → Hp → Prop} {te : TE} {tt : TT} {g : TG} {ta : TA} {vs : List Nat}
def ZipAsk2 (J : S → Hp → Hp → Prop) (g : TG) (tt : TT) (te : TE) (vs : List Nat) (σ : L2.St) (xs ys : List V) (R : V → S → Hp → Prop) (s1 : S) (F1 : Hp) (st : Hp → Prop) : Prop :=
  xs.length ≤ 100000 ∧ ∀ Dl, F1 Dl = none → ∃ Pv : Nat → List V → S → Hp → Prop, Pv 0 [] s1 F1 ∧
      (∀ i acc s F, i ≤ min xs.length ys.length → F Dl = none → Pv i acc s F → st F ∧ acc.length ≤ i) ∧ (∀ (i : Nat) acc x y s F T, xs[i]? = some x → ys[i]? = some y → F Dl = none → Pv i acc s F → F T = none → T ≠ Dl → LcTurn J Dl g tt te vs σ acc (.ref T) s (upd F T (.tup [x, y])) (Pv (i + 1))) ∧
      (∀ acc s F, F Dl = none → Pv (min xs.length ys.length) acc s F → R (.ref Dl) s (upd F Dl (.lst acc)))
end
end Obr
/-! enumerate of a list in a for; comprehensions that read items one by one and change nothing -/
namespace Obr
open PySem L2 PySem.Spec PyProof.Rows RZ
theorem walk_enumL {K : PySem.W.Frag} {a : Addr} {xs : List V} : Walk (Ite K a) xs.length (fun H => SqL K H a xs) (YPair (fun i => some (.int (i : Nat))) (fun i => xs[i]?)) := by
  refine ⟨fun i _ hi q => ⟨xs, xs[i], q, by simp [hi]⟩, fun _ q => ⟨xs, q, Nat.le_refl _⟩, fun i H v H' _ q y => ?_⟩
  obtain ⟨T, x, h1, h2, h3, h4⟩ := y
  exact ⟨T, .int (i : Nat), x, h1, h2, h3, rfl, h4 xs q⟩
section
variable {S : Type} {J : S → Hp → Hp → Prop} {K : PySem.W.Frag} {σ : L2.St} {s : S} {F : Hp} {R : V → S → Hp → Prop} {te tl : TE} {tt : TT} {t : TS} {g : TG} {ta : TA} {D : En S} {vs : List Nat}
/-- a list or a tuple -/
def SqO (K : PySem.W.Frag) (F : Hp) (a : Addr) (xs : List V) : Prop := SqL K F a xs ∨ SqT K F a xs
theorem AW.imp {tr : TA} {R R' : List V → S → Hp → Prop} (h : AW J tr σ s F R) (i : ∀ v s' F', R v s' F' → R' v s' F') : AW J tr σ s F R' := fun H j Q q => h H j Q fun v s' F' H' j' r => q v s' F' H' j' (i _ _ _ r)
end
end Obr
/-! ### words for texts -/
namespace Obr
open PySem L2 PySem.Spec PyProof.Rows
section
variable {S : Type} {J : S → Hp → Hp → Prop} {K : PySem.W.Frag} {σ : L2.St} {s : S} {F : Hp} {R : V → S → Hp → Prop} {te tl to : TE} {tt : TT} {g : TG} {vs : List Nat} {ta : TA}
/-- [e for c in text] -/
theorem ew_lcS (hd : Hid J) (h : EW J tl σ s F fun v s1 F1 => ∃ z : Str, v = .str z ∧ z.cps.size ≤ 100000 ∧ ∀ Dl, F1 Dl = none → ∃ Pv : Nat → List V → S → Hp → Prop, Pv 0 [] s1 F1 ∧
      (∀ (i : Nat) acc s F, i ≤ z.cps.size → F Dl = none → Pv i acc s F → acc.length ≤ i) ∧ (∀ (i : Nat) acc (c : Nat) s F, z.cps[i]? = some c → F Dl = none → Pv i acc s F → LcTurn J Dl g tt te vs σ acc (.str ⟨#[c]⟩) s F (Pv (i + 1))) ∧
      (∀ acc s F, F Dl = none → Pv z.cps.size acc s F → R (.ref Dl) s (upd F Dl (.lst acc)))) : EW J (tLc (iStr tl) g tt te vs) σ s F R := fun H j Q q =>
  h H j _ fun v s1 F1 H1 j1 ⟨z, e, hz, k⟩ => ⟨z, e, fun Dl hD => by
    have fD := hd.fresh j1 hD
    obtain ⟨Pv, h0, hl, hs, hdn⟩ := k Dl fD
    refine lc_it walk_str (fun i H => ∃ acc s F, i ≤ z.cps.size ∧ F Dl = none ∧ J s (upd F Dl (.lst acc)) H ∧ Pv i acc s F) ⟨[], s1, F1, Nat.zero_le _, fD, hd.al j1 hD, h0⟩ (fun _ _ _ _ => trivial) (fun i x H' H'' hi ⟨acc, s', F', hle, f1, j', p⟩ y => ?_) (fun H' ⟨acc, s', F', _, f1, j', p⟩ => q _ _ _ _ j' (hdn acc s' F' f1 p))
    obtain ⟨rfl, c, hc, rfl⟩ := y
    have f3 := hl i acc s' F' hle f1 p
    exact lc_step hd (by omega) (hs i acc c s' F' hc f1 p) f1 j' fun acc s F H fd j p => ⟨acc, s, F, by omega, fd, j, p⟩⟩
/-- [e for i, x in enumerate(list) if t] -/
theorem ew_lcEL (hd : Hid J) (h : AW J ta σ s F fun ws s1 F1 => ∃ a xs, ws = [.ref a] ∧ SqL K F1 a xs ∧ xs.length ≤ 100000 ∧ ∀ Dl, F1 Dl = none → ∃ Pv : Nat → List V → S → Hp → Prop, Pv 0 [] s1 F1 ∧
      (∀ (i : Nat) acc s F, i ≤ xs.length → F Dl = none → Pv i acc s F → SqL K F a xs ∧ acc.length ≤ i) ∧ (∀ (i : Nat) acc x s F T, xs[i]? = some x → F Dl = none → Pv i acc s F → F T = none → T ≠ Dl → LcTurn J Dl g tt te vs σ acc (.ref T) s (upd F T (.tup [.int (i : Int), x])) (Pv (i + 1))) ∧
      (∀ acc s F, F Dl = none → Pv xs.length acc s F → R (.ref Dl) s (upd F Dl (.lst acc)))) : EW J (tLc (iEnum K ta) g tt te vs) σ s F R := fun H j Q q =>
  h H j _ fun v s1 F1 H1 j1 ⟨a, xs, e, l1, hz, k⟩ => ⟨a, xs, e, hd.sqL j1 l1, fun Dl hD => by
    have fD := hd.fresh j1 hD
    obtain ⟨Pv, h0, hl, hs, hdn⟩ := k Dl fD
    refine lc_it walk_enumL (fun i H => ∃ acc s F, i ≤ xs.length ∧ F Dl = none ∧ J s (upd F Dl (.lst acc)) H ∧ Pv i acc s F) ⟨[], s1, F1, Nat.zero_le _, fD, hd.al j1 hD, h0⟩ (fun i H' hi ⟨acc, s', F', _, f1, j', p⟩ => ?_) (fun i x H' H'' hi ⟨acc, s', F', hle, f1, j', p⟩ ⟨T, y, z, ex, hT, eH, e1, e2⟩ => ?_) (fun H' ⟨acc, s', F', _, f1, j', p⟩ => q _ _ _ _ j' (hdn acc s' F' f1 p))
    · refine hd.sqL j' ?_
      obtain ⟨f2, _⟩ := hl i acc s' F' hi f1 p
      exact Ex.sqL (Ex.out (Ex.refl _) f1) f2
    · subst ex eH
      cases e1
      obtain ⟨f2, f3⟩ := hl i acc s' F' hle f1 p
      have hTD := hd.fresh j' hT
      have hne : T ≠ Dl := fun c => by rw [c, upd_same] at hTD; cases hTD
      have hTF : F' T = none := by rw [upd_ne hne] at hTD; exact hTD
      have j2 : J s' (upd (upd F' T (.tup [.int (i : Int), z])) Dl (.lst acc)) (upd H' T (.tup [.int (i : Int), z])) := by
        have j3 := hd.al j' hT (o := .tup [.int (i : Int), z])
        have e : upd (upd F' Dl (.lst acc)) T (.tup [.int (i : Int), z]) = upd (upd F' T (.tup [.int (i : Int), z])) Dl (.lst acc) := by
          funext b
          by_cases c1 : b = T
          · subst c1; rw [upd_same, upd_ne hne, upd_same]
          · by_cases c2 : b = Dl
            · subst c2; rw [upd_ne c1, upd_same, upd_same]
            · rw [upd_ne c1, upd_ne c2, upd_ne c2, upd_ne c1]
        rw [e] at j3
        exact j3
      exact lc_step hd (by omega) (hs i acc z s' F' T e2 f1 p hTF hne) (by rw [upd_ne hne.symm]; exact f1) j2 fun acc s F H fd j p => ⟨acc, s, F, by omega, fd, j, p⟩⟩
/-- a.split(b) -/
theorem ew_split (hd : Hid J) (h : EW J to σ s F fun x s1 F1 => ∃ a : Str, x = .str a ∧ EW J te σ s1 F1 fun y s2 F2 => ∃ b : Str, y = .str b ∧ (b.length == 0) = false ∧ a.length + 2 ≤ sizeLine ∧ ∀ p, F2 p = none → R (.ref p) s2 (upd F2 p (.lst ((Txt.split a b).map V.str)))) :
    EW J (tM1 (fun x xs H Q => ∃ a b, x = .str a ∧ xs = [.str b] ∧ (b.length == 0) = false ∧ a.length + 2 ≤ sizeLine ∧ rNewStrs (Txt.split a b) H Q) to te) σ s F R := fun H j Q q =>
  h H j _ fun x s1 F1 H1 j1 ⟨a, e, k⟩ => ⟨⟨a, e⟩, k H1 j1 _ fun y s2 F2 H2 j2 ⟨b, e2, h1, h2, k2⟩ => ⟨a, b, e, by rw [e2], h1, h2, fun p hp => q _ _ _ _ (hd.al j2 hp) (k2 p (hd.fresh j2 hp))⟩⟩
/-- a.join(ys) -/
theorem ew_join (hd : Hid J) (h : EW J to σ s F fun x s1 F1 => ∃ a : Str, x = .str a ∧ EW J te σ s1 F1 fun y s2 F2 => ∃ (p : Addr) (ys : List Str), y = .ref p ∧ SqL K F2 p (ys.map V.str) ∧ (ys.map (·.length)).sum + ys.length * a.length ≤ 16777216 ∧ R (.str (Txt.join a ys)) s2 F2) :
    EW J (tM1 (fun x xs H Q => ∃ a p, ∃ ys : List Str, x = .str a ∧ xs = [.ref p] ∧ (SqL K H p (ys.map V.str) ∨ SqT K H p (ys.map V.str)) ∧ (ys.map (·.length)).sum + ys.length * a.length ≤ 16777216 ∧ Q (.str (Txt.join a ys)) H) to te) σ s F R := fun H j Q q =>
  h H j _ fun x s1 F1 H1 j1 ⟨a, e, k⟩ => ⟨⟨a, e⟩, k H1 j1 _ fun y s2 F2 H2 j2 ⟨p, ys, e2, h1, h2, k2⟩ => ⟨a, p, ys, e, by rw [e2], .inl (hd.sqL j2 h1), h2, q _ _ _ _ j2 k2⟩⟩
theorem cw_strI {i : Int} (h0 : i.natAbs.log2 < 1920) (h : R (.str (toString i)) s F) : CW J (fun xs H Q => ∃ i : Int, xs = [.int i] ∧ i.natAbs.log2 < 1920 ∧ Q (.str (toString i)) H) [.int i] s F R := fun H j Q q => ⟨i, rfl, h0, q _ _ _ _ j h⟩
theorem cw_intS {a : Str} {n : Int} (h0 : PySem.intText? a = some n) (h1 : a.length ≤ 640) (h : R (.int n) s F) : CW J (fun xs H Q => ∃ a n, xs = [.str a] ∧ PySem.intText? a = some n ∧ a.length ≤ 640 ∧ Q (.int n) H) [.str a] s F R := fun H j Q q => ⟨a, n, rfl, h0, h1, q _ _ _ _ j h⟩
theorem cw_lenStr {a : Str} (h0 : a.length ≤ sizeLine) (h : R (.int a.length) s F) : CW J (fun xs H Q => ∃ z : Str, xs = [.str z] ∧ z.length ≤ sizeLine ∧ Q (.int z.length) H) [.str a] s F R := fun H j Q q => ⟨a, rfl, h0, q _ _ _ _ j h⟩
theorem rw_inSign {c : Nat} {z : Str} (h : R (.bl (decide (c ∈ z.cps.toList))) s F) : RW J (fun x y H Q => ∃ (c : Nat) (z : Str), x = .str ⟨#[c]⟩ ∧ y = .str z ∧ Q (.bl (decide (c ∈ z.cps.toList))) H) (.str ⟨#[c]⟩) (.str z) s F R := fun H j Q q => ⟨c, z, rfl, rfl, q _ _ _ _ j h⟩
theorem rw_ixS {z : Str} {i : Int} {c : Nat} (h0 : z.length ≤ sizeLine) (h1 : atI z.cps.toList i = some c) (h : R (.str ⟨#[c]⟩) s F) : RW J rIxS (.str z) (.int i) s F R := fun H j Q q => ⟨z, i, c, rfl, rfl, h0, h1, q _ _ _ _ j h⟩
/-- a text's parts one behind the other -/
def fmtV : V → Option Str
  | .str y => some y
  | .int i => some (Str.ofString (toString i))
  | _ => none
theorem ew_fmtI {i : Nat} {k : Int} (hv : σ[i]? = some (some (.int k))) (h0 : k.natAbs.log2 < 1920) (h : R (.str (toString k)) s F) : EW J (tFmt (tVar i)) σ s F R := fun H j Q q => ⟨.int k, hv, .inr ⟨k, rfl, h0, q _ _ _ _ j h⟩⟩
/-- what an f-string comes to, its parts one by one -/
def JW (J : S → Hp → Hp → Prop) (ts : List TE) (acc : Str) (σ : L2.St) (s : S) (F : Hp) (R : Str → S → Hp → Prop) : Prop := ∀ H, J s F H → ∀ Q : Str → Hp → Prop, (∀ x s F H, J s F H → R x s F → Q x H) → tJs ts acc σ H Q
theorem jw_nil {acc : Str} {R : Str → S → Hp → Prop} (h : R acc s F) : JW J [] acc σ s F R := fun H j Q q => q _ _ _ _ j h
theorem jw_cons {t : TE} {ts : List TE} {acc : Str} {R : Str → S → Hp → Prop} (h : EW J t σ s F fun x s1 F1 => ∃ y : Str, x = .str y ∧ (acc ++ y).length ≤ sizeLine ∧ JW J ts (acc ++ y) σ s1 F1 R) : JW J (t :: ts) acc σ s F R := fun H j Q q =>
  h H j _ fun x s1 F1 H1 j1 ⟨y, e, hz, k⟩ => ⟨y, e, hz, k H1 j1 Q q⟩
end
end Obr
/-! ### defs that return or raise; exceptions with two fields -/
namespace Obr
open PySem PySem.Spec L2 PyProof.Rows
/-- the promise of a def that returns or raises -/
def LB (A : List V → Hp → VK → (Value → Option Addr → Hp → Prop) → Prop) : Sp := fun vs H Q E => ∃ (J : Unit → Hp → Hp → Prop) (F : Hp) (R : VK) (W : Value → Option Addr → Hp → Prop), Hid J ∧ J () F H ∧ A vs F R W ∧ (∀ v F' H', J () F' H' → R v F' → Q v H') ∧ ∀ cls d F' H', J () F' H' → W cls d F' → E cls d H'
theorem LB.body {J : Unit → Hp → Hp → Prop} {F H : Hp} {R Q : VK} {t : TS} {σ : L2.St} (j : J () F H) (q : ∀ v F' H', J () F' H' → R v F' → Q v H')
    (h : SW J t { nx := fun _ _ F => R .non F, rt := fun v _ F => R v F } σ () F) : t { nx := fun _ H' => Q .non H', rt := Q } σ H :=
  h H j _ ⟨fun _ _ _ _ j k => q _ _ _ j k, fun _ _ _ _ j k => q _ _ _ j k, fun _ _ _ _ _ k => k.elim, fun _ _ _ _ _ k => k.elim⟩
/-- self, and two more by their names -/
def self2 {α : Type} : List α → List α → List α
  | [a], [b, c] => [a, b, c]
  | _, _ => []
/-- C.__init__(self, m, n): the exception's text and its two fields -/
def spX2 (K : PySem.W.Frag) (f1 f2 : Str) : Sp := fun vs H Q _ => ∃ (a C : Addr) (m n : Int), vs = [.ref a, .int m, .int n] ∧ OexC K C ∧ H a = some (exo a C none) ∧ PySem.W.findIn K (.ref C) f1 = some none ∧ PySem.W.findIn K (.ref C) f2 = some none ∧ m.natAbs.log2 < 1000 ∧ n.natAbs.log2 < 1000 ∧
  ∀ dx, H dx = none → dx ≠ a → Q .non (upd (upd H dx (exd dx [(f2, .int n), (f1, .int m)])) a (exo a C (some dx)))
section
variable {S : Type} {J : S → Hp → Hp → Prop} {K : PySem.W.Frag} {σ : L2.St} {s : S} {F : Hp} {R : V → S → Hp → Prop} {tr tk : TA} {A : List V → Hp → VK → (Value → Option Addr → Hp → Prop) → Prop} {E : L2.XK} {C : Addr} {f f1 f2 : Str}
/-- a call that returns or raises -/
theorem ew_callB (hd : Hid J) (h : AW J tr σ s F fun vs s1 F1 => ∃ W : Value → Option Addr → Hp → Prop, A vs F1 (fun v F' => R v s1 F') W ∧ ∀ cls d F' H', J s1 F' H' → W cls d F' → E cls d H') : EW J (tCall (LB A) [] E tr) σ s F R := fun H j Q q =>
  h H j _ fun vs s1 F1 H1 j1 ⟨W, a, k⟩ => by
    show LB A (vs ++ []) H1 Q E
    rw [List.append_nil]
    exact ⟨_, F1, _, W, hd.unit s1, j1, a, fun v F' H' j' r => q _ _ _ _ j' r, k⟩
theorem upd_x {H : Hp} {a dx : Addr} {x : HO} {y z : HO} (ha : H a = none) (hne : dx ≠ a) : upd (del (upd (upd (upd H a y) dx z) a x) a) dx w = upd H dx w := by
  funext b
  by_cases hb : b = dx
  · subst hb
    rw [upd_same, upd_same]
  · rw [upd_ne hb, upd_ne hb]
    by_cases hba : b = a
    · subst hba
      rw [del_same, ha]
    · rw [del_ne hba, upd_ne hba, upd_ne hb, upd_ne hba]
/-- raise C(f=n), n whatever -/
theorem sw_raiseA {W : Value → Option Addr → Hp → Prop} {D : En S} (hd : Hid J) (T : OexC K C) (hno : PySem.W.findIn K (.ref C) f = some none)
    (h : AW J tk σ s F fun zs s1 F1 => ∃ n : Int, zs = [.int n] ∧ n.natAbs.log2 < 1000 ∧ ∀ dx, F1 dx = none → ∀ H', J s1 (upd F1 dx (.xd [(f, .int n)])) H' → W (.ref C) (some dx) H') :
    SW J (fun _ σ H => tMkOK C (spX K f) self1 tk σ H fun cls d H' => W cls d H') D σ s F := fun H j D' _ => by
  refine h H j _ fun zs s1 F1 H1 j1 ⟨n, ez, hlog, k⟩ => ?_
  subst ez
  intro a ha
  refine ⟨a, C, n, rfl, T, upd_same, hno, hlog, fun dx hdx hne => ⟨rfl, dx, [(f, .int n)], upd_same, ?_, ?_, ?_⟩⟩
  · rw [upd_ne hne, upd_same]
  · rw [← hdx, upd_ne hne]
  · rw [upd_x ha hne]
    have hdn : H1 dx = none := by rw [upd_ne hne] at hdx; exact hdx
    exact k dx (hd.fresh j1 hdn) _ (hd.al j1 hdn)
/-- raise C(f1=m, f2=n) -/
theorem sw_raiseX2 {W : Value → Option Addr → Hp → Prop} {D : En S} (hd : Hid J) (T : OexC K C) (hno1 : PySem.W.findIn K (.ref C) f1 = some none) (hno2 : PySem.W.findIn K (.ref C) f2 = some none)
    (h : AW J tk σ s F fun zs s1 F1 => ∃ m n : Int, zs = [.int m, .int n] ∧ m.natAbs.log2 < 1000 ∧ n.natAbs.log2 < 1000 ∧ ∀ dx, F1 dx = none → ∀ H', J s1 (upd F1 dx (.xd [(f2, .int n), (f1, .int m)])) H' → W (.ref C) (some dx) H') :
    SW J (fun _ σ H => tMkOK C (spX2 K f1 f2) self2 tk σ H fun cls d H' => W cls d H') D σ s F := fun H j D' _ => by
  refine h H j _ fun zs s1 F1 H1 j1 ⟨m, n, ez, hl1, hl2, k⟩ => ?_
  subst ez
  intro a ha
  refine ⟨a, C, m, n, rfl, T, upd_same, hno1, hno2, hl1, hl2, fun dx hdx hne => ⟨rfl, dx, [(f2, .int n), (f1, .int m)], upd_same, ?_, ?_, ?_⟩⟩
  · rw [upd_ne hne, upd_same]
  · rw [← hdx, upd_ne hne]
  · rw [upd_x ha hne]
    have hdn : H1 dx = none := by rw [upd_ne hne] at hdx; exact hdx
    exact k dx (hd.fresh j1 hdn) _ (hd.al j1 hdn)
theorem ew_fmtC {k : Int} (h0 : k.natAbs.log2 < 1920) (h : R (.str (toString k)) s F) : EW J (tFmt (tC (.int k))) σ s F R := fun H j Q q => .inr ⟨k, rfl, h0, q _ _ _ _ j h⟩
end
section
variable {P : Program} {w : World} {K : PySem.W.Frag} {mg : Str → Option Value} {base : Heap} {D : Addr}
abbrev s_BadText__dot____init__ : Stmt := inClass (top 10) 0
def N_BadText___init__ : List Str := ["self", "row"]
theorem sc_BadText___init__ : FnScope N_BadText___init__ ["self", "row"] (defScope s_BadText__dot____init__) := ⟨rfl, rfl, rfl, by decide +kernel, rfl, by decide +kernel, by decide +kernel⟩
theorem ok_BadText___init__ {f : Addr} {fd : FuncData} (Fn : Fun K "__init__" "BadText.__init__" s_BadText__dot____init__ f fd) (gBE : mg "BreathError" = some (.ref D)) (rd : ClX.CRead K D (.type "type"))
    (vV : PySem.W.findCls K (.ref D) (.type "type") "__init__" = some (.val (.builtin "ValueError.__init__"))) : FnOk P w K mg base CX0 1 f fd ["self", "row"] (spX K "row") := by
  refine Fn.ok sc_BadText___init__ (fun vs H Q E h => ?_) (fun cdv A outer s H vs Q E hr h => ?_)
  · obtain ⟨a, C, n, rfl, _⟩ := h
    rfl
  · have nd := sc_BadText___init__.nd
    obtain ⟨a, C, n, rfl, T, ha, hno, hlog, q⟩ := h
    have z : (10000 : Nat) ≤ sizeLine := by rw [sizeLine_eq]; decide
    have t1 := logT hlog
    refine ⟨_, (pss_cons (ps_expr (pe_oeinit (pe_glob (v := .ref D) (by rfl) gBE (by rfl)) rd vV (pa_cons (pv 0) (pa_cons (pe_joined (PJ.cons pe_str (PJ.cons (pe_fmt (pv 1)) (PJ.cons pe_str PJ.nil)))) pa_nil)))) (pss_one (ps_ost (pv 0) (pv 1)))), ?_⟩
    have l0 : (Str.empty).length = 0 := rfl
    have lt : ∀ x y : Str, (x ++ y).length = x.length + y.length := fun x y => PySem.Str.length_append x y
    have l1 : (Str.ofString "row ").length ≤ 100 := by decide +kernel
    have l2 : (Str.ofString " can't be read").length ≤ 100 := by decide +kernel
    refine ⟨rfl, V.ref a, rfl, _, rfl, ?_, V.int n, rfl, Or.inr ⟨n, rfl, by omega, _, rfl, ?_, _, rfl, ?_, ⟨a, C, [V.str _], rfl, by simp, T, ha, V.int n, rfl, V.ref a, rfl, a, C, rfl, T, hno, Or.inl ⟨ha, q⟩⟩⟩⟩
    all_goals (simp only [lt, l0]; omega)
abbrev s_BadStep__dot____init__ : Stmt := inClass (top 3) 0
def N_BadStep___init__ : List Str := ["self", "machine", "step"]
theorem sc_BadStep___init__ : FnScope N_BadStep___init__ ["self", "machine", "step"] (defScope s_BadStep__dot____init__) := ⟨rfl, rfl, rfl, by decide +kernel, rfl, by decide +kernel, by decide +kernel⟩
theorem ok_BadStep___init__ {f : Addr} {fd : FuncData} (Fn : Fun K "__init__" "BadStep.__init__" s_BadStep__dot____init__ f fd) (gBE : mg "BreathError" = some (.ref D)) (rd : ClX.CRead K D (.type "type"))
    (vV : PySem.W.findCls K (.ref D) (.type "type") "__init__" = some (.val (.builtin "ValueError.__init__"))) : FnOk P w K mg base CX0 1 f fd ["self", "machine", "step"] (spX2 K "machine" "step") := by
  refine Fn.ok sc_BadStep___init__ (fun vs H Q E h => ?_) (fun cdv A outer s H vs Q E hr h => ?_)
  · obtain ⟨a, C, m, n, rfl, _⟩ := h
    rfl
  · have nd := sc_BadStep___init__.nd
    obtain ⟨a, C, m, n, rfl, T, ha, hno1, hno2, hlog1, hlog2, q⟩ := h
    have z : (10000 : Nat) ≤ sizeLine := by rw [sizeLine_eq]; decide
    have t1 := logT hlog1
    have t2 := logT hlog2
    refine ⟨_, (pss_cons (ps_expr (pe_oeinit (pe_glob (v := .ref D) (by rfl) gBE (by rfl)) rd vV (pa_cons (pv 0) (pa_cons (pe_joined (PJ.cons pe_str (PJ.cons (pe_fmt (pv 1)) (PJ.cons pe_str (PJ.cons (pe_fmt (pv 2)) PJ.nil))))) pa_nil)))) (pss_cons (ps_ost (pv 0) (pv 1)) (pss_one (ps_ost (pv 0) (pv 2))))), ?_⟩
    have l0 : (Str.empty).length = 0 := rfl
    have lt : ∀ x y : Str, (x ++ y).length = x.length + y.length := fun x y => PySem.Str.length_append x y
    have l1 : (Str.ofString "machine ").length ≤ 100 := by decide +kernel
    have l2 : (Str.ofString " can't have such a step ").length ≤ 100 := by decide +kernel
    refine ⟨rfl, V.ref a, rfl, _, rfl, ?_, V.int m, rfl, Or.inr ⟨m, rfl, by omega, _, rfl, ?_, _, rfl, ?_, V.int n, rfl, Or.inr ⟨n, rfl, by omega, _, rfl, ?_, ⟨a, C, [V.str _], rfl, by simp, T, ha, V.int m, rfl, V.ref a, rfl, a, C, rfl, T, hno1, Or.inl ⟨ha, fun dx hdx hne => ⟨V.int n, rfl, V.ref a, rfl, a, C, rfl, T, hno2, Or.inr ⟨dx, [("machine", .int m)], upd_same, ?e1, Nat.le_of_ble_eq_true rfl, ?e2⟩⟩⟩⟩⟩⟩⟩
    case e1 => rw [upd_ne hne, upd_same]
    case e2 =>
      have e : upd (upd (upd H dx (exd dx [("machine", V.int m)])) a (exo a C (some dx))) dx (exd dx [("step", V.int n), ("machine", V.int m)]) = upd (upd H dx (exd dx [("step", V.int n), ("machine", V.int m)])) a (exo a C (some dx)) := by
        funext b
        by_cases c1 : b = dx
        · subst c1; rw [upd_same, upd_ne hne, upd_same]
        · by_cases c2 : b = a
          · subst c2; rw [upd_ne c1, upd_same, upd_same]
          · rw [upd_ne c1, upd_ne c2, upd_ne c1, upd_ne c2, upd_ne c1]
      rw [e]
      exact q dx hdx hne
    all_goals (simp only [lt, l0]; omega)
end
/-- what is told of an own exception class whose __init__(self, m, n) keeps m and n in the fields f1 and f2 -/
structure XK2 (P : Program) (w : World) (K : PySem.W.Frag) (mg : Str → Option Value) (base : Heap) (x f1 f2 : Str) (C : Addr) (fI : Addr) (fd : FuncData) : Prop where
  T : OexC K C
  iC : PySem.W.findIn K (.ref C) "__init__" = some (some (.ref fI))
  tI : PySem.W.typeIn K (.ref fI) = some (.type "function")
  no1 : PySem.W.findIn K (.ref C) f1 = some none
  no2 : PySem.W.findIn K (.ref C) f2 = some none
  gX : mg x = some (.ref C)
  kb : KBinds K fd ["self", f1, f2] [f1, f2] self2 self2
  ok : FnOk P w K mg base CX0 1 fI fd ["self", f1, f2] (spX2 K f1 f2)
end Obr
namespace Obr
open PySem L2 PyProof.Rows
/-! ### what laws share -/
theorem sw_hide {S : Type} {J : S → Hp → Hp → Prop} {t : TS} {σ : L2.St} {s : S} {F : Hp} {h c : Addr} {m : Int} {ns : List Int} {N : L2.St → S → Hp → Prop} {R : V → S → Hp → Prop} (fc : F c = none) (fh : F h = none) (hne : c ≠ h) (m0 : 0 ≤ m) (m1 : m < 2147483647) (hn : ns.length ≤ 63) (hR : ∀ s F, R (.bl true) s F)
    (hw : SW (HJ h c J) t { nx := fun _ _ _ => False, rt := fun v _ _ => v = .bl true } σ s F) : SW J t { nx := N, rt := R } σ s (upd (upd F c (cL ns)) h (hL c m 0)) := fun H j D' l =>
  hw H ⟨_, m, 0, ns, Ex.new (Ex.new (.refl _) fc) (by rw [upd_ne hne.symm]; exact fh), fh, fc, m0, m1, by decide, hn, upd_same, (upd_ne hne).trans upd_same, j⟩ D'
    ⟨fun _ _ _ _ _ k => k.elim, fun v s F H ⟨G, _, _, _, _, _, _, _, _, _, _, _, _, j⟩ k => by subst k; exact l.rt _ s G H j (hR s G), fun _ _ _ _ _ k => k.elim, fun _ _ _ _ _ k => k.elim⟩
end Obr
/-! ### lists of data made turn by turn -/
namespace Obr
open PySem L2 PySem.Spec PyProof.Rows
section
variable {S : Type} {J : S → Hp → Hp → Prop} {K : PySem.W.Frag} {σ : L2.St} {s : S} {F : Hp} {R : V → S → Hp → Prop} {te tl to : TE} {tt : TT} {g : TG} {vs : List Nat} {ta : TA}
theorem dps_strs {ys : List Str} : DpAll K F (ys.map V.str) (ys.map PyData.str) := by
  induction ys with
  | nil => exact .nil
  | cons a t ih => exact .cons (.str a) ih
theorem dps_strs_iff {ys : List Str} {vs : List V} (h : DpAll K F vs (ys.map PyData.str)) : vs = ys.map V.str := by
  induction ys generalizing vs with
  | nil => cases h; rfl
  | cons a t ih => cases h with
    | cons h1 h2 => cases h1; rw [ih h2]; rfl
theorem dps_bls_iff {ys : List Bool} {vs : List V} (h : DpAll K F vs (ys.map PyData.bool)) : vs = ys.map V.bl := by
  induction ys generalizing vs with
  | nil => cases h; rfl
  | cons a t ih => cases h with
    | cons h1 h2 => cases h1; rw [ih h2]; rfl
theorem cw_allN (hd : Hid J) {a : Addr} {bs : List Bool} (l : SqL K F a (bs.map V.bl)) (h : R (.bl (bs.all id)) s F) : CW J (rAll K) [.ref a] s F R := fun H j Q q => ⟨a, bs, rfl, hd.sqL j l, q _ _ _ _ j h⟩
theorem LcTurn.imp' {Dl : Addr} {acc : List V} {x : V} {P1 P2 : List V → S → Hp → Prop} (z : LcTurn J Dl g tt te vs σ acc x s F P1) (h : ∀ acc s F, P1 acc s F → P2 acc s F) : LcTurn J Dl g tt te vs σ acc x s F P2 := by
  unfold LcTurn at z ⊢
  intro H j Q q
  exact z H j Q fun σ2 s2 F2 H2 j2 ⟨y1, y2⟩ => q σ2 s2 F2 H2 j2 ⟨y1, fun H3 j3 Q3 q3 => y2 H3 j3 Q3 fun b s4 F4 H4 j4 ⟨p1, p2⟩ => q3 b s4 F4 H4 j4 ⟨fun hb => (p1 hb).imp fun v s5 F5 w => h _ _ _ w, fun hb => h _ _ _ (p2 hb)⟩⟩
/-- [e for x in list], told as data, the list made on the way -/
theorem ew_lcLe (hd : Hid J) (h : EW J tl σ s F fun v s1 F1 => ∃ (a : Addr) (xs : List V) (ds : List PyData), v = .ref a ∧ ds.length = xs.length ∧ SqL K F1 a xs ∧ xs.length ≤ 100000 ∧
    (∀ (i : Nat) x Dl acc G, xs[i]? = some x → Ex F1 G → G Dl = none → LcTurn J Dl g tt te vs σ acc x s1 G fun acc' s' G' => s' = s1 ∧ Ex G G' ∧ ∃ v d, ds[i]? = some d ∧ acc' = acc ++ [v] ∧ Dp K G' v d) ∧
    (∀ Dl G acc, Ex F1 G → G Dl = some (.lst acc) → DpAll K G acc ds → R (.ref Dl) s1 G)) : EW J (tLc (iList K tl) g tt te vs) σ s F R :=
  ew_lcL hd (h.imp fun v s1 F1 ⟨a, xs, ds, ev, hn, row, hl, turn, k⟩ => by
    subst ev
    refine ⟨a, xs, rfl, row, hl, fun Dl hDl => ⟨fun i acc s' G => s' = s1 ∧ Ex F1 G ∧ DpAll K G acc (ds.take i), ⟨rfl, .refl _, .nil⟩, ?_, ?_, ?_⟩⟩
    · rintro i acc s' G hi hg ⟨rfl, g1, h1⟩
      refine ⟨g1.sqL row, ?_⟩
      rw [dps_len h1]
      exact List.length_take_le _ _
    · rintro i acc x s' G hx hg ⟨rfl, g1, h1⟩
      refine LcTurn.imp' (turn i x Dl acc G hx g1 hg) fun acc' s2 G2 ⟨w1, w2, v', d, w3, w4, w5⟩ => ⟨w1, g1.trans w2, ?_⟩
      rw [w4, List.take_succ, w3]
      exact dps_snoc (dps_ex w2 h1) w5
    · rintro acc s' G hg ⟨rfl, g1, h1⟩
      rw [← hn, List.take_length] at h1
      exact k Dl _ acc (Ex.new g1 hg) upd_same (dps_ex (Ex.new (.refl _) hg) h1))
/-- [e for x in list], told as data -/
theorem ew_lcLd (hd : Hid J) {a : Addr} {xs : List V} (ds : List PyData) (hn : ds.length = xs.length) (h : EW J tl σ s F fun v s1 F1 => v = .ref a ∧ s1 = s ∧ F1 = F) (row : SqL K F a xs) (hl : xs.length ≤ 100000)
    (turn : ∀ (i : Nat) x Dl acc G, xs[i]? = some x → Ex F G → G Dl = none → LcTurn J Dl g tt te vs σ acc x s G fun acc' s' G' => s' = s ∧ Ex G G' ∧ ∃ v d, ds[i]? = some d ∧ acc' = acc ++ [v] ∧ Dp K G' v d)
    (k : ∀ Dl G acc, Ex F G → G Dl = some (.lst acc) → DpAll K G acc ds → R (.ref Dl) s G) : EW J (tLc (iList K tl) g tt te vs) σ s F R :=
  ew_lcL hd (h.imp fun v s1 F1 ⟨ev, es, eF⟩ => by
    subst ev es eF
    refine ⟨a, xs, rfl, row, hl, fun Dl hDl => ⟨fun i acc s' G => s' = s1 ∧ Ex F1 G ∧ DpAll K G acc (ds.take i), ⟨rfl, .refl _, .nil⟩, ?_, ?_, ?_⟩⟩
    · rintro i acc s' G hi hg ⟨rfl, g1, h1⟩
      refine ⟨g1.sqL row, ?_⟩
      rw [dps_len h1]
      exact List.length_take_le _ _
    · rintro i acc x s' G hx hg ⟨rfl, g1, h1⟩
      refine LcTurn.imp' (turn i x Dl acc G hx g1 hg) fun acc' s2 G2 ⟨w1, w2, v', d, w3, w4, w5⟩ => ⟨w1, g1.trans w2, ?_⟩
      rw [w4, List.take_succ, w3]
      exact dps_snoc (dps_ex w2 h1) w5
    · rintro acc s' G hg ⟨rfl, g1, h1⟩
      rw [← hn, List.take_length] at h1
      exact k Dl _ acc (Ex.new g1 hg) upd_same (dps_ex (Ex.new (.refl _) hg) h1))
/-- [e for x in tuple], told as data -/
theorem ew_lcTd (hd : Hid J) {a : Addr} {xs : List V} (ds : List PyData) (hn : ds.length = xs.length) (h : EW J tl σ s F fun v s1 F1 => v = .ref a ∧ s1 = s ∧ F1 = F) (row : SqT K F a xs) (hl : xs.length ≤ 100000)
    (turn : ∀ (i : Nat) x Dl acc G, xs[i]? = some x → Ex F G → G Dl = none → LcTurn J Dl g tt te vs σ acc x s G fun acc' s' G' => s' = s ∧ Ex G G' ∧ ∃ v d, ds[i]? = some d ∧ acc' = acc ++ [v] ∧ Dp K G' v d)
    (k : ∀ Dl G acc, Ex F G → G Dl = some (.lst acc) → DpAll K G acc ds → R (.ref Dl) s G) : EW J (tLc (iTup K tl) g tt te vs) σ s F R :=
  ew_lcT hd (h.imp fun v s1 F1 ⟨ev, es, eF⟩ => by
    subst ev es eF
    refine ⟨a, xs, rfl, row, hl, fun Dl hDl => ⟨fun i acc s' G => s' = s1 ∧ Ex F1 G ∧ DpAll K G acc (ds.take i), ⟨rfl, .refl _, .nil⟩, ?_, ?_, ?_⟩⟩
    · rintro i acc s' G hi hg ⟨rfl, g1, h1⟩
      refine ⟨g1.sqT row, ?_⟩
      rw [dps_len h1]
      exact List.length_take_le _ _
    · rintro i acc x s' G hx hg ⟨rfl, g1, h1⟩
      refine LcTurn.imp' (turn i x Dl acc G hx g1 hg) fun acc' s2 G2 ⟨w1, w2, v', d, w3, w4, w5⟩ => ⟨w1, g1.trans w2, ?_⟩
      rw [w4, List.take_succ, w3]
      exact dps_snoc (dps_ex w2 h1) w5
    · rintro acc s' G hg ⟨rfl, g1, h1⟩
      rw [← hn, List.take_length] at h1
      exact k Dl _ acc (Ex.new g1 hg) upd_same (dps_ex (Ex.new (.refl _) hg) h1))
/-- [e for i, x in enumerate(list) if i > 0], told as data -/
theorem ew_lcELd (hd : Hid J) {a : Addr} {x0 : V} {xs : List V} (ds : List PyData) (hn : ds.length = xs.length) (h : AW J ta σ s F fun ws s1 F1 => ws = [.ref a] ∧ s1 = s ∧ F1 = F) (row : SqL K F a (x0 :: xs)) (hl : xs.length < 100000)
    (none0 : ∀ Dl T G, Ex F G → G Dl = none → G T = none → T ≠ Dl → LcTurn J Dl g tt te vs σ [] (.ref T) s (upd G T (.tup [.int 0, x0])) fun acc' s' G' => s' = s ∧ Ex G G' ∧ acc' = [])
    (turn : ∀ (i : Nat) x Dl T acc G, xs[i]? = some x → Ex F G → G Dl = none → G T = none → T ≠ Dl → LcTurn J Dl g tt te vs σ acc (.ref T) s (upd G T (.tup [.int ((i + 1 : Nat) : Int), x])) fun acc' s' G' => s' = s ∧ Ex G G' ∧ ∃ v d, ds[i]? = some d ∧ acc' = acc ++ [v] ∧ Dp K G' v d)
    (k : ∀ Dl G acc, Ex F G → G Dl = some (.lst acc) → DpAll K G acc ds → R (.ref Dl) s G) : EW J (tLc (iEnum K ta) g tt te vs) σ s F R :=
  ew_lcEL hd (h.imp fun v s1 F1 ⟨ev, es, eF⟩ => by
    subst ev es eF
    refine ⟨a, _, rfl, row, by rw [List.length_cons]; omega, fun Dl hDl => ⟨fun i acc s' G => s' = s1 ∧ Ex F1 G ∧ DpAll K G acc (ds.take (i - 1)), ⟨rfl, .refl _, .nil⟩, ?_, ?_, ?_⟩⟩
    · rintro i acc s' G hi hg ⟨rfl, g1, h1⟩
      refine ⟨g1.sqL row, ?_⟩
      rw [dps_len h1]
      have := List.length_take_le (i - 1) ds
      omega
    · rintro i acc x s' G T hx hg ⟨rfl, g1, h1⟩ hT hne
      match i with
      | 0 =>
        cases h1
        cases hx
        refine LcTurn.imp' (none0 Dl T G g1 hg hT hne) fun acc' s2 G2 ⟨e1, e2, e3⟩ => ⟨e1, g1.trans e2, ?_⟩
        rw [e3]
        exact .nil
      | i + 1 =>
        rw [List.getElem?_cons_succ] at hx
        refine LcTurn.imp' (turn i x Dl T acc G hx g1 hg hT hne) fun acc' s2 G2 ⟨w1, w2, v', d, w3, w4, w5⟩ => ⟨w1, g1.trans w2, ?_⟩
        show DpAll K G2 acc' (ds.take (i + 1))
        rw [w4, List.take_succ, w3]
        exact dps_snoc (dps_ex w2 h1) w5
    · rintro acc s' G hg ⟨rfl, g1, h1⟩
      rw [List.length_cons, Nat.add_sub_cancel, ← hn, List.take_length] at h1
      exact k Dl _ acc (Ex.new g1 hg) upd_same (dps_ex (Ex.new (.refl _) hg) h1))
/-- [e for i, x in enumerate(list) if i > 0], told as data, whatever each turn tells of itself -/
theorem ew_lcELg (hd : Hid J) {a : Addr} {x0 : V} {xs : List V} (ds : List PyData) (hn : ds.length = xs.length) (h : AW J ta σ s F fun ws s1 F1 => ws = [.ref a] ∧ s1 = s ∧ F1 = F) (row : SqL K F a (x0 :: xs)) (hl : xs.length < 100000) (good : Nat → Prop)
    (none0 : ∀ Dl T G, Ex F G → G Dl = none → G T = none → T ≠ Dl → LcTurn J Dl g tt te vs σ [] (.ref T) s (upd G T (.tup [.int 0, x0])) fun acc' s' G' => s' = s ∧ Ex G G' ∧ acc' = [])
    (turn : ∀ (i : Nat) x Dl T acc G, xs[i]? = some x → Ex F G → G Dl = none → G T = none → T ≠ Dl → (∀ j, j < i → good j) → LcTurn J Dl g tt te vs σ acc (.ref T) s (upd G T (.tup [.int ((i + 1 : Nat) : Int), x])) fun acc' s' G' => s' = s ∧ Ex G G' ∧ good i ∧ ∃ v d, ds[i]? = some d ∧ acc' = acc ++ [v] ∧ Dp K G' v d)
    (k : ∀ Dl G acc, Ex F G → G Dl = some (.lst acc) → DpAll K G acc ds → (∀ j, j < xs.length → good j) → R (.ref Dl) s G) : EW J (tLc (iEnum K ta) g tt te vs) σ s F R :=
  ew_lcEL hd (h.imp fun v s1 F1 ⟨ev, es, eF⟩ => by
    subst ev es eF
    refine ⟨a, _, rfl, row, by rw [List.length_cons]; omega, fun Dl hDl => ⟨fun i acc s' G => s' = s1 ∧ Ex F1 G ∧ DpAll K G acc (ds.take (i - 1)) ∧ ∀ j, j + 1 < i → good j, ⟨rfl, .refl _, .nil, fun j hj => absurd hj (by omega)⟩, ?_, ?_, ?_⟩⟩
    · rintro i acc s' G hi hg ⟨rfl, g1, h1, hgd⟩
      refine ⟨g1.sqL row, ?_⟩
      rw [dps_len h1]
      have := List.length_take_le (i - 1) ds
      omega
    · rintro i acc x s' G T hx hg ⟨rfl, g1, h1, hgd⟩ hT hne
      match i with
      | 0 =>
        cases h1
        cases hx
        refine LcTurn.imp' (none0 Dl T G g1 hg hT hne) fun acc' s2 G2 ⟨e1, e2, e3⟩ => ⟨e1, g1.trans e2, ?_, fun j hj => absurd hj (by omega)⟩
        rw [e3]
        exact .nil
      | i + 1 =>
        rw [List.getElem?_cons_succ] at hx
        refine LcTurn.imp' (turn i x Dl T acc G hx g1 hg hT hne fun j hj => hgd j (by omega)) fun acc' s2 G2 ⟨w1, w2, w0, v', d, w3, w4, w5⟩ => ⟨w1, g1.trans w2, ?_, fun j hj => (by
          by_cases c : j = i
          · rw [c]; exact w0
          · exact hgd j (by omega))⟩
        show DpAll K G2 acc' (ds.take (i + 1))
        rw [w4, List.take_succ, w3]
        exact dps_snoc (dps_ex w2 h1) w5
    · rintro acc s' G hg ⟨rfl, g1, h1, hgd⟩
      rw [List.length_cons, Nat.add_sub_cancel, ← hn, List.take_length] at h1
      exact k Dl _ acc (Ex.new g1 hg) upd_same (dps_ex (Ex.new (.refl _) hg) h1) fun j hj => hgd j (by rw [List.length_cons]; omega))
/-- x + y of texts -/
theorem rw_addS {x y : Str} (h0 : x.length + y.length ≤ sizeLine) (h : R (.str (x ++ y)) s F) : RW J (fun x y H Q => ∃ i j, x = .str i ∧ y = .str j ∧ i.length + j.length ≤ sizeLine ∧ Q (.str (i ++ j)) H) (.str x) (.str y) s F R := fun H j Q q => ⟨x, y, rfl, rfl, h0, q _ _ _ _ j h⟩
theorem cut_take9 {xs : List V} {k : Nat} : cutV xs none (some (k : Int)) = xs.take k := by
  unfold cutV
  rw [HT.sIx_nat, HT.sIx_none]
  by_cases c : k ≤ xs.length
  · rw [Nat.min_eq_left c]
    simp
  · rw [Nat.min_eq_right (by omega), List.take_of_length_le (show xs.length ≤ k by omega)]
    simp
theorem cut_all9 {xs : List V} {lo hi : Option Int} (h : HT.sIx xs.length 0 lo = 0 ∧ HT.sIx xs.length xs.length hi = xs.length) : cutV xs lo hi = xs := by
  unfold cutV
  rw [h.1, h.2]
  simp
/-- t[lo:hi], whichever way it comes -/
theorem ew_slT9 (hd : Hid J) {tl th : TO} (h : EW J te σ s F fun x s1 F1 => OW J tl σ s1 F1 fun lo s2 F2 => OW J th σ s2 F2 fun hi s3 F3 => ∃ a xs, x = .ref a ∧ SqT K F3 a xs ∧ ∀ a' F', Ex F3 F' → SqT K F' a' (cutV xs lo hi) → R (.ref a') s3 F') : EW J (tSl (rSlA K) te tl th) σ s F R := fun H j Q q =>
  h H j _ fun x s1 F1 H1 j1 h1 => h1 H1 j1 _ fun lo s2 F2 H2 j2 h2 => h2 H2 j2 _ fun hi s3 F3 H3 j3 ⟨a, xs, e, l, k⟩ =>
    ⟨a, xs, e, hd.sqT j3 l, fun c => q _ _ _ _ j3 (k a F3 (.refl _) (by rw [cut_all9 c]; exact l)), fun c p hp => q _ _ _ _ (hd.al j3 hp) (k p _ (Ex.new (.refl _) (hd.fresh j3 hp)) (SqT.of upd_same))⟩
end
end Obr
namespace Obr
open PySem L2 PyProof.Rows
local macro_rules | `(tactic| walk_at "ob_at") => `(tactic| first
  | assumption
  | exact upd_same
  | (refine Eq.trans (upd_ne ?obn) ?obr; (case obn => walk_at "ob_ne"); (case obr => walk_at "ob_at")))
local macro_rules | `(tactic| walk_at "ob_ne") => `(tactic| first
  | assumption
  | (refine Ne.symm ?obs; (case obs => assumption))
  | (refine' ne_of_none (H := ?_) ?obe ?obh; (case obh => assumption); (case obe => walk_at "ob_at"))
  | (refine Ne.symm ?obs; (case obs => (refine' ne_of_none (H := ?_) ?obe ?obh; (case obh => assumption); (case obe => walk_at "ob_at")))))
local macro_rules | `(tactic| walk_at "ob_fr") => `(tactic| first
  | assumption
  | (refine Eq.trans (upd_ne ?obn) ?obr; (case obn => walk_at "ob_ne"); (case obr => walk_at "ob_fr"))
  | (refine Ex.free (G := ?_) (by assumption) ?obh; (case obh => walk_at "ob_fr")))
local macro_rules | `(tactic| walk_at "ob_ex") => `(tactic| first
  | assumption
  | exact Ex.refl _
  | (refine Ex.out ?obg ?obh; (case obh => assumption); (case obg => walk_at "ob_ex"))
  | (refine Ex.new ?obg ?obh; (case obh => assumption); (case obg => walk_at "ob_ex"))
  | (refine Ex.new ?obg ?obh; (case obh => walk_at "ob_fr"); (case obg => walk_at "ob_ex")))
local macro_rules | `(tactic| walk_at "ob_sq") => `(tactic| first
  | assumption
  | (refine SqL.of ?oba; (case oba => walk_at "ob_at"))
  | (refine Ex.sqT (F := ?_) ?obg ?obh; (case obh => assumption); (case obg => walk_at "ob_ex"))
  | (refine Ex.sqL (F := ?_) ?obg ?obh; (case obh => assumption); (case obg => walk_at "ob_ex"))
  | (refine SqT.of ?oba; (case oba => walk_at "ob_at")))
local macro_rules | `(tactic| walk_at "ob_side") => `(tactic| first | exact rfl | assumption | decide | omega | exact ⟨by decide, by decide, by decide⟩ | exact Or.inr ⟨by decide, by decide⟩ | exact Or.inl ⟨by decide, by decide⟩ | exact wide_div (b := 60) (by first | decide | omega) (by first | decide | omega) (by decide) (by decide))
local macro_rules | `(tactic| walk_at "ob1") => `(tactic| first
  | with_reducible refine sw_seq ?_
  | with_reducible refine sw_asg ?_
  | with_reducible refine sw_ret ?_
  | with_reducible refine sw_par ?_
  | with_reducible refine ⟨_, _, rfl, ?_⟩
  | with_reducible refine sw_drop ?_
  | with_reducible refine sw_if ?_
  | with_reducible refine sw_next ?_
  | with_reducible refine gw_name ?_
  | with_reducible refine gw_subL (by assumption) ?_
  | with_reducible refine gsw_cons ?_
  | with_reducible refine gsw_nil ?_
  | with_reducible refine ew_c ?_
  | ((with_reducible refine' ew_var (v := ?_) ?obv ?_); (case obv => exact rfl))
  | ((with_reducible refine ew_next (by assumption) ?obv ?_); (case obv => exact rfl))
  | ((with_reducible refine ew_world (by assumption) ?obv ?_); (case obv => exact rfl))
  | ((with_reducible refine ew_rule (by assumption) ?obv ?_); (case obv => exact rfl))
  | with_reducible refine ew_op ?_
  | with_reducible refine ew_un ?_
  | with_reducible refine ew_dget (by assumption) ?_
  | with_reducible refine uw_I ?_
  | with_reducible refine ppw_nil ?_
  | with_reducible refine ppw_cons ?_
  | with_reducible refine sw_dput (by assumption) ?_
  | with_reducible refine ew_cb ?_
  | with_reducible refine ew_if ?_
  | with_reducible refine ew_slL (by assumption) ?_
  | with_reducible refine ow_some ?_
  | with_reducible refine ow_none ?_
  | with_reducible refine aw_nil ?_
  | with_reducible refine aw_cons ?_
  | with_reducible refine rw_I0 ?_
  | ((with_reducible refine rw_I ?obc ?_); (case obc => walk_at "ob_side"))
  | with_reducible refine rw_isN ?_
  | with_reducible refine rw_notN ?_
  | ((with_reducible refine rw_eq ?obc ?_); (case obc => exact rfl))
  | ((with_reducible refine rw_ne ?obc ?_); (case obc => exact rfl))
  | with_reducible refine cw_max2 ?_
  | with_reducible refine cw_min2 ?_
  | with_reducible refine tw_test ?_
  | with_reducible refine tw_B ?_
  | with_reducible refine tw_not ?_
  | with_reducible refine tw_truB ?_
  | with_reducible refine tw_and ?_
  | with_reducible refine tw_or ?_
  | with_reducible refine ew_and ?_
  | (refine' Exists.intro _ (And.intro (show V.bl _ = V.bl _ from rfl) ?_))
  | (refine' Exists.intro _ (And.intro (show V.int _ = V.int _ from rfl) ?_))
  | ((with_reducible refine' rw_ixL (v := ?_) (xs := ?_) (by assumption) ?obl ?oba ?_); (case obl => walk_at "ob_sq"); (case oba => first | exact rfl | exact at_zero))
  | ((with_reducible refine' rw_ixT (v := ?_) (xs := ?_) (by assumption) ?obl ?oba ?_); (case obl => walk_at "ob_sq"); (case oba => first | exact rfl | exact at_zero))
  | ((with_reducible refine' ew_lst (by assumption) ?_))
  | ((with_reducible refine' ew_tup (by assumption) ?_)))
local macro_rules | `(tactic| walk_at "ob_len") => `(tactic| first | exact Nat.le_of_ble_eq_true rfl | (simp; done) | omega)
local macro_rules | `(tactic| walk_at "ob") => `(tactic| repeat walk_at "ob1")

/-! ### the checks -/
section
variable {S : Type} {J : S → Hp → Hp → Prop} {σ : L2.St} {s : S} {F : Hp} {ta tb tc : TE} {R : V → S → Hp → Prop}
theorem ew_between (h : EW J ta σ s F fun x s1 F1 => ∃ i, x = .int i ∧ EW J tb σ s1 F1 fun y s2 F2 => ∃ k, y = .int k ∧ i ≤ k ∧ EW J tc σ s2 F2 fun z s3 F3 => ∃ l, z = .int l ∧ k ≤ l ∧ R (.bl true) s3 F3) :
    EW J (tChain (rI0 fun i j => .bl (decide (i ≤ j))) (rI0 fun i j => .bl (decide (i ≤ j))) ta tb tc) σ s F R :=
  ew_chain (h.imp fun x s1 F1 ⟨i, ex, h1⟩ => by
    subst ex
    exact h1.imp fun y s2 F2 ⟨k, ey, hik, h2⟩ => by
      subst ey
      refine rw_I0 ⟨_, rfl, fun _ => h2.imp fun z s3 F3 ⟨l, ez, hkl, r⟩ => ?_, fun hb => ?_⟩
      · subst ez
        refine rw_I0 ?_
        rw [decide_eq_true hkl]
        exact r
      · rw [decide_eq_true hik] at hb
        cases hb)
end
def aIsStep (K : PySem.W.Frag) : List V → Hp → VK → Prop := fun vs F R => ∃ (v : V) (cap : Int) (st : Stp), vs = [v, .int cap] ∧ Dp K F v (stpD st) ∧ StpOk cap st ∧ R (.bl true) F
def aChkSt (K : PySem.W.Frag) : List V → Hp → VK → Prop := fun vs F R => ∃ (v : V) (w : Wld), vs = [v] ∧ Dp K F v (stoD w) ∧ WldOk w ∧ R .non F
def aChkSs (K : PySem.W.Frag) : List V → Hp → VK → Prop := fun vs F R => ∃ (v : V) (n cap : Int) (ss : List Stp), vs = [.int n, v, .int cap] ∧ Dp K F v (macD ss) ∧ ss.length ≤ 6 ∧ (∀ st ∈ ss, StpOk cap st) ∧ ∀ F', Ex F F' → R .non F'
def aChkW (K : PySem.W.Frag) : List V → Hp → VK → Prop := fun vs F R => ∃ (v : V) (w : Wld), vs = [v] ∧ Dp K F v (wldD w) ∧ WldOk w ∧ ∀ F', Ex F F' → R .non F'
def aChkR (K : PySem.W.Frag) : List V → Hp → VK → Prop := fun vs F R => ∃ (v : V) (r : Rgt) (p : Bool), vs = [v] ∧ Dp K F v (rulD r p) ∧ R .non F
def aCount : List V → Hp → VK → Prop := fun vs F R => ∃ a b c : Int, vs = [.int a, .int b, .int c] ∧ b ≤ a ∧ a ≤ c ∧ R .non F
theorem six_all {n k : Nat} (h : n ≤ k) : HT.sIx n 0 none = 0 ∧ HT.sIx n n (some (k : Int)) = n := ⟨HT.sIx_none _ _, by rw [HT.sIx_nat]; exact Nat.min_eq_right h⟩
section
variable {P : Program} {w : World} {K : PySem.W.Frag} {mg : Str → Option Value} {base : Heap} {C M : Addr}

abbrev s_is_step : Stmt := top 20
def N_is_step : List Str := ["step", "cap", "draw", "long", "back"]
theorem sc_is_step : FnScope N_is_step ["step", "cap"] (defScope s_is_step) := ⟨rfl, rfl, rfl, by decide +kernel, rfl, by decide +kernel, by decide +kernel⟩
theorem ok_is_step {f : Addr} {fd : FuncData}  (Fn : Fun K "is_step" "is_step" s_is_step f fd) (B : Blt mg) {tMOST_LONG : Tok} (gMOST_LONG : mg "MOST_LONG" = some (.int 9 tMOST_LONG)) : FnOk P w K mg base CX0 1 f fd ["step", "cap"] (LS (aIsStep K)) := by
  refine Fn.ok sc_is_step (fun vs H Q E h => ?_) (fun cdv A outer s H vs Q E hr h => ?_)
  · obtain ⟨J, F, R, hd, j, h, _⟩ := h
    obtain ⟨v, cap, st, rfl, _⟩ := h
    rfl
  · have nd := sc_is_step.nd
    obtain ⟨J, F, R, hd, j, h, q⟩ := h
    obtain ⟨v, cap, st, rfl, dv, hs, k⟩ := h
    refine ⟨_, (pss_cons (ps_if (pt_cmpR op_ne (pe_callB call_len_seq (by rfl) B.len (by decide +kernel) (pa_cons (pv 0) pa_nil)) pe_int (nomark _)) (pss_one (ps_ret pe_bl)) pss_nil)
      (pss_cons (ps_asg (pv 0) (pg_tup rfl (pgs_cons (pg_name (i := 2) nd rfl (Or.inl rfl)) (pgs_cons (pg_name (i := 3) nd rfl (Or.inl rfl)) (pgs_cons (pg_name (i := 4) nd rfl (Or.inl rfl)) pgs_nil)))))
      (pss_one (ps_ret (pe_and (pe_chain op_le op_le pe_int (pv 2) (pv 1)) (pe_and (pe_chain op_le op_le pe_int (pv 3) (pe_glob (v := .int 9) rfl gMOST_LONG ⟨_, rfl⟩)) (pe_one (pe_chain op_le op_le pe_int (pv 4) (pv 2))))))))), ?_⟩
    refine LS.body j q ?_
    obtain ⟨sa, ys, rfl, ly, dys⟩ := dp_tup dv
    obtain ⟨v1, v2, v3, rfl, d1, d2, d3⟩ := dps3 dys
    cases dp_int d1
    cases dp_int d2
    cases dp_int d3
    refine sw_seq (sw_if (tw_test (ew_op (ew_cb ?_))))
    walk_at "ob"
    refine cw_lenS hd (Or.inr ly) ?_
    walk_at "ob"
    refine ⟨(fun hb => by simp at hb), fun _ => ?_⟩
    walk_at "ob"
    refine gw_tup hd ⟨sa, _, rfl, ly, rfl, gsw_cons (gw_name (gsw_cons (gw_name (gsw_cons (gw_name (gsw_nil ?_))))))⟩
    refine sw_ret (ew_and (ew_between ?_))
    walk_at "ob"
    refine ⟨hs.d0, ?_⟩
    walk_at "ob"
    refine ⟨hs.d1, _, rfl, fun _ => ?_, (fun z => by cases z)⟩
    refine ew_and (ew_between ?_)
    walk_at "ob"
    refine ⟨hs.l0, ?_⟩
    walk_at "ob"
    refine ⟨hs.l1, _, rfl, fun _ => ?_, (fun z => by cases z)⟩
    refine ew_between ?_
    walk_at "ob"
    refine ⟨hs.b0, ?_⟩
    walk_at "ob"
    exact ⟨hs.b1, k⟩

abbrev s_check_store : Stmt := top 18
def N_check_store : List Str := ["store", "cap", "start", "refill"]
theorem sc_check_store : FnScope N_check_store ["store"] (defScope s_check_store) := ⟨rfl, rfl, rfl, by decide +kernel, rfl, by decide +kernel, by decide +kernel⟩
theorem ok_check_store {f : Addr} {fd : FuncData}  (Fn : Fun K "check_store" "check_store" s_check_store f fd) (B : Blt mg) {tMOST_CAP : Tok} (gMOST_CAP : mg "MOST_CAP" = some (.int 99 tMOST_CAP)) {tMOST_REFILL : Tok} (gMOST_REFILL : mg "MOST_REFILL" = some (.int 9 tMOST_REFILL)) : FnOk P w K mg base CX0 1 f fd ["store"] (LS (aChkSt K)) := by
  refine Fn.ok sc_check_store (fun vs H Q E h => ?_) (fun cdv A outer s H vs Q E hr h => ?_)
  · obtain ⟨J, F, R, hd, j, h, _⟩ := h
    obtain ⟨v, w, rfl, _⟩ := h
    rfl
  · have nd := sc_check_store.nd
    obtain ⟨J, F, R, hd, j, h, q⟩ := h
    obtain ⟨v, w, rfl, dv, hw, k⟩ := h
    refine ⟨_, (pss_cons (ps_if (pt_cmpR op_ne (pe_callB call_len_seq (by rfl) B.len (by decide +kernel) (pa_cons (pv 0) pa_nil)) pe_int (nomark _)) (pss_one ps_never) pss_nil)
      (pss_cons (ps_asg (pv 0) (pg_tup rfl (pgs_cons (pg_name (i := 1) nd rfl (Or.inl rfl)) (pgs_cons (pg_name (i := 2) nd rfl (Or.inl rfl)) (pgs_cons (pg_name (i := 3) nd rfl (Or.inl rfl)) pgs_nil)))))
      (pss_cons (ps_if (pt_not (pt_chain op_le op_le pe_int (pv 1) (pe_glob (v := .int 99) rfl gMOST_CAP ⟨_, rfl⟩))) (pss_one ps_never) pss_nil)
      (pss_cons (ps_if (pt_not (pt_chain op_le op_le pe_int (pv 2) (pv 1))) (pss_one ps_never) pss_nil)
      (pss_one (ps_if (pt_not (pt_chain op_le op_le pe_int (pv 3) (pe_glob (v := .int 9) rfl gMOST_REFILL ⟨_, rfl⟩))) (pss_one ps_never) pss_nil)))))), ?_⟩
    refine LS.body j q ?_
    obtain ⟨sa, ys, rfl, ly, dys⟩ := dp_tup dv
    obtain ⟨v1, v2, v3, rfl, d1, d2, d3⟩ := dps3 dys
    cases dp_int d1
    cases dp_int d2
    cases dp_int d3
    refine sw_seq (sw_if (tw_test (ew_op (ew_cb ?_))))
    walk_at "ob"
    refine cw_lenS hd (Or.inr ly) ?_
    walk_at "ob"
    refine ⟨(fun hb => by simp at hb), fun _ => ?_⟩
    walk_at "ob"
    refine gw_tup hd ⟨sa, _, rfl, ly, rfl, gsw_cons (gw_name (gsw_cons (gw_name (gsw_cons (gw_name (gsw_nil ?_))))))⟩
    refine sw_seq (sw_if (tw_not (tw_test (ew_between ?_))))
    walk_at "ob"
    refine ⟨hw.c0, ?_⟩
    walk_at "ob"
    refine ⟨hw.c1, _, rfl, (fun z => by cases z), fun _ => ?_⟩
    walk_at "ob"
    refine ew_between ?_
    walk_at "ob"
    refine ⟨hw.s0, ?_⟩
    walk_at "ob"
    refine ⟨hw.s1, _, rfl, (fun z => by cases z), fun _ => ?_⟩
    walk_at "ob"
    refine ew_between ?_
    walk_at "ob"
    refine ⟨hw.r0, ?_⟩
    walk_at "ob"
    refine ⟨hw.r1, _, rfl, (fun z => by cases z), fun _ => ?_⟩
    walk_at "ob"
    exact k

abbrev s_check_steps : Stmt := top 19
def N_check_steps : List Str := ["number", "steps", "cap", "at", "step"]
theorem sc_check_steps : FnScope N_check_steps ["number", "steps", "cap"] (defScope s_check_steps) := ⟨rfl, rfl, rfl, by decide +kernel, rfl, by decide +kernel, by decide +kernel⟩
theorem ok_check_steps {f : Addr} {fd : FuncData} {f1 : Addr} {fd1 : FuncData} (Fn : Fun K "check_steps" "check_steps" s_check_steps f fd) (B : Blt mg) {tMOST_STEPS : Tok} (gMOST_STEPS : mg "MOST_STEPS" = some (.int 6 tMOST_STEPS)) (Cis_step : Cal K mg "is_step" f1 fd1 ["step", "cap"]) (Gis_step : FnOk P w K mg base CX0 1 f1 fd1 ["step", "cap"] (LS (aIsStep K))) : FnOk P w K mg base CX0 2 f fd ["number", "steps", "cap"] (LS (aChkSs K)) := by
  refine Fn.ok sc_check_steps (fun vs H Q E h => ?_) (fun cdv A outer s H vs Q E hr h => ?_)
  · obtain ⟨J, F, R, hd, j, h, _⟩ := h
    obtain ⟨v, n, cap, ss, rfl, _⟩ := h
    rfl
  · have nd := sc_check_steps.nd
    obtain ⟨J, F, R, hd, j, h, q⟩ := h
    obtain ⟨v, n, cap, ss, rfl, dv, hl6, hs, k⟩ := h
    refine ⟨_, (pss_cons (ps_for PassesOwn.never rfl (pi_enumT (by rfl) B.enumerate (pa_cons (pe_slice sl_tupA (pv 1) po_none (po_some (pe_glob (v := .int 6) rfl gMOST_STEPS ⟨_, rfl⟩))) pa_nil)) (pg_tup rfl (pgs_cons (pg_name (i := 3) nd rfl (Or.inl rfl)) (pgs_cons (pg_name (i := 4) nd rfl (Or.inl rfl)) pgs_nil))) (pss_one (ps_if (pt_not (pt_val (pe_call Gis_step (by exact hr.mono (by decide)) (by rfl) Cis_step.g Cis_step.k Cis_step.a .nil pass0 (pa_cons (pv 4) (pa_cons (pv 2) pa_nil))))) (pss_one ps_never) pss_nil)))
      (pss_one (ps_if (pt_cmpR op_gt (pe_callB call_len_seq (by rfl) B.len (by decide +kernel) (pa_cons (pv 1) pa_nil)) (pe_glob (v := .int 6) rfl gMOST_STEPS ⟨_, rfl⟩) (nomark _)) (pss_one ps_never) pss_nil))), ?_⟩
    refine LS.body j q ?_
    obtain ⟨sa, ys, rfl, ly, dys⟩ := dp_tup dv
    have hyl : ys.length = ss.length := by have := dps_len dys; simpa using this
    refine sw_seq ?_
    refine sw_mid (fun σ _ G => ∃ (x3 x4 : Option V), σ = [some (.int n), some (.ref sa), some (.int cap), x3, x4] ∧ Ex F G) ?_ ?_
    · refine sw_forET hd ?_
      refine aw_cons (ew_slT hd ?_)
      walk_at "ob"
      refine ⟨sa, ys, rfl, ly, fun _ => ?_, fun hn => absurd (six_all (k := 6) (by omega)) hn⟩

      refine aw_nil ⟨sa, ys, fun i σ _ G => ∃ (x3 x4 : Option V), σ = [some (.int n), some (.ref sa), some (.int cap), x3, x4] ∧ Ex F G, rfl, ly, ⟨none, none, rfl, .refl _⟩, ?_, ?_, ?_⟩
      · rintro i σ _ G hi ⟨x3, x4, rfl, g⟩
        exact g.sqT ly
      · rintro i x σ _ G T hi ⟨x3, x4, rfl, g⟩ hT
        refine gw_tup hd ⟨T, _, rfl, SqT.of upd_same, rfl, gsw_cons (gw_name (gsw_cons (gw_name (gsw_nil ?_))))⟩
        obtain ⟨d, hd1, hd2⟩ := dps_get' dys hi
        rw [List.getElem?_map] at hd1
        obtain ⟨st, hst, rfl⟩ := Option.map_eq_some_iff.mp hd1
        refine sw_if (tw_not (tw_B (ew_call hd ?_)))
        walk_at "ob"
        refine ⟨x, cap, st, rfl, dp_ex (Ex.new g hT) hd2, hs st (List.mem_of_getElem? hst), _, rfl, (fun z => by cases z), fun _ => ?_⟩
        exact sw_next ⟨_, _, rfl, Ex.new g hT⟩
      · rintro σ _ G ⟨x3, x4, rfl, g⟩
        exact ⟨_, _, rfl, g⟩
    · rintro σ _ G ⟨x3, x4, rfl, g⟩
      refine sw_if (tw_test (ew_op (ew_cb ?_)))
      walk_at "ob"
      refine cw_lenS hd (Or.inr (g.sqT ly)) ?_
      walk_at "ob"
      refine ⟨(fun hb => absurd (of_decide_eq_true hb) (by omega)), fun _ => ?_⟩
      walk_at "ob"
      exact k _ g

abbrev s_check_world : Stmt := top 17
def N_check_world : List Str := ["world", "store", "machines", "cap", "number", "steps"]
theorem sc_check_world : FnScope N_check_world ["world"] (defScope s_check_world) := ⟨rfl, rfl, rfl, by decide +kernel, rfl, by decide +kernel, by decide +kernel⟩
theorem ok_check_world {f : Addr} {fd : FuncData} {f1 f2 : Addr} {fd1 fd2 : FuncData} (Fn : Fun K "check_world" "check_world" s_check_world f fd) (B : Blt mg) {tMOST_MACHINES : Tok} (gMOST_MACHINES : mg "MOST_MACHINES" = some (.int 5 tMOST_MACHINES)) (Ccheck_store : Cal K mg "check_store" f1 fd1 ["store"]) (Gcheck_store : FnOk P w K mg base CX0 1 f1 fd1 ["store"] (LS (aChkSt K))) (Ccheck_steps : Cal K mg "check_steps" f2 fd2 ["number", "steps", "cap"]) (Gcheck_steps : FnOk P w K mg base CX0 2 f2 fd2 ["number", "steps", "cap"] (LS (aChkSs K))) : FnOk P w K mg base CX0 3 f fd ["world"] (LS (aChkW K)) := by
  refine Fn.ok sc_check_world (fun vs H Q E h => ?_) (fun cdv A outer s H vs Q E hr h => ?_)
  · obtain ⟨J, F, R, hd, j, h, _⟩ := h
    obtain ⟨v, w, rfl, _⟩ := h
    rfl
  · have nd := sc_check_world.nd
    obtain ⟨J, F, R, hd, j, h, q⟩ := h
    obtain ⟨v, w, rfl, dv, hw, k⟩ := h
    refine ⟨_, (pss_cons (ps_asg (pv 0) (pg_tup rfl (pgs_cons (pg_name (i := 1) nd rfl (Or.inl rfl)) (pgs_cons (pg_name (i := 2) nd rfl (Or.inl rfl)) pgs_nil))))
      (pss_cons (ps_expr (pe_call Gcheck_store (by exact hr.mono (by decide)) (by rfl) Ccheck_store.g Ccheck_store.k Ccheck_store.a .nil pass0 (pa_cons (pv 1) pa_nil)))
      (pss_cons (ps_set (i := 3) nd rfl (Or.inl rfl) (pe_ix ix_tup (pv 1) pe_int (fun _ _ => rfl)))
      (pss_cons (ps_for PassesOwn.never rfl (pi_enumT (by rfl) B.enumerate (pa_cons (pe_slice sl_tupA (pv 2) po_none (po_some (pe_glob (v := .int 5) rfl gMOST_MACHINES ⟨_, rfl⟩))) pa_nil)) (pg_tup rfl (pgs_cons (pg_name (i := 4) nd rfl (Or.inl rfl)) (pgs_cons (pg_name (i := 5) nd rfl (Or.inl rfl)) pgs_nil))) (pss_one (ps_expr (pe_call Gcheck_steps (by exact hr.mono (by decide)) (by rfl) Ccheck_steps.g Ccheck_steps.k Ccheck_steps.a .nil pass0 (pa_cons (pv 4) (pa_cons (pv 5) (pa_cons (pv 3) pa_nil)))))))
      (pss_one (ps_if (pt_cmpR op_gt (pe_callB call_len_seq (by rfl) B.len (by decide +kernel) (pa_cons (pv 2) pa_nil)) (pe_glob (v := .int 5) rfl gMOST_MACHINES ⟨_, rfl⟩) (nomark _)) (pss_one ps_never) pss_nil)))))), ?_⟩
    refine LS.body j q ?_
    obtain ⟨wa, xs, rfl, lx, dxs⟩ := dp_tup dv
    obtain ⟨sv, mv, rfl, ds, dm⟩ := dps2 dxs
    obtain ⟨ma, zs, rfl, lz, dzs⟩ := dp_tup dm
    have hzl : zs.length = w.ms.length := by have := dps_len dzs; simpa using this
    have hm5 := hw.m
    obtain ⟨sa, ys, rfl, ly, dys⟩ := dp_tup (show Dp K F sv (.tuple [.int w.cap, .int w.start, .int w.refill]) from ds)
    obtain ⟨v1, v2, v3, rfl, d1, d2, d3⟩ := dps3 dys
    cases dp_int d1
    refine sw_seq (sw_asg ?_)
    walk_at "ob"
    refine gw_tup hd ⟨wa, _, rfl, lx, rfl, gsw_cons (gw_name (gsw_cons (gw_name (gsw_nil ?_))))⟩
    refine sw_seq (sw_drop (ew_call hd ?_))
    walk_at "ob"
    refine ⟨.ref sa, w, rfl, ds, hw, ?_⟩
    refine sw_seq (sw_asg (ew_op ?_))
    walk_at "ob"
    refine sw_mid (fun σ _ G => ∃ (x4 x5 : Option V), σ = [some (.ref wa), some (.ref sa), some (.ref ma), some (.int w.cap), x4, x5] ∧ Ex F G) ?_ ?_
    · refine sw_forET hd ?_
      refine aw_cons (ew_slT hd ?_)
      walk_at "ob"
      refine ⟨ma, zs, rfl, lz, fun _ => ?_, fun hn => absurd (six_all (k := 5) (by omega)) hn⟩

      refine aw_nil ⟨ma, zs, fun i σ _ G => ∃ (x4 x5 : Option V), σ = [some (.ref wa), some (.ref sa), some (.ref ma), some (.int w.cap), x4, x5] ∧ Ex F G, rfl, lz, ⟨none, none, rfl, .refl _⟩, ?_, ?_, ?_⟩
      · rintro i σ _ G hi ⟨x4, x5, rfl, g⟩
        exact g.sqT lz
      · rintro i x σ _ G T hi ⟨x4, x5, rfl, g⟩ hT
        refine gw_tup hd ⟨T, _, rfl, SqT.of upd_same, rfl, gsw_cons (gw_name (gsw_cons (gw_name (gsw_nil ?_))))⟩
        obtain ⟨d, hd1, hd2⟩ := dps_get' dzs hi
        rw [List.getElem?_map] at hd1
        obtain ⟨ss, hss, rfl⟩ := Option.map_eq_some_iff.mp hd1
        refine sw_drop (ew_call hd ?_)
        walk_at "ob"
        refine ⟨x, i, w.cap, ss, rfl, dp_ex (Ex.new g hT) hd2, hw.n ss (List.mem_of_getElem? hss), hw.st ss (List.mem_of_getElem? hss), fun F' g2 => ?_⟩
        exact ⟨_, _, rfl, (Ex.new g hT).trans g2⟩
      · rintro σ _ G ⟨x4, x5, rfl, g⟩
        exact ⟨_, _, rfl, g⟩
    · rintro σ _ G ⟨x4, x5, rfl, g⟩
      refine sw_if (tw_test (ew_op (ew_cb ?_)))
      walk_at "ob"
      refine cw_lenS hd (Or.inr (g.sqT lz)) ?_
      walk_at "ob"
      refine ⟨(fun hb => absurd (of_decide_eq_true hb) (by omega)), fun _ => ?_⟩
      walk_at "ob"
      exact k _ g
end
end Obr
namespace Obr
open PySem PySem.Spec L2 PyProof.Rows
local macro_rules | `(tactic| walk_at "ob_at") => `(tactic| first
  | assumption
  | exact upd_same
  | (refine Eq.trans (upd_ne ?obn) ?obr; (case obn => walk_at "ob_ne"); (case obr => walk_at "ob_at")))
local macro_rules | `(tactic| walk_at "ob_ne") => `(tactic| first
  | assumption
  | (refine Ne.symm ?obs; (case obs => assumption))
  | (refine' ne_of_none (H := ?_) ?obe ?obh; (case obh => assumption); (case obe => walk_at "ob_at"))
  | (refine Ne.symm ?obs; (case obs => (refine' ne_of_none (H := ?_) ?obe ?obh; (case obh => assumption); (case obe => walk_at "ob_at")))))
local macro_rules | `(tactic| walk_at "ob_fr") => `(tactic| first
  | assumption
  | (refine Eq.trans (upd_ne ?obn) ?obr; (case obn => walk_at "ob_ne"); (case obr => walk_at "ob_fr"))
  | (refine Ex.free (G := ?_) (by assumption) ?obh; (case obh => walk_at "ob_fr")))
local macro_rules | `(tactic| walk_at "ob_ex") => `(tactic| first
  | assumption
  | exact Ex.refl _
  | (refine Ex.out ?obg ?obh; (case obh => assumption); (case obg => walk_at "ob_ex"))
  | (refine Ex.new ?obg ?obh; (case obh => assumption); (case obg => walk_at "ob_ex"))
  | (refine Ex.new ?obg ?obh; (case obh => walk_at "ob_fr"); (case obg => walk_at "ob_ex")))
local macro_rules | `(tactic| walk_at "ob_sq") => `(tactic| first
  | assumption
  | (refine SqL.of ?oba; (case oba => walk_at "ob_at"))
  | (refine Ex.sqT (F := ?_) ?obg ?obh; (case obh => assumption); (case obg => walk_at "ob_ex"))
  | (refine Ex.sqL (F := ?_) ?obg ?obh; (case obh => assumption); (case obg => walk_at "ob_ex"))
  | (refine SqT.of ?oba; (case oba => walk_at "ob_at")))
local macro_rules | `(tactic| walk_at "ob_side") => `(tactic| first | exact rfl | assumption | decide | omega | exact ⟨by decide, by decide, by decide⟩ | exact Or.inr ⟨by decide, by decide⟩ | exact Or.inl ⟨by decide, by decide⟩ | exact wide_div (b := 60) (by first | decide | omega) (by first | decide | omega) (by decide) (by decide))
local macro_rules | `(tactic| walk_at "ob1") => `(tactic| first
  | with_reducible refine sw_seq ?_
  | with_reducible refine sw_asg ?_
  | with_reducible refine sw_ret ?_
  | with_reducible refine sw_par ?_
  | with_reducible refine ⟨_, _, rfl, ?_⟩
  | with_reducible refine sw_drop ?_
  | with_reducible refine sw_if ?_
  | with_reducible refine sw_next ?_
  | with_reducible refine gw_name ?_
  | with_reducible refine gw_subL (by assumption) ?_
  | with_reducible refine gsw_cons ?_
  | with_reducible refine gsw_nil ?_
  | with_reducible refine ew_c ?_
  | ((with_reducible refine' ew_var (v := ?_) ?obv ?_); (case obv => exact rfl))
  | ((with_reducible refine ew_next (by assumption) ?obv ?_); (case obv => exact rfl))
  | ((with_reducible refine ew_world (by assumption) ?obv ?_); (case obv => exact rfl))
  | ((with_reducible refine ew_rule (by assumption) ?obv ?_); (case obv => exact rfl))
  | with_reducible refine ew_op ?_
  | with_reducible refine ew_un ?_
  | with_reducible refine ew_dget (by assumption) ?_
  | with_reducible refine uw_I ?_
  | with_reducible refine ppw_nil ?_
  | with_reducible refine ppw_cons ?_
  | with_reducible refine sw_dput (by assumption) ?_
  | with_reducible refine ew_cb ?_
  | with_reducible refine ew_if ?_
  | with_reducible refine ew_slL (by assumption) ?_
  | with_reducible refine ow_some ?_
  | with_reducible refine ow_none ?_
  | with_reducible refine aw_nil ?_
  | with_reducible refine aw_cons ?_
  | with_reducible refine rw_I0 ?_
  | ((with_reducible refine rw_I ?obc ?_); (case obc => walk_at "ob_side"))
  | with_reducible refine rw_isN ?_
  | with_reducible refine rw_notN ?_
  | ((with_reducible refine rw_eq ?obc ?_); (case obc => exact rfl))
  | ((with_reducible refine rw_ne ?obc ?_); (case obc => exact rfl))
  | with_reducible refine cw_max2 ?_
  | with_reducible refine cw_min2 ?_
  | with_reducible refine tw_test ?_
  | with_reducible refine tw_B ?_
  | with_reducible refine tw_not ?_
  | with_reducible refine tw_truB ?_
  | with_reducible refine tw_and ?_
  | with_reducible refine tw_or ?_
  | with_reducible refine ew_and ?_
  | (refine' Exists.intro _ (And.intro (show V.bl _ = V.bl _ from rfl) ?_))
  | (refine' Exists.intro _ (And.intro (show V.int _ = V.int _ from rfl) ?_))
  | ((with_reducible refine' rw_ixL (v := ?_) (xs := ?_) (by assumption) ?obl ?oba ?_); (case obl => walk_at "ob_sq"); (case oba => first | exact rfl | exact at_zero))
  | ((with_reducible refine' rw_ixT (v := ?_) (xs := ?_) (by assumption) ?obl ?oba ?_); (case obl => walk_at "ob_sq"); (case oba => first | exact rfl | exact at_zero))
  | ((with_reducible refine' ew_lst (by assumption) ?_))
  | ((with_reducible refine' ew_tup (by assumption) ?_)))
local macro_rules | `(tactic| walk_at "ob_len") => `(tactic| first | exact Nat.le_of_ble_eq_true rfl | (simp; done) | omega)
local macro_rules | `(tactic| walk_at "ob") => `(tactic| repeat walk_at "ob1")

abbrev WK := Value → Option Addr → Hp → Prop
def aIsStepT (K : PySem.W.Frag) : List V → Hp → VK → Prop := fun vs F R => ∃ (v : V) (cap : Int) (st : Stp), vs = [v, .int cap] ∧ Dp K F v (stpD st) ∧ R (.bl (stepB cap st)) F
def aChkStB (K : PySem.W.Frag) (cS : Addr) : List V → Hp → VK → WK → Prop := fun vs F R W => ∃ (v : V) (c s f : Int), vs = [v] ∧ Dp K F v (.tuple [.int c, .int s, .int f]) ∧ Two c ∧ Two s ∧ Two f ∧ (storeB c s f = true → R .non F) ∧ (storeB c s f = false → ∀ F', Ex F F' → W (.ref cS) none F')
def aChkSsB (K : PySem.W.Frag) (cP : Addr) : List V → Hp → VK → WK → Prop := fun vs F R W => ∃ (v : V) (n cap : Int) (ss : List Stp), vs = [.int n, v, .int cap] ∧ Dp K F v (macD ss) ∧ n.natAbs.log2 < 1000 ∧ (badAt cap 0 ss = none → ∀ F', Ex F F' → R .non F') ∧ ∀ j, badAt cap 0 ss = some j → ∀ dx G, Ex F G → G dx = none → W (.ref cP) (some dx) (upd G dx (.xd [("step", .int (j : Int)), ("machine", .int n)]))
def aChkWB (K : PySem.W.Frag) (cS cP : Addr) : List V → Hp → VK → WK → Prop := fun vs F R W => ∃ (v : V) (w : Wld), vs = [v] ∧ Dp K F v (wldD w) ∧ Two w.cap ∧ Two w.start ∧ Two w.refill ∧ (storeB w.cap w.start w.refill = true → badMs w.cap 0 w.ms = none → ∀ F', Ex F F' → R .non F') ∧ (storeB w.cap w.start w.refill = false → ∀ F', Ex F F' → W (.ref cS) none F') ∧
  (storeB w.cap w.start w.refill = true → ∀ k j, badMs w.cap 0 w.ms = some (k, j) → ∀ dx G, Ex F G → G dx = none → W (.ref cP) (some dx) (upd G dx (.xd [("step", .int (j : Int)), ("machine", .int (k : Int))])))
theorem log_twoX {i : Int} (h : Two i) : i.natAbs.log2 < 1920 := by
  have h1 : i.natAbs ≤ 99 := by have := h.1; have := h.2; omega
  have : i.natAbs < 2 ^ 1920 := Nat.lt_of_le_of_lt h1 (by decide +kernel)
  by_cases c : i.natAbs = 0
  · rw [c]; decide +kernel
  · exact (Nat.log2_lt c).mpr this
section
variable {S : Type} {J : S → Hp → Hp → Prop} {K : PySem.W.Frag} {σ : L2.St} {s : S} {F : Hp} {ta tb tc te : TE} {R : V → S → Hp → Prop} {E : L2.XK} {C : Addr}
/-- l <= x <= u, of numbers that stand there -/
theorem ew_rngV {a b c : Int} (h1 : EW J ta σ s F fun x s1 F1 => x = .int a ∧ s1 = s ∧ F1 = F) (h2 : EW J tb σ s F fun x s1 F1 => x = .int b ∧ s1 = s ∧ F1 = F) (h3 : EW J tc σ s F fun x s1 F1 => x = .int c ∧ s1 = s ∧ F1 = F) (k : R (.bl (decide (a ≤ b) && decide (b ≤ c))) s F) :
    EW J (tChain (rI0 fun i j => .bl (decide (i ≤ j))) (rI0 fun i j => .bl (decide (i ≤ j))) ta tb tc) σ s F R :=
  ew_chain (h1.imp fun x s1 F1 ⟨ex, es, eF⟩ => by
    subst ex es eF
    exact h2.imp fun y s2 F2 ⟨ey, es, eF⟩ => by
      subst ey es eF
      refine rw_I0 ⟨_, rfl, fun hb => h3.imp fun z s3 F3 ⟨ez, es, eF⟩ => ?_, fun hb => ?_⟩
      · subst ez es eF
        rw [hb, Bool.true_and] at k
        exact rw_I0 k
      · rw [hb, Bool.false_and] at k
        exact k)
theorem sw_raiseJ {ts : List TE} {D : En S} (h : JW J ts Str.empty σ s F fun _ s1 F1 => ∀ H1, J s1 F1 H1 → E (.ref C) none H1) : SW J (fun _ σ H => tJs ts Str.empty σ H fun out H1 => (fun x H1 => (fun cls d H' => E cls d H') (Value.ref C) none H1) (V.str out) H1) D σ s F := fun H j D' _ => h H j _ fun _ _ _ H1 j1 k => k H1 j1
end
theorem lenA (x y : Str) : (x ++ y).length = x.length + y.length := PySem.Str.length_append x y
theorem two_len {i : Int} (h : Two i) : ((toString i : Str)).length ≤ 2 := (numS_is h).2.2.1
section
variable {P : Program} {w : World} {K : PySem.W.Frag} {mg : Str → Option Value} {base : Heap} {cBadStore cBadStep fBadStep : Addr} {fdBadStep : FuncData}

theorem okT_is_step {f : Addr} {fd : FuncData}  (Fn : Fun K "is_step" "is_step" s_is_step f fd) (B : Blt mg) {tMOST_LONG : Tok} (gMOST_LONG : mg "MOST_LONG" = some (.int 9 tMOST_LONG)) : FnOk P w K mg base CX0 1 f fd ["step", "cap"] (LS (aIsStepT K)) := by
  refine Fn.ok sc_is_step (fun vs H Q E h => ?_) (fun cdv A outer s H vs Q E hr h => ?_)
  · obtain ⟨J, F, R, hd, j, h, _⟩ := h
    obtain ⟨v, cap, st, rfl, _⟩ := h
    rfl
  · have nd := sc_is_step.nd
    obtain ⟨J, F, R, hd, j, h, q⟩ := h
    obtain ⟨v, cap, st, rfl, dv, k⟩ := h
    refine ⟨_, (pss_cons (ps_if (pt_cmpR op_ne (pe_callB call_len_seq (by rfl) B.len (by decide +kernel) (pa_cons (pv 0) pa_nil)) pe_int (nomark _)) (pss_one (ps_ret pe_bl)) pss_nil)
      (pss_cons (ps_asg (pv 0) (pg_tup rfl (pgs_cons (pg_name (i := 2) nd rfl (Or.inl rfl)) (pgs_cons (pg_name (i := 3) nd rfl (Or.inl rfl)) (pgs_cons (pg_name (i := 4) nd rfl (Or.inl rfl)) pgs_nil)))))
      (pss_one (ps_ret (pe_and (pe_chain op_le op_le pe_int (pv 2) (pv 1)) (pe_and (pe_chain op_le op_le pe_int (pv 3) (pe_glob (v := .int 9) rfl gMOST_LONG ⟨_, rfl⟩)) (pe_one (pe_chain op_le op_le pe_int (pv 4) (pv 2))))))))), ?_⟩
    refine LS.body j q ?_
    obtain ⟨sa, ys, rfl, ly, dys⟩ := dp_tup dv
    obtain ⟨v1, v2, v3, rfl, d1, d2, d3⟩ := dps3 dys
    cases dp_int d1
    cases dp_int d2
    cases dp_int d3
    refine sw_seq (sw_if (tw_test (ew_op (ew_cb ?_))))
    walk_at "ob"
    refine cw_lenS hd (Or.inr ly) ?_
    walk_at "ob"
    refine ⟨(fun hb => by simp at hb), fun _ => ?_⟩
    walk_at "ob"
    refine gw_tup hd ⟨sa, _, rfl, ly, rfl, gsw_cons (gw_name (gsw_cons (gw_name (gsw_cons (gw_name (gsw_nil ?_))))))⟩
    unfold stepB at k
    refine sw_ret (ew_and (ew_rngV (ew_c ⟨rfl, rfl, rfl⟩) (ew_var rfl ⟨rfl, rfl, rfl⟩) (ew_var rfl ⟨rfl, rfl, rfl⟩) ⟨_, rfl, fun h1 => ?_, fun h1 => ?_⟩))
    · rw [h1, Bool.true_and] at k
      refine ew_and (ew_rngV (ew_c ⟨rfl, rfl, rfl⟩) (ew_var rfl ⟨rfl, rfl, rfl⟩) (ew_c ⟨rfl, rfl, rfl⟩) ⟨_, rfl, fun h2 => ?_, fun h2 => ?_⟩)
      · rw [h2, Bool.true_and] at k
        exact ew_rngV (ew_c ⟨rfl, rfl, rfl⟩) (ew_var rfl ⟨rfl, rfl, rfl⟩) (ew_var rfl ⟨rfl, rfl, rfl⟩) k
      · rw [h2, Bool.false_and] at k
        exact k
    · rw [h1, Bool.false_and] at k
      exact k

theorem okB_check_store {f : Addr} {fd : FuncData}  (Fn : Fun K "check_store" "check_store" s_check_store f fd) (B : Blt mg) {tMOST_CAP : Tok} (gMOST_CAP : mg "MOST_CAP" = some (.int 99 tMOST_CAP)) {tMOST_REFILL : Tok} (gMOST_REFILL : mg "MOST_REFILL" = some (.int 9 tMOST_REFILL)) (XBadStore : XF K mg "BadStore" cBadStore) : FnOk P w K mg base (L2.CX P w) 1 f fd ["store"] (LB (aChkStB K cBadStore)) := by
  refine Fn.okX sc_check_store (fun vs H Q E h => ?_) (fun cdv A outer s H vs Q E hr h => ?_)
  · obtain ⟨J, F, R, W, hd, j, h, _⟩ := h
    obtain ⟨v, c, s0, f0, rfl, _⟩ := h
    rfl
  · have nd := sc_check_store.nd
    obtain ⟨J, F, R, W, hd, j, h, q, qW⟩ := h
    obtain ⟨v, c, s0, f0, rfl, dv, tc, ts, tf, k, kW⟩ := h
    refine ⟨_, (pss_cons (ps_if (pt_cmpR op_ne (pe_callB call_len_seq (by rfl) B.len (by decide +kernel) (pa_cons (pv 0) pa_nil)) pe_int (nomark _)) (pss_one (ps_raise rfl (takes_of rfl rfl rfl rfl) (SkE.pmk_own1 PySem.F.excBase_ValueError XBadStore.xF XBadStore.gF XBadStore.kF (raises_own XBadStore.bF XBadStore.tF) rfl pe_str))) pss_nil)
      (pss_cons (ps_asg (pv 0) (pg_tup rfl (pgs_cons (pg_name (i := 1) nd rfl (Or.inl rfl)) (pgs_cons (pg_name (i := 2) nd rfl (Or.inl rfl)) (pgs_cons (pg_name (i := 3) nd rfl (Or.inl rfl)) pgs_nil)))))
      (pss_cons (ps_if (pt_not (pt_chain op_le op_le pe_int (pv 1) (pe_glob (v := .int 99) rfl gMOST_CAP ⟨_, rfl⟩))) (pss_one (ps_raise rfl (takes_of rfl rfl rfl rfl) (SkE.pmk_own1 PySem.F.excBase_ValueError XBadStore.xF XBadStore.gF XBadStore.kF (raises_own XBadStore.bF XBadStore.tF) rfl (pe_joined (PJ.cons pe_str (PJ.cons (pe_fmt (pv 1)) (PJ.cons pe_str (PJ.cons (pe_fmt (pe_glob (v := .int 99) rfl gMOST_CAP ⟨_, rfl⟩)) PJ.nil)))))))) pss_nil)
      (pss_cons (ps_if (pt_not (pt_chain op_le op_le pe_int (pv 2) (pv 1))) (pss_one (ps_raise rfl (takes_of rfl rfl rfl rfl) (SkE.pmk_own1 PySem.F.excBase_ValueError XBadStore.xF XBadStore.gF XBadStore.kF (raises_own XBadStore.bF XBadStore.tF) rfl (pe_joined (PJ.cons pe_str (PJ.cons (pe_fmt (pv 2)) (PJ.cons pe_str (PJ.cons (pe_fmt (pv 1)) PJ.nil)))))))) pss_nil)
      (pss_one (ps_if (pt_not (pt_chain op_le op_le pe_int (pv 3) (pe_glob (v := .int 9) rfl gMOST_REFILL ⟨_, rfl⟩))) (pss_one (ps_raise rfl (takes_of rfl rfl rfl rfl) (SkE.pmk_own1 PySem.F.excBase_ValueError XBadStore.xF XBadStore.gF XBadStore.kF (raises_own XBadStore.bF XBadStore.tF) rfl (pe_joined (PJ.cons pe_str (PJ.cons (pe_fmt (pv 3)) (PJ.cons pe_str (PJ.cons (pe_fmt (pe_glob (v := .int 9) rfl gMOST_REFILL ⟨_, rfl⟩)) PJ.nil)))))))) pss_nil)))))), ?_⟩
    refine LB.body j q ?_
    obtain ⟨sa, ys, rfl, ly, dys⟩ := dp_tup dv
    obtain ⟨v1, v2, v3, rfl, d1, d2, d3⟩ := dps3 dys
    cases dp_int d1
    cases dp_int d2
    cases dp_int d3
    refine sw_seq (sw_if (tw_test (ew_op (ew_cb ?_))))
    walk_at "ob"
    refine cw_lenS hd (Or.inr ly) ?_
    walk_at "ob"
    refine ⟨(fun hb => by simp at hb), fun _ => ?_⟩
    walk_at "ob"
    refine gw_tup hd ⟨sa, _, rfl, ly, rfl, gsw_cons (gw_name (gsw_cons (gw_name (gsw_cons (gw_name (gsw_nil ?_))))))⟩
    have z : (10000 : Nat) ≤ sizeLine := by rw [sizeLine_eq]; decide
    have l0 : (Str.empty).length = 0 := rfl
    have b1 := two_len tc
    have b2 := two_len ts
    have b3 := two_len tf
    have b4 := two_len (i := 99) ⟨by decide, by decide⟩
    have b5 := two_len (i := 9) ⟨by decide, by decide⟩
    have m1 : (Str.ofString "the cap ").length ≤ 100 := by decide +kernel
    have m2 : (Str.ofString " is not 1 to ").length ≤ 100 := by decide +kernel
    have m3 : (Str.ofString "the start ").length ≤ 100 := by decide +kernel
    have m4 : (Str.ofString " is not 0 to the cap ").length ≤ 100 := by decide +kernel
    have m5 : (Str.ofString "the refill ").length ≤ 100 := by decide +kernel
    have m6 : (Str.ofString " is not 0 to ").length ≤ 100 := by decide +kernel
    unfold storeB at k kW
    refine sw_seq (sw_if (tw_not (tw_test (ew_rngV (ew_c ⟨rfl, rfl, rfl⟩) (ew_var rfl ⟨rfl, rfl, rfl⟩) (ew_c ⟨rfl, rfl, rfl⟩) ⟨_, rfl, fun h1 => ?_, fun h1 => ?_⟩))))
    · rw [Bool.not_eq_true'] at h1
      rw [h1, Bool.false_and] at kW
      refine sw_raiseJ (jw_cons (ew_c ⟨_, rfl, ?_, jw_cons (ew_fmtI rfl (log_twoX tc) ⟨_, rfl, ?_, jw_cons (ew_c ⟨_, rfl, ?_, jw_cons (ew_fmtC (log_twoX ⟨by decide, by decide⟩) ⟨_, rfl, ?_, jw_nil fun H1 j1 => qW _ _ _ _ j1 (kW rfl _ (.refl _))⟩)⟩)⟩)⟩))
      all_goals (simp only [lenA, l0]; omega)
    rw [Bool.not_eq_false'] at h1
    rw [h1, Bool.true_and] at k kW
    refine sw_next (sw_seq (sw_if (tw_not (tw_test (ew_rngV (ew_c ⟨rfl, rfl, rfl⟩) (ew_var rfl ⟨rfl, rfl, rfl⟩) (ew_var rfl ⟨rfl, rfl, rfl⟩) ⟨_, rfl, fun h1 => ?_, fun h1 => ?_⟩)))))
    · rw [Bool.not_eq_true'] at h1
      rw [h1, Bool.false_and] at kW
      refine sw_raiseJ (jw_cons (ew_c ⟨_, rfl, ?_, jw_cons (ew_fmtI rfl (log_twoX ts) ⟨_, rfl, ?_, jw_cons (ew_c ⟨_, rfl, ?_, jw_cons (ew_fmtI rfl (log_twoX tc) ⟨_, rfl, ?_, jw_nil fun H1 j1 => qW _ _ _ _ j1 (kW rfl _ (.refl _))⟩)⟩)⟩)⟩))
      all_goals (simp only [lenA, l0]; omega)
    rw [Bool.not_eq_false'] at h1
    rw [h1, Bool.true_and] at k kW
    refine sw_next (sw_if (tw_not (tw_test (ew_rngV (ew_c ⟨rfl, rfl, rfl⟩) (ew_var rfl ⟨rfl, rfl, rfl⟩) (ew_c ⟨rfl, rfl, rfl⟩) ⟨_, rfl, fun h1 => ?_, fun h1 => ?_⟩))))
    · rw [Bool.not_eq_true'] at h1
      refine sw_raiseJ (jw_cons (ew_c ⟨_, rfl, ?_, jw_cons (ew_fmtI rfl (log_twoX tf) ⟨_, rfl, ?_, jw_cons (ew_c ⟨_, rfl, ?_, jw_cons (ew_fmtC (log_twoX ⟨by decide, by decide⟩) ⟨_, rfl, ?_, jw_nil fun H1 j1 => qW _ _ _ _ j1 (kW h1 _ (.refl _))⟩)⟩)⟩)⟩))
      all_goals (simp only [lenA, l0]; omega)
    rw [Bool.not_eq_false'] at h1
    exact sw_next (k h1)

theorem okB_check_steps {f : Addr} {fd : FuncData} {f1 : Addr} {fd1 : FuncData} (Fn : Fun K "check_steps" "check_steps" s_check_steps f fd) (B : Blt mg) {tMOST_STEPS : Tok} (gMOST_STEPS : mg "MOST_STEPS" = some (.int 6 tMOST_STEPS)) (XBadStep : XK2 P w K mg base "BadStep" "machine" "step" cBadStep fBadStep fdBadStep) (Cis_step : Cal K mg "is_step" f1 fd1 ["step", "cap"]) (Gis_step : FnOk P w K mg base CX0 1 f1 fd1 ["step", "cap"] (LS (aIsStepT K))) : FnOk P w K mg base (L2.CX P w) 3 f fd ["number", "steps", "cap"] (LB (aChkSsB K cBadStep)) := by
  refine Fn.okX sc_check_steps (fun vs H Q E h => ?_) (fun cdv A outer s H vs Q E hr h => ?_)
  · obtain ⟨J, F, R, W, hd, j, h, _⟩ := h
    obtain ⟨v, n, cap, ss, rfl, _⟩ := h
    rfl
  · have nd := sc_check_steps.nd
    obtain ⟨J, F, R, W, hd, j, h, q, qW⟩ := h
    obtain ⟨v, n, cap, ss, rfl, dv, hlog, k, kW⟩ := h
    refine ⟨_, (pss_cons (ps_for PassesOwn.leaving rfl (pi_enumT (by rfl) B.enumerate (pa_cons (pe_slice sl_tupA (pv 1) po_none (po_some (pe_glob (v := .int 6) rfl gMOST_STEPS ⟨_, rfl⟩))) pa_nil)) (pg_tup rfl (pgs_cons (pg_name (i := 3) nd rfl (Or.inl rfl)) (pgs_cons (pg_name (i := 4) nd rfl (Or.inl rfl)) pgs_nil))) (pss_one (ps_if (pt_not (pt_val (pe_call Gis_step (by exact hr.mono (by decide)) (by rfl) Cis_step.g Cis_step.k Cis_step.a .nil pass0 (pa_cons (pv 4) (pa_cons (pv 2) pa_nil))))) (pss_one (ps_raise rfl (takes_of rfl rfl rfl rfl) (pmk_named XBadStep.T XBadStep.iC XBadStep.tI XBadStep.ok (by exact hr.mono (by decide)) XBadStep.kb pass0 (by rfl) XBadStep.gX (pk_cons (pv 0) (pk_cons (pv 3) pk_nil))))) pss_nil)))
      (pss_one (ps_if (pt_cmpR op_gt (pe_callB call_len_seq (by rfl) B.len (by decide +kernel) (pa_cons (pv 1) pa_nil)) (pe_glob (v := .int 6) rfl gMOST_STEPS ⟨_, rfl⟩) (nomark _)) (pss_one (ps_raise rfl (takes_of rfl rfl rfl rfl) (pmk_named XBadStep.T XBadStep.iC XBadStep.tI XBadStep.ok (by exact hr.mono (by decide)) XBadStep.kb pass0 (by rfl) XBadStep.gX (pk_cons (pv 0) (pk_cons (pe_glob (v := .int 6) rfl gMOST_STEPS ⟨_, rfl⟩) pk_nil))))) pss_nil))), ?_⟩
    refine LB.body j q ?_
    obtain ⟨sa, ys, rfl, ly, dys⟩ := dp_tup dv
    have hyl : ys.length = ss.length := by have := dps_len dys; simpa using this
    refine sw_seq (sw_mid (fun σ _ G => ∃ (x3 x4 : Option V), σ = [some (.int n), some (.ref sa), some (.int cap), x3, x4] ∧ Ex F G ∧ ∀ st ∈ ss.take 6, stepB cap st = true) ?_ ?_)
    · refine sw_forET hd (aw_cons (ew_slT9 hd (ew_var rfl (ow_none (ow_some (ew_c ⟨6, rfl, sa, ys, rfl, ly, fun a' F' g' sq => aw_nil ?_⟩))))))
      rw [show (6 : Int) = ((6 : Nat) : Int) from rfl, cut_take9] at sq
      refine ⟨a', _, fun i σ _ G => ∃ (x3 x4 : Option V), σ = [some (.int n), some (.ref sa), some (.int cap), x3, x4] ∧ Ex F' G ∧ ∀ st ∈ ss.take i, stepB cap st = true, rfl, sq, ⟨none, none, rfl, .refl _, fun st hst => by cases hst⟩, ?_, ?_, ?_⟩
      · rintro i σ _ G hi ⟨x3, x4, rfl, g, hg⟩
        exact g.sqT sq
      · rintro i x σ _ G T hi ⟨x3, x4, rfl, g, hg⟩ hT
        refine gw_tup hd ⟨T, _, rfl, SqT.of upd_same, rfl, gsw_cons (gw_name (gsw_cons (gw_name (gsw_nil ?_))))⟩
        have hi6 : i < 6 := by
          have := (List.getElem?_eq_some_iff.mp hi).1
          rw [List.length_take] at this
          omega
        rw [List.getElem?_take_of_lt hi6] at hi
        obtain ⟨d, hd1, hd2⟩ := dps_get' dys hi
        rw [List.getElem?_map] at hd1
        obtain ⟨st, hst, rfl⟩ := Option.map_eq_some_iff.mp hd1
        have gT := Ex.new g hT (u := .tup [.int (i : Int), x])
        refine sw_if (tw_not (tw_B (ew_call hd (aw_cons (ew_var rfl (aw_cons (ew_var rfl (aw_nil ⟨x, cap, st, rfl, dp_ex (g'.trans gT) hd2, _, rfl, fun hb => ?_, fun hb => ?_⟩))))))))
        · rw [Bool.not_eq_true'] at hb
          exact sw_raiseX2 hd XBadStep.T XBadStep.no1 XBadStep.no2 (aw_cons (ew_var rfl (aw_cons (ew_var rfl (aw_nil ⟨n, (i : Int), rfl, hlog, log_nat (by omega), fun dx hdx H' j' => qW _ _ _ _ j' (kW i (bad_at hi6 hst hg hb) dx _ (g'.trans gT) hdx)⟩)))))
        · rw [Bool.not_eq_false'] at hb
          refine sw_next ⟨_, _, rfl, gT, fun x2 hx2 => ?_⟩
          rw [List.take_succ, hst] at hx2
          rcases List.mem_append.mp hx2 with z | z
          · exact hg x2 z
          · rw [List.mem_singleton.mp z]
            exact hb
      · rintro σ _ G ⟨x3, x4, rfl, g, hg⟩
        refine ⟨_, _, rfl, g'.trans g, fun x2 hx2 => hg x2 ?_⟩
        rw [List.length_take, hyl]
        by_cases c : ss.length ≤ 6
        · rw [Nat.min_eq_right c, List.take_length]
          exact List.mem_of_mem_take hx2
        · rw [Nat.min_eq_left (by omega)]
          exact hx2
    · rintro σ _ G ⟨x3, x4, rfl, g, hg⟩
      refine sw_if (tw_test (ew_op (ew_cb (aw_cons (ew_var rfl (aw_nil (cw_lenS hd (Or.inr (g.sqT ly)) (ew_c (rw_I0 ⟨_, rfl, fun hb => ?_, fun hb => ?_⟩)))))))))
      · have hl := of_decide_eq_true hb
        exact sw_raiseX2 hd XBadStep.T XBadStep.no1 XBadStep.no2 (aw_cons (ew_var rfl (aw_cons (ew_c (aw_nil ⟨n, 6, rfl, hlog, by decide, fun dx hdx H' j' => qW _ _ _ _ j' (kW 6 (bad_six (by omega) hg) dx _ g hdx)⟩)))))
      · have hl := of_decide_eq_false hb
        exact sw_next (k (bad_not (by omega) hg) _ g)

theorem okB_check_world {f : Addr} {fd : FuncData} {f1 f2 : Addr} {fd1 fd2 : FuncData} (Fn : Fun K "check_world" "check_world" s_check_world f fd) (B : Blt mg) {tMOST_MACHINES : Tok} (gMOST_MACHINES : mg "MOST_MACHINES" = some (.int 5 tMOST_MACHINES)) (XBadStep : XK2 P w K mg base "BadStep" "machine" "step" cBadStep fBadStep fdBadStep) (Ccheck_store : Cal K mg "check_store" f1 fd1 ["store"]) (Gcheck_store : FnOk P w K mg base (L2.CX P w) 1 f1 fd1 ["store"] (LB (aChkStB K cBadStore))) (Ccheck_steps : Cal K mg "check_steps" f2 fd2 ["number", "steps", "cap"]) (Gcheck_steps : FnOk P w K mg base (L2.CX P w) 3 f2 fd2 ["number", "steps", "cap"] (LB (aChkSsB K cBadStep))) : FnOk P w K mg base (L2.CX P w) 4 f fd ["world"] (LB (aChkWB K cBadStore cBadStep)) := by
  refine Fn.okX sc_check_world (fun vs H Q E h => ?_) (fun cdv A outer s H vs Q E hr h => ?_)
  · obtain ⟨J, F, R, W, hd, j, h, _⟩ := h
    obtain ⟨v, wd, rfl, _⟩ := h
    rfl
  · have nd := sc_check_world.nd
    obtain ⟨J, F, R, W, hd, j, h, q, qW⟩ := h
    obtain ⟨v, wd, rfl, dv, tc, ts, tf, k, kS, kP⟩ := h
    refine ⟨_, (pss_cons (ps_asg (pv 0) (pg_tup rfl (pgs_cons (pg_name (i := 1) nd rfl (Or.inl rfl)) (pgs_cons (pg_name (i := 2) nd rfl (Or.inl rfl)) pgs_nil))))
      (pss_cons (ps_expr (pe_call Gcheck_store (by exact hr.mono (by decide)) (by rfl) Ccheck_store.g Ccheck_store.k Ccheck_store.a .nil (passes_call (takes_of rfl rfl rfl rfl) (fun _ _ _ _ h => h)) (pa_cons (pv 1) pa_nil)))
      (pss_cons (ps_set (i := 3) nd rfl (Or.inl rfl) (pe_ix ix_tup (pv 1) pe_int (fun _ _ => rfl)))
      (pss_cons (ps_for PassesOwn.leaving rfl (pi_enumT (by rfl) B.enumerate (pa_cons (pe_slice sl_tupA (pv 2) po_none (po_some (pe_glob (v := .int 5) rfl gMOST_MACHINES ⟨_, rfl⟩))) pa_nil)) (pg_tup rfl (pgs_cons (pg_name (i := 4) nd rfl (Or.inl rfl)) (pgs_cons (pg_name (i := 5) nd rfl (Or.inl rfl)) pgs_nil))) (pss_one (ps_expr (pe_call Gcheck_steps (by exact hr.mono (by decide)) (by rfl) Ccheck_steps.g Ccheck_steps.k Ccheck_steps.a .nil (passes_call (takes_of rfl rfl rfl rfl) (fun _ _ _ _ h => h)) (pa_cons (pv 4) (pa_cons (pv 5) (pa_cons (pv 3) pa_nil)))))))
      (pss_one (ps_if (pt_cmpR op_gt (pe_callB call_len_seq (by rfl) B.len (by decide +kernel) (pa_cons (pv 2) pa_nil)) (pe_glob (v := .int 5) rfl gMOST_MACHINES ⟨_, rfl⟩) (nomark _)) (pss_one (ps_raise rfl (takes_of rfl rfl rfl rfl) (pmk_named XBadStep.T XBadStep.iC XBadStep.tI XBadStep.ok (by exact hr.mono (by decide)) XBadStep.kb pass0 (by rfl) XBadStep.gX (pk_cons (pe_glob (v := .int 5) rfl gMOST_MACHINES ⟨_, rfl⟩) (pk_cons pe_int pk_nil))))) pss_nil)))))), ?_⟩
    refine LB.body j q ?_
    obtain ⟨wa, xs, rfl, lx, dxs⟩ := dp_tup dv
    obtain ⟨sv, mv, rfl, ds, dm⟩ := dps2 dxs
    obtain ⟨ma, zs, rfl, lz, dzs⟩ := dp_tup dm
    have hzl : zs.length = wd.ms.length := by have := dps_len dzs; simpa using this
    obtain ⟨sa, ys, rfl, ly, dys⟩ := dp_tup ds
    obtain ⟨v1, v2, v3, rfl, d1, d2, d3⟩ := dps3 dys
    cases dp_int d1
    refine sw_seq (sw_asg (ew_var rfl (gw_tup hd ⟨wa, _, rfl, lx, rfl, gsw_cons (gw_name (gsw_cons (gw_name (gsw_nil ?_))))⟩)))
    refine sw_seq (sw_drop (ew_callB hd (aw_cons (ew_var rfl (aw_nil ⟨fun cls d F' => storeB wd.cap wd.start wd.refill = false ∧ cls = .ref cBadStore ∧ d = none ∧ Ex F F', ⟨.ref sa, wd.cap, wd.start, wd.refill, rfl, ds, tc, ts, tf, fun hb => ?_, fun hb F' g => ⟨hb, rfl, rfl, g⟩⟩, ?_⟩)))))
    case refine_2 =>
      rintro cls d F' H' j' ⟨hb, rfl, rfl, g⟩
      exact qW _ _ _ _ j' (kS hb _ g)
    have k := k hb
    have kP := kP hb
    clear kS
    refine sw_seq (sw_asg (ew_op (ew_var rfl (ew_c (rw_ixT hd ly at_zero (gw_name ?_))))))
    refine sw_seq (sw_mid (fun σ _ G => ∃ (x4 x5 : Option V), σ = [some (.ref wa), some (.ref sa), some (.ref ma), some (.int wd.cap), x4, x5] ∧ Ex F G ∧ ∀ ss ∈ wd.ms.take 5, badAt wd.cap 0 ss = none) ?_ ?_)
    · refine sw_forET hd (aw_cons (ew_slT9 hd (ew_var rfl (ow_none (ow_some (ew_c ⟨5, rfl, ma, zs, rfl, lz, fun a' F' g' sq => aw_nil ?_⟩))))))
      rw [show (5 : Int) = ((5 : Nat) : Int) from rfl, cut_take9] at sq
      refine ⟨a', _, fun i σ _ G => ∃ (x4 x5 : Option V), σ = [some (.ref wa), some (.ref sa), some (.ref ma), some (.int wd.cap), x4, x5] ∧ Ex F' G ∧ ∀ ss ∈ wd.ms.take i, badAt wd.cap 0 ss = none, rfl, sq, ⟨none, none, rfl, .refl _, fun st hst => by cases hst⟩, ?_, ?_, ?_⟩
      · rintro i σ _ G hi ⟨x4, x5, rfl, g, hg⟩
        exact g.sqT sq
      · rintro i x σ _ G T hi ⟨x4, x5, rfl, g, hg⟩ hT
        refine gw_tup hd ⟨T, _, rfl, SqT.of upd_same, rfl, gsw_cons (gw_name (gsw_cons (gw_name (gsw_nil ?_))))⟩
        have hi5 : i < 5 := by
          have := (List.getElem?_eq_some_iff.mp hi).1
          rw [List.length_take] at this
          omega
        rw [List.getElem?_take_of_lt hi5] at hi
        obtain ⟨d, hd1, hd2⟩ := dps_get' dzs hi
        rw [List.getElem?_map] at hd1
        obtain ⟨ss, hss, rfl⟩ := Option.map_eq_some_iff.mp hd1
        have gT := Ex.new g hT (u := .tup [.int (i : Int), x])
        refine sw_drop (ew_callB hd (aw_cons (ew_var rfl (aw_cons (ew_var rfl (aw_cons (ew_var rfl (aw_nil ⟨fun cls d F2 => ∃ (j : Nat) (dx : Addr) (G2 : Hp), badAt wd.cap 0 ss = some j ∧ cls = .ref cBadStep ∧ d = some dx ∧ Ex (upd G T (.tup [.int (i : Int), x])) G2 ∧ G2 dx = none ∧ F2 = upd G2 dx (.xd [("step", .int (j : Int)), ("machine", .int (i : Int))]), ⟨x, (i : Int), wd.cap, ss, rfl, dp_ex (g'.trans gT) hd2, log_nat (by omega), fun hn F2 g2 => ?_, fun j hj dx G2 g2 hdx => ⟨j, dx, G2, hj, rfl, rfl, g2, hdx, rfl⟩⟩, ?_⟩))))))))
        · refine ⟨_, _, rfl, gT.trans g2, fun x2 hx2 => ?_⟩
          rw [List.take_succ, hss] at hx2
          rcases List.mem_append.mp hx2 with z | z
          · exact hg x2 z
          · rw [List.mem_singleton.mp z]
            exact hn
        · rintro cls d F2 H' j' ⟨j, dx, G2, hj, rfl, rfl, g2, hdx, rfl⟩
          exact qW _ _ _ _ j' (kP i j (ms_at hi5 hss hg hj) dx G2 (g'.trans (gT.trans g2)) hdx)
      · rintro σ _ G ⟨x4, x5, rfl, g, hg⟩
        refine ⟨_, _, rfl, g'.trans g, fun x2 hx2 => hg x2 ?_⟩
        rw [List.length_take, hzl]
        by_cases c : wd.ms.length ≤ 5
        · rw [Nat.min_eq_right c, List.take_length]
          exact List.mem_of_mem_take hx2
        · rw [Nat.min_eq_left (by omega)]
          exact hx2
    · rintro σ _ G ⟨x4, x5, rfl, g, hg⟩
      refine sw_if (tw_test (ew_op (ew_cb (aw_cons (ew_var rfl (aw_nil (cw_lenS hd (Or.inr (g.sqT lz)) (ew_c (rw_I0 ⟨_, rfl, fun hb2 => ?_, fun hb2 => ?_⟩)))))))))
      · have hl := of_decide_eq_true hb2
        exact sw_raiseX2 hd XBadStep.T XBadStep.no1 XBadStep.no2 (aw_cons (ew_c (aw_cons (ew_c (aw_nil ⟨5, 0, rfl, by decide, by decide, fun dx hdx H' j' => qW _ _ _ _ j' (kP 5 0 (ms_five (by omega) hg) dx _ g hdx)⟩)))))
      · have hl := of_decide_eq_false hb2
        exact sw_next (k (ms_not (by omega) hg) _ g)
end
end Obr
namespace Obr
open PySem L2 PySem.Spec PyProof.Rows TL
local macro_rules | `(tactic| walk_at "ob_at") => `(tactic| first
  | assumption
  | exact upd_same
  | (refine Eq.trans (upd_ne ?obn) ?obr; (case obn => walk_at "ob_ne"); (case obr => walk_at "ob_at")))
local macro_rules | `(tactic| walk_at "ob_ne") => `(tactic| first
  | assumption
  | (refine Ne.symm ?obs; (case obs => assumption))
  | (refine' ne_of_none (H := ?_) ?obe ?obh; (case obh => assumption); (case obe => walk_at "ob_at"))
  | (refine Ne.symm ?obs; (case obs => (refine' ne_of_none (H := ?_) ?obe ?obh; (case obh => assumption); (case obe => walk_at "ob_at")))))
local macro_rules | `(tactic| walk_at "ob_fr") => `(tactic| first
  | assumption
  | (refine Eq.trans (upd_ne ?obn) ?obr; (case obn => walk_at "ob_ne"); (case obr => walk_at "ob_fr"))
  | (refine Ex.free (G := ?_) (by assumption) ?obh; (case obh => walk_at "ob_fr")))
local macro_rules | `(tactic| walk_at "ob_ex") => `(tactic| first
  | assumption
  | exact Ex.refl _
  | (refine Ex.out ?obg ?obh; (case obh => assumption); (case obg => walk_at "ob_ex"))
  | (refine Ex.new ?obg ?obh; (case obh => assumption); (case obg => walk_at "ob_ex"))
  | (refine Ex.new ?obg ?obh; (case obh => walk_at "ob_fr"); (case obg => walk_at "ob_ex")))
local macro_rules | `(tactic| walk_at "ob_sq") => `(tactic| first
  | assumption
  | (refine SqL.of ?oba; (case oba => walk_at "ob_at"))
  | (refine Ex.sqT (F := ?_) ?obg ?obh; (case obh => assumption); (case obg => walk_at "ob_ex"))
  | (refine Ex.sqL (F := ?_) ?obg ?obh; (case obh => assumption); (case obg => walk_at "ob_ex"))
  | (refine SqT.of ?oba; (case oba => walk_at "ob_at")))
local macro_rules | `(tactic| walk_at "ob_side") => `(tactic| first | exact rfl | assumption | decide | omega | exact ⟨by decide, by decide, by decide⟩ | exact Or.inr ⟨by decide, by decide⟩ | exact Or.inl ⟨by decide, by decide⟩ | exact wide_div (b := 60) (by first | decide | omega) (by first | decide | omega) (by decide) (by decide))
local macro_rules | `(tactic| walk_at "ob1") => `(tactic| first
  | with_reducible refine sw_seq ?_
  | with_reducible refine sw_asg ?_
  | with_reducible refine sw_ret ?_
  | with_reducible refine sw_par ?_
  | with_reducible refine ⟨_, _, rfl, ?_⟩
  | with_reducible refine sw_drop ?_
  | with_reducible refine sw_if ?_
  | with_reducible refine sw_next ?_
  | with_reducible refine gw_name ?_
  | with_reducible refine gw_subL (by assumption) ?_
  | with_reducible refine gsw_cons ?_
  | with_reducible refine gsw_nil ?_
  | with_reducible refine ew_c ?_
  | ((with_reducible refine' ew_var (v := ?_) ?obv ?_); (case obv => exact rfl))
  | ((with_reducible refine ew_next (by assumption) ?obv ?_); (case obv => exact rfl))
  | ((with_reducible refine ew_world (by assumption) ?obv ?_); (case obv => exact rfl))
  | ((with_reducible refine ew_rule (by assumption) ?obv ?_); (case obv => exact rfl))
  | with_reducible refine ew_op ?_
  | with_reducible refine ew_un ?_
  | with_reducible refine ew_dget (by assumption) ?_
  | with_reducible refine uw_I ?_
  | with_reducible refine ppw_nil ?_
  | with_reducible refine ppw_cons ?_
  | with_reducible refine sw_dput (by assumption) ?_
  | with_reducible refine ew_cb ?_
  | with_reducible refine ew_if ?_
  | with_reducible refine ew_slL (by assumption) ?_
  | with_reducible refine ow_some ?_
  | with_reducible refine ow_none ?_
  | with_reducible refine aw_nil ?_
  | with_reducible refine aw_cons ?_
  | with_reducible refine rw_I0 ?_
  | ((with_reducible refine rw_I ?obc ?_); (case obc => walk_at "ob_side"))
  | with_reducible refine rw_isN ?_
  | with_reducible refine rw_notN ?_
  | ((with_reducible refine rw_eq ?obc ?_); (case obc => exact rfl))
  | ((with_reducible refine rw_ne ?obc ?_); (case obc => exact rfl))
  | with_reducible refine cw_max2 ?_
  | with_reducible refine cw_min2 ?_
  | with_reducible refine tw_test ?_
  | with_reducible refine tw_B ?_
  | with_reducible refine tw_not ?_
  | with_reducible refine tw_truB ?_
  | with_reducible refine tw_and ?_
  | with_reducible refine tw_or ?_
  | with_reducible refine ew_and ?_
  | (refine' Exists.intro _ (And.intro (show V.bl _ = V.bl _ from rfl) ?_))
  | (refine' Exists.intro _ (And.intro (show V.int _ = V.int _ from rfl) ?_))
  | ((with_reducible refine' rw_ixL (v := ?_) (xs := ?_) (by assumption) ?obl ?oba ?_); (case obl => walk_at "ob_sq"); (case oba => first | exact rfl | exact at_zero))
  | ((with_reducible refine' rw_ixT (v := ?_) (xs := ?_) (by assumption) ?obl ?oba ?_); (case obl => walk_at "ob_sq"); (case oba => first | exact rfl | exact at_zero))
  | ((with_reducible refine' ew_lst (by assumption) ?_))
  | ((with_reducible refine' ew_tup (by assumption) ?_)))
local macro_rules | `(tactic| walk_at "ob_len") => `(tactic| first | exact Nat.le_of_ble_eq_true rfl | (simp; done) | omega)
local macro_rules | `(tactic| walk_at "ob") => `(tactic| repeat walk_at "ob1")

def aIsNum : List V → Hp → VK → Prop := fun vs F R => ∃ z : Str, vs = [.str z] ∧ z.length ≤ 20000 ∧ ∀ F', Ex F F' → R (.bl (isNumB z)) F'
def aThree (K : PySem.W.Frag) : List V → Hp → VK → Prop := fun vs F R => ∃ (a : Addr) (ys : List Str), vs = [.ref a] ∧ SqL K F a (ys.map V.str) ∧ ys.length ≤ 20000 ∧ (∀ y ∈ ys, y.length ≤ 20000) ∧ ∀ F', Ex F F' → R (.bl (threeB ys)) F'
def aRead3 (K : PySem.W.Frag) : List V → Hp → VK → Prop := fun vs F R => ∃ (a : Addr) (ys : List Str) (ns : List Int), vs = [.ref a] ∧ SqL K F a (ys.map V.str) ∧ NumsIs ys ns ∧ ∀ (v : V) (F' : Hp), Ex F F' → Dp K F' v (.tuple (ns.map PyData.int)) → R v F'
def aReadSt (K : PySem.W.Frag) : List V → Hp → VK → Prop := fun vs F R => ∃ (z : Str) (c s f : Int), vs = [.str z] ∧ StoreIs z c s f ∧ ∀ (v : V) (F' : Hp), Ex F F' → Dp K F' v (.tuple [.int c, .int s, .int f]) → R v F'
def aReadM (K : PySem.W.Frag) : List V → Hp → VK → Prop := fun vs F R => ∃ (n : Int) (z : Str) (ss : List Stp), vs = [.int n, .str z] ∧ MachIs z ss ∧ ss.length ≤ 1000 ∧ ∀ (v : V) (F' : Hp), Ex F F' → Dp K F' v (macD ss) → R v F'
def aRead (K : PySem.W.Frag) : List V → Hp → VK → Prop := fun vs F R => ∃ (z : Str) (w : Wld), vs = [.str z] ∧ TextIs z w ∧ WldOk w ∧ ∀ (v : V) (F' : Hp), Ex F F' → Dp K F' v (wldD w) → R v F'
def aWritten (K : PySem.W.Frag) : List V → Hp → VK → Prop := fun vs F R => ∃ (v : V) (w : Wld), vs = [v] ∧ Dp K F v (wldD w) ∧ WldOk w ∧ ∀ F', Ex F F' → R (.str (textT w)) F'
section
variable {P : Program} {w : World} {K : PySem.W.Frag} {mg : Str → Option Value} {base : Heap} {tF : Tok}
theorem dec_vint9 (a b : Int) : decide (V.int a = V.int b) = decide (a = b) := by
  by_cases h : a = b
  · rw [h]; simp
  · rw [decide_eq_false h, decide_eq_false (fun e => h (by injection e))]

abbrev s_is_number : Stmt := top 27
def N_is_number : List Str := ["word", "letter"]
theorem sc_is_number : FnScope N_is_number ["word"] (defScope s_is_number) := ⟨rfl, rfl, rfl, by decide +kernel, rfl, by decide +kernel, by decide +kernel⟩
theorem ok_is_number {f : Addr} {fd : FuncData}  (Fn : Fun K "is_number" "is_number" s_is_number f fd) (B : Blt mg) (gFIGURES : mg "FIGURES" = some (.str figS tF)) (Ball : mg "all" = none) : FnOk P w K mg base CX0 2 f fd ["word"] (LS (aIsNum)) := by
  refine Fn.ok sc_is_number (fun vs H Q E h => ?_) (fun cdv A outer s H vs Q E hr h => ?_)
  · obtain ⟨J, F, R, hd, j, h, _⟩ := h
    obtain ⟨z, rfl, _⟩ := h
    rfl
  · have nd := sc_is_number.nd
    obtain ⟨J, F, R, hd, j, h, q⟩ := h
    obtain ⟨z, rfl, hz, k⟩ := h
    refine ⟨_, (pss_cons (ps_if (pt_not (pt_val (pe_callB (cr_all rfl) (by rfl) Ball (by decide +kernel) (pa_cons (pe_lc (own := [("letter", 1)]) (te := (tOp (fun x y H Q => ∃ (c : Nat) (z : Str), x = .str ⟨#[c]⟩ ∧ y = .str z ∧ Q (.bl (decide (c ∈ z.cps.toList))) H) (tVar 1) (tC (.str figS)))) (tt := tYes) (by rfl) nd (pi_str (pv 0)) (blkOk_by (own := [("letter", 1)]) (N := N_is_number) (sc := defScope s_is_number) (by decide +kernel)) (fun _ _ _ _ _ => (pg_name (i := 1) nd rfl (Or.inl rfl))) (fun _ _ _ _ _ => pts_nil) (fun _ _ _ _ _ => (pe_cmpR op_in_sign (pv 1) (pe_glob (v := .str figS) rfl gFIGURES ⟨_, rfl⟩) (by rfl)))) pa_nil)))) (pss_one (ps_ret pe_bl)) pss_nil)
      (pss_one (ps_ret (pe_or (pe_cmpR op_eq (pe_callB call_len_str (by rfl) B.len (by decide +kernel) (pa_cons (pv 0) pa_nil)) pe_int (nomark _)) (pe_one (pe_and (pe_cmpR op_eq (pe_callB call_len_str (by rfl) B.len (by decide +kernel) (pa_cons (pv 0) pa_nil)) pe_int (nomark _)) (pe_one (pe_cmpR op_ne (pe_ix ix_str (pv 0) pe_int (fun _ _ => rfl)) pe_str (nomark _))))))))), ?_⟩
    refine LS.body j q ?_
    have hzl : z.length = z.cps.toList.length := by simp [Str.length]
    have hzs : z.cps.size = z.cps.toList.length := by simp
    have hsz : z.length ≤ sizeLine := by rw [sizeLine_eq]; omega
    refine sw_seq (sw_if (tw_not (tw_B (ew_cb (aw_cons (ew_lcS hd (ew_var rfl ?_)))))))
    refine ⟨z, rfl, by omega, fun Dl hDl => ⟨fun i acc _ G => F = G ∧ acc = ((z.cps.toList.take i).map fun c => decide (c ∈ figS.cps.toList)).map V.bl, ⟨rfl, rfl⟩, ?_, ?_, ?_⟩⟩
    · rintro i acc _ G hi hg ⟨rfl, rfl⟩
      rw [List.length_map, List.length_map]
      exact List.length_take_le _ _
    · rintro i acc c _ G hc hg ⟨rfl, rfl⟩
      refine gw_name ⟨rfl, tw_yes ⟨fun _ => ew_op (ew_var rfl (ew_c (rw_inSign ⟨rfl, ?_⟩))), (fun z => by cases z)⟩⟩
      have hc2 : z.cps.toList[i]? = some c := by rw [← hc]; simp
      rw [List.take_succ, hc2, List.map_append, List.map_append]
      rfl
    rintro acc _ G hg ⟨rfl, rfl⟩
    rw [hzs, List.take_length]
    have gD := Ex.new (.refl F) hg (u := .lst ((z.cps.toList.map fun c => decide (c ∈ figS.cps.toList)).map V.bl))
    refine aw_nil (cw_allN hd (SqL.of upd_same) ⟨_, rfl, fun h1 => sw_ret (ew_c ?_), fun h1 => sw_next ?_⟩)
    · refine k _ gD |> fun r => ?_
      have e : isNumB z = false := by
        unfold isNumB
        rw [List.all_map] at h1
        have h2 : (z.cps.toList.all fun c => decide (c ∈ figS.cps.toList)) = false := by simpa using h1
        rw [h2]
        rfl
      rw [e] at r
      exact r
    have hall : (z.cps.toList.all fun c => decide (c ∈ figS.cps.toList)) = true := by
      rw [List.all_map] at h1
      simpa using h1
    have kk := k _ gD
    unfold isNumB at kk
    rw [hall, Bool.true_and] at kk
    refine sw_ret (ew_or (ew_op (ew_cb (aw_cons (ew_var rfl (aw_nil (cw_lenStr hsz (ew_c (rw_eq rfl ⟨_, rfl, fun h2 => ?_, fun h2 => ?_⟩)))))))))
    · rw [dec_vint9] at h2
      have h3 : z.length = 1 := by have := of_decide_eq_true h2; omega
      rw [decide_eq_true h3, Bool.true_or] at kk
      exact kk
    · rw [dec_vint9] at h2
      have h3 : ¬ z.length = 1 := fun c => by have := of_decide_eq_false h2; omega
      rw [decide_eq_false h3, Bool.false_or] at kk
      refine ew_and (ew_op (ew_cb (aw_cons (ew_var rfl (aw_nil (cw_lenStr hsz (ew_c (rw_eq rfl ⟨_, rfl, fun h4 => ?_, fun h4 => ?_⟩))))))))
      · rw [dec_vint9] at h4
        have h5 : z.length = 2 := by have := of_decide_eq_true h4; omega
        rw [decide_eq_true h5, Bool.true_and] at kk
        obtain ⟨c0, r0, e0⟩ : ∃ c0 r0, z.cps.toList = c0 :: r0 := by
          cases e : z.cps.toList with
          | nil => rw [e] at hzl; simp at hzl; omega
          | cons a l => exact ⟨a, l, rfl⟩
        refine ew_op (ew_op (ew_var rfl (ew_c (rw_ixS hsz (c := c0) (by rw [e0]; exact atI_nat (j := 0) rfl) (ew_c (rw_ne rfl ?_))))))
        have e9 : decide (V.str ⟨#[c0]⟩ = V.str "0") = decide ((c0 :: r0).head? = some 48) := by
          refine decide_eq_decide.mpr ⟨fun h => ?_, fun h => ?_⟩
          · injection h with h
            have := congrArg (fun x : Str => x.cps.toList) h
            have e48 : ("0" : Str).cps.toList = [48] := by decide +kernel
            rw [e48] at this
            simp at this
            rw [this]
            rfl
          · have : c0 = 48 := by simpa using h
            rw [this]
            decide +kernel
        rw [e9, ← e0]
        exact kk
      · rw [dec_vint9] at h4
        have h5 : ¬ z.length = 2 := fun c => by have := of_decide_eq_false h4; omega
        rw [decide_eq_false h5, Bool.false_and] at kk
        exact kk

abbrev s_are_three : Stmt := top 26
def N_are_three : List Str := ["words", "word"]
theorem sc_are_three : FnScope N_are_three ["words"] (defScope s_are_three) := ⟨rfl, rfl, rfl, by decide +kernel, rfl, by decide +kernel, by decide +kernel⟩
theorem ok_are_three {f : Addr} {fd : FuncData} {f1 : Addr} {fd1 : FuncData} (Fn : Fun K "are_three" "are_three" s_are_three f fd) (B : Blt mg) (Ball : mg "all" = none) (Cis_number : Cal K mg "is_number" f1 fd1 ["word"]) (Gis_number : FnOk P w K mg base CX0 2 f1 fd1 ["word"] (LS (aIsNum))) : FnOk P w K mg base CX0 3 f fd ["words"] (LS (aThree K)) := by
  refine Fn.ok sc_are_three (fun vs H Q E h => ?_) (fun cdv A outer s H vs Q E hr h => ?_)
  · obtain ⟨J, F, R, hd, j, h, _⟩ := h
    obtain ⟨a, ys, rfl, _⟩ := h
    rfl
  · have nd := sc_are_three.nd
    obtain ⟨J, F, R, hd, j, h, q⟩ := h
    obtain ⟨a, ys, rfl, l, hyl, hyz, k⟩ := h
    refine ⟨_, (pss_one (ps_ret (pe_and (pe_cmpR op_eq (pe_callB call_len_seq (by rfl) B.len (by decide +kernel) (pa_cons (pv 0) pa_nil)) pe_int (nomark _)) (pe_one (pe_callB (cr_all rfl) (by rfl) Ball (by decide +kernel) (pa_cons (pe_lc (own := [("word", 1)]) (te := (tCall (LS aIsNum) [] E0 (tCons (tVar 1) tNil))) (tt := tYes) (by rfl) nd (pi_list (pv 0)) (blkOk_by (own := [("word", 1)]) (N := N_are_three) (sc := defScope s_are_three) (by decide +kernel)) (fun _ _ _ _ _ => (pg_name (i := 1) nd rfl (Or.inl rfl))) (fun _ _ _ _ _ => pts_nil) (fun _ _ _ _ _ => (pe_call Gis_number (by exact hr.mono (by decide)) (by rfl) Cis_number.g Cis_number.k Cis_number.a .nil pass0 (pa_cons (pv 1) pa_nil)))) pa_nil)))))), ?_⟩
    refine LS.body j q ?_
    refine sw_ret (ew_and (ew_op (ew_cb (aw_cons (ew_var rfl (aw_nil (cw_lenS hd (.inl l) (ew_c (rw_eq rfl ⟨_, rfl, fun h1 => ?_, fun h1 => ?_⟩)))))))))
    · rw [dec_vint9, List.length_map] at h1
      refine ew_cb (aw_cons (ew_lcLd hd (ys.map fun y => PyData.bool (isNumB y)) (by simp) (ew_var rfl ⟨rfl, rfl, rfl⟩) l (by rw [List.length_map]; omega) (fun i x Dl acc G hx g1 hD => ?_) fun Dl G acc g1 e dps => ?_))
      · rw [List.getElem?_map] at hx
        obtain ⟨y, hy, rfl⟩ := Option.map_eq_some_iff.mp hx
        have hm := List.mem_of_getElem? hy
        refine gw_name ⟨rfl, tw_yes ⟨fun _ => ew_call hd.jd (aw_cons (ew_var rfl (aw_nil ⟨y, rfl, hyz y hm, fun F2 g2 => ⟨rfl, g2, _, PyData.bool (isNumB y), by rw [List.getElem?_map, hy]; rfl, rfl, .bl _⟩⟩))), (fun z => by cases z)⟩⟩
      · have e2 : acc = (ys.map isNumB).map V.bl := dps_bls_iff (by rw [List.map_map]; exact dps)
        subst e2
        refine aw_nil (cw_allN hd (SqL.of e) ?_)
        have kk := k G g1
        unfold threeB at kk
        have h2 : ys.length = 3 := by have := of_decide_eq_true h1; omega
        rw [decide_eq_true h2, Bool.true_and] at kk
        rw [List.all_map]
        exact kk
    · rw [dec_vint9, List.length_map] at h1
      have kk := k _ (.refl _)
      unfold threeB at kk
      have h2 : ¬ ys.length = 3 := fun c => by have := of_decide_eq_false h1; omega
      rw [decide_eq_false h2, Bool.false_and] at kk
      exact kk

abbrev s_read_three : Stmt := top 28
def N_read_three : List Str := ["words", "word"]
theorem sc_read_three : FnScope N_read_three ["words"] (defScope s_read_three) := ⟨rfl, rfl, rfl, by decide +kernel, rfl, by decide +kernel, by decide +kernel⟩
theorem ok_read_three {f : Addr} {fd : FuncData}  (Fn : Fun K "read_three" "read_three" s_read_three f fd) (B : Blt mg)  : FnOk P w K mg base CX0 1 f fd ["words"] (LS (aRead3 K)) := by
  refine Fn.ok sc_read_three (fun vs H Q E h => ?_) (fun cdv A outer s H vs Q E hr h => ?_)
  · obtain ⟨J, F, R, hd, j, h, _⟩ := h
    obtain ⟨a, ys, ns, rfl, _⟩ := h
    rfl
  · have nd := sc_read_three.nd
    obtain ⟨J, F, R, hd, j, h, q⟩ := h
    obtain ⟨a, ys, ns, rfl, l, hn, k⟩ := h
    refine ⟨_, (pss_one (ps_ret (pe_callTy call_tuple_of (by rfl) B.tuple (by decide +kernel) (pa_cons (pe_lc (own := [("word", 1)]) (te := (tCB (fun xs H Q => ∃ a n, xs = [.str a] ∧ PySem.intText? a = some n ∧ a.length ≤ 640 ∧ Q (.int n) H) (tCons (tVar 1) tNil))) (tt := tYes) (by rfl) nd (pi_list (pv 0)) (blkOk_by (own := [("word", 1)]) (N := N_read_three) (sc := defScope s_read_three) (by decide +kernel)) (fun _ _ _ _ _ => (pg_name (i := 1) nd rfl (Or.inl rfl))) (fun _ _ _ _ _ => pts_nil) (fun _ _ _ _ _ => (pe_callTy call_int_str (by rfl) B.int (by decide +kernel) (pa_cons (pv 1) pa_nil)))) pa_nil)))), ?_⟩
    refine LS.body j q ?_
    refine sw_ret (ew_cb (aw_cons (ew_lcLd hd (ns.map PyData.int) (by rw [List.length_map, List.length_map, hn.len, hn.len2]) (ew_var rfl ⟨rfl, rfl, rfl⟩) l (by rw [List.length_map, hn.len]; decide) (fun i x Dl acc G hx g1 hD => ?_) fun Dl G acc g1 e dps => ?_)))
    · rw [List.getElem?_map] at hx
      obtain ⟨y, hy, rfl⟩ := Option.map_eq_some_iff.mp hx
      have hi : i < 3 := by have := (List.getElem?_eq_some_iff.mp hy).1; rw [hn.len] at this; exact this
      obtain ⟨n, hni⟩ : ∃ n, ns[i]? = some n := ⟨_, List.getElem?_eq_getElem (by rw [hn.len2]; exact hi)⟩
      obtain ⟨v1, v2⟩ := hn.val i y n hy hni
      exact gw_name ⟨rfl, tw_yes ⟨fun _ => ew_cb (aw_cons (ew_var rfl (aw_nil (cw_intS v1 (by omega) ⟨rfl, .refl _, _, PyData.int n, by rw [List.getElem?_map, hni]; rfl, rfl, .int _⟩)))), (fun z => by cases z)⟩⟩
    · have e2 : acc = ns.map V.int := dps_ints_iff dps
      subst e2
      exact aw_nil (cw_tuple hd (SqL.of e) fun q hq => k (.ref q) _ (Ex.new g1 hq) (.tup (SqT.of upd_same) dps_ints))

abbrev s_read_store : Stmt := top 24
def N_read_store : List Str := ["row", "words"]
theorem sc_read_store : FnScope N_read_store ["row"] (defScope s_read_store) := ⟨rfl, rfl, rfl, by decide +kernel, rfl, by decide +kernel, by decide +kernel⟩
theorem ok_read_store {f : Addr} {fd : FuncData} {f1 f2 : Addr} {fd1 fd2 : FuncData} (Fn : Fun K "read_store" "read_store" s_read_store f fd) (B : Blt mg) (Care_three : Cal K mg "are_three" f1 fd1 ["words"]) (Gare_three : FnOk P w K mg base CX0 3 f1 fd1 ["words"] (LS (aThree K))) (Cread_three : Cal K mg "read_three" f2 fd2 ["words"]) (Gread_three : FnOk P w K mg base CX0 1 f2 fd2 ["words"] (LS (aRead3 K))) : FnOk P w K mg base CX0 4 f fd ["row"] (LS (aReadSt K)) := by
  refine Fn.ok sc_read_store (fun vs H Q E h => ?_) (fun cdv A outer s H vs Q E hr h => ?_)
  · obtain ⟨J, F, R, hd, j, h, _⟩ := h
    obtain ⟨z, c, s0, f0, rfl, _⟩ := h
    rfl
  · have nd := sc_read_store.nd
    obtain ⟨J, F, R, hd, j, h, q⟩ := h
    obtain ⟨z, c, s0, f0, rfl, ⟨hz, ys, es, hn⟩, k⟩ := h
    refine ⟨_, (pss_cons (ps_set (i := 1) nd rfl (Or.inl rfl) (pe_split (pv 0) pe_str))
      (pss_cons (ps_if (PW.pt (pw_or (pt_cmpR op_ne (pe_ix ix_list (pv 1) pe_int (fun _ _ => rfl)) pe_str (nomark _)) (pw_or1 (pt_not (pt_val (pe_call Gare_three (by exact hr.mono (by decide)) (by rfl) Care_three.g Care_three.k Care_three.a .nil pass0 (pa_cons (pe_slice sl_list (pv 1) (po_some pe_int) po_none) pa_nil))))))) (pss_one ps_never) pss_nil)
      (pss_one (ps_ret (pe_call Gread_three (by exact hr.mono (by decide)) (by rfl) Cread_three.g Cread_three.k Cread_three.a .nil pass0 (pa_cons (pe_slice sl_list (pv 1) (po_some pe_int) po_none) pa_nil)))))), ?_⟩
    refine LS.body j q ?_
    refine sw_seq (sw_asg (ew_split hd (ew_var rfl ⟨z, rfl, ew_c ⟨_, rfl, by decide +kernel, by rw [sizeLine_eq]; omega, fun p hp => gw_name ?_⟩⟩)))
    rw [es]
    have g1 := Ex.new (.refl F) hp (u := .lst ((("store" : Str) :: ys).map V.str))
    have e1 : (upd F p (.lst ((("store" : Str) :: ys).map V.str))) p = some (.lst ((("store" : Str) :: ys).map V.str)) := upd_same
    generalize upd F p (.lst ((("store" : Str) :: ys).map V.str)) = G1 at g1 e1
    refine sw_seq (sw_if (tw_or (tw_test (ew_op (ew_op (ew_var rfl (ew_c (rw_ixL hd (SqL.of e1) at_zero (ew_c (rw_ne rfl ⟨_, rfl, fun h1 => ?_, fun h1 => ?_⟩))))))))))
    · exact absurd h1 (by decide +kernel)
    · refine tw_not (tw_B (ew_call hd (aw_cons (ew_slL hd (ew_var rfl (ow_some (ew_c ⟨1, rfl, ow_none ⟨p, _, rfl, SqL.of e1, fun q hq => aw_nil ?_⟩⟩)))))))
      rw [List.map_cons, cutV_one]
      have g2 := Ex.new g1 hq (u := .lst (ys.map V.str))
      have g3 := Ex.new (.refl G1) hq (u := .lst (ys.map V.str))
      refine ⟨q, ys, rfl, SqL.of upd_same, by rw [hn.len]; decide, fun y hy => ?_, fun F2 g4 => ⟨_, rfl, fun h2 => ?_, fun h2 => sw_next (sw_ret (ew_call hd (aw_cons (ew_slL hd (ew_var rfl (ow_some (ew_c ⟨1, rfl, ow_none ⟨p, _, rfl, SqL.of (g4 _ _ (g3 _ _ e1)), fun q2 hq2 => aw_nil ?_⟩⟩)))))))⟩⟩
      · obtain ⟨i, hi, rfl⟩ := List.mem_iff_getElem.mp hy
        have := (hn.val i ys[i] (([c, s0, f0] : List Int)[i]'(by rw [hn.len] at hi; exact hi)) (List.getElem?_eq_getElem hi) (List.getElem?_eq_getElem _)).2
        omega
      · rw [hn.three] at h2
        exact absurd h2 (by decide)
      · rw [List.map_cons, cutV_one]
        exact ⟨q2, ys, _, rfl, SqL.of upd_same, hn, fun v F3 g5 dv => k v F3 ((g2.trans g4).trans ((Ex.new (.refl _) hq2).trans g5)) dv⟩

abbrev s_read_machine : Stmt := top 25
def N_read_machine : List Str := ["number", "row", "words", "steps", "word", "step"]
theorem sc_read_machine : FnScope N_read_machine ["number", "row"] (defScope s_read_machine) := ⟨rfl, rfl, rfl, by decide +kernel, rfl, by decide +kernel, by decide +kernel⟩
theorem ok_read_machine {f : Addr} {fd : FuncData} {f1 f2 : Addr} {fd1 fd2 : FuncData} (Fn : Fun K "read_machine" "read_machine" s_read_machine f fd) (B : Blt mg) (Ball : mg "all" = none) (Care_three : Cal K mg "are_three" f1 fd1 ["words"]) (Gare_three : FnOk P w K mg base CX0 3 f1 fd1 ["words"] (LS (aThree K))) (Cread_three : Cal K mg "read_three" f2 fd2 ["words"]) (Gread_three : FnOk P w K mg base CX0 1 f2 fd2 ["words"] (LS (aRead3 K))) : FnOk P w K mg base CX0 4 f fd ["number", "row"] (LS (aReadM K)) := by
  refine Fn.ok sc_read_machine (fun vs H Q E h => ?_) (fun cdv A outer s H vs Q E hr h => ?_)
  · obtain ⟨J, F, R, hd, j, h, _⟩ := h
    obtain ⟨n, z, ss, rfl, _⟩ := h
    rfl
  · have nd := sc_read_machine.nd
    obtain ⟨J, F, R, hd, j, h, q⟩ := h
    obtain ⟨n, z, ss, rfl, ⟨hz, ws, es, hn, hst⟩, hs6, k⟩ := h
    refine ⟨_, (pss_cons (ps_set (i := 2) nd rfl (Or.inl rfl) (pe_split (pv 1) pe_str))
      (pss_cons (ps_setLc (i := 3) rfl nd rfl rfl (sw_true rfl rfl rfl (by decide +kernel)) (own := [("word", 4)]) (te := (tM1 (fun x xs H Q => ∃ a b, x = .str a ∧ xs = [.str b] ∧ (b.length == 0) = false ∧ a.length + 2 ≤ sizeLine ∧ rNewStrs (Txt.split a b) H Q) (tVar 4) (tC (.str ",")))) (tt := tYes) (pi_list (pe_slice sl_list (pv 2) (po_some pe_int) po_none)) (blkOk_by (own := [("word", 4)]) (N := N_read_machine) (sc := defScope s_read_machine) (by decide +kernel)) (fun _ _ _ _ _ => (pg_name (i := 4) nd rfl (Or.inl rfl))) (fun _ _ _ _ _ => pts_nil) (fun _ _ _ _ _ => (pe_split (pv 4) pe_str)))
      (pss_cons (ps_if (PW.pt (pw_or (pt_cmpR op_ne (pe_ix ix_list (pv 2) pe_int (fun _ _ => rfl)) pe_str (nomark _)) (pw_or1 (pt_not (pt_val (pe_callB (cr_all rfl) (by rfl) Ball (by decide +kernel) (pa_cons (pe_lc (own := [("step", 5)]) (te := (tCall (LS (aThree K)) [] E0 (tCons (tVar 5) tNil))) (tt := tYes) (by rfl) nd (pi_list (pv 3)) (blkOk_by (own := [("step", 5)]) (N := N_read_machine) (sc := defScope s_read_machine) (by decide +kernel)) (fun _ _ _ _ _ => (pg_name (i := 5) nd rfl (Or.inl rfl))) (fun _ _ _ _ _ => pts_nil) (fun _ _ _ _ _ => (pe_call Gare_three (by exact hr.mono (by decide)) (by rfl) Care_three.g Care_three.k Care_three.a .nil pass0 (pa_cons (pv 5) pa_nil)))) pa_nil))))))) (pss_one ps_never) pss_nil)
      (pss_one (ps_ret (pe_callTy call_tuple_of (by rfl) B.tuple (by decide +kernel) (pa_cons (pe_lc (own := [("step", 5)]) (te := (tCall (LS (aRead3 K)) [] E0 (tCons (tVar 5) tNil))) (tt := tYes) (by rfl) nd (pi_list (pv 3)) (blkOk_by (own := [("step", 5)]) (N := N_read_machine) (sc := defScope s_read_machine) (by decide +kernel)) (fun _ _ _ _ _ => (pg_name (i := 5) nd rfl (Or.inl rfl))) (fun _ _ _ _ _ => pts_nil) (fun _ _ _ _ _ => (pe_call Gread_three (by exact hr.mono (by decide)) (by rfl) Cread_three.g Cread_three.k Cread_three.a .nil pass0 (pa_cons (pv 5) pa_nil)))) pa_nil))))))), ?_⟩
    refine LS.body j q ?_
    refine sw_seq (sw_asg (ew_split hd (ew_var rfl ⟨z, rfl, ew_c ⟨_, rfl, by decide +kernel, by rw [sizeLine_eq]; omega, fun p hp => gw_name ?_⟩⟩)))
    rw [es]
    have g1 := Ex.new (.refl F) hp (u := .lst ((("machine" : Str) :: ws).map V.str))
    have e1 : (upd F p (.lst ((("machine" : Str) :: ws).map V.str))) p = some (.lst ((("machine" : Str) :: ws).map V.str)) := upd_same
    generalize upd F p (.lst ((("machine" : Str) :: ws).map V.str)) = G1 at g1 e1
    have hget : ∀ (i : Nat) (x : Str), ws[i]? = some x → ∃ st, ss[i]? = some st ∧ StepIs x st := fun i x hx => by
      have hi := (List.getElem?_eq_some_iff.mp hx).1
      rw [hn] at hi
      exact ⟨_, List.getElem?_eq_getElem hi, hst i x _ hx (List.getElem?_eq_getElem hi)⟩
    have hnum : ∀ (i : Nat) (x : Str), ws[i]? = some x → ∃ st, ss[i]? = some st ∧ x.length ≤ 1000 ∧ NumsIs (Txt.split x ",") [st.draw, st.long, st.back] := fun i x hx => by
      obtain ⟨st, h1, h2⟩ := hget i x hx
      exact ⟨st, h1, h2.1, h2.2⟩
    have tk : isNumB "0" = true := by decide +kernel
    refine sw_seq (sw_asg (ew_lcLe hd (ew_slL hd (ew_var rfl (ow_some (ew_c ⟨1, rfl, ow_none ⟨p, _, rfl, SqL.of e1, fun q hq => ?_⟩⟩))))))
    rw [List.map_cons, cutV_one]
    have g2 := Ex.new (.refl G1) hq (u := .lst (ws.map V.str))
    refine ⟨q, ws.map V.str, ws.map fun x => PyData.list ((Txt.split x ",").map PyData.str), rfl, by rw [List.length_map, List.length_map], SqL.of upd_same, by rw [List.length_map]; omega, fun i x Dl acc G hx g3 hD => ?_, fun Dl G2 acc g3 e2 dps => ?_⟩
    · rw [List.getElem?_map] at hx
      obtain ⟨y, hy, rfl⟩ := Option.map_eq_some_iff.mp hx
      obtain ⟨st, h1, h2, h3⟩ := hnum i y hy
      refine gw_name ⟨rfl, tw_yes ⟨fun _ => ew_split hd.jd (ew_var rfl ⟨y, rfl, ew_c ⟨_, rfl, by decide +kernel, by rw [sizeLine_eq]; omega, fun r hr => ⟨rfl, Ex.new (.refl _) hr, _, PyData.list ((Txt.split y ",").map PyData.str), by rw [List.getElem?_map, hy]; rfl, rfl, .lst (SqL.of upd_same) dps_strs⟩⟩⟩), (fun z => by cases z)⟩⟩
    refine gw_name ?_
    have g4 := g1.trans (g2.trans g3)
    have e3 := (g2.trans g3) _ _ e1
    clear g2 g3 hq
    generalize upd G1 q (.lst (ws.map V.str)) = Gx at *
    have hal := dps_len dps
    rw [List.length_map] at hal
    have row : ∀ (i : Nat) (x : V), acc[i]? = some x → ∃ (st : Stp) (a2 : Addr) (ys : List Str), ss[i]? = some st ∧ x = .ref a2 ∧ SqL K G2 a2 (ys.map V.str) ∧ NumsIs ys [st.draw, st.long, st.back] := fun i x hx => by
      obtain ⟨d, hd1, hd2⟩ := dps_get' dps hx
      rw [List.getElem?_map] at hd1
      obtain ⟨y, hy, rfl⟩ := Option.map_eq_some_iff.mp hd1
      obtain ⟨st, h1, h2, h3⟩ := hnum i y hy
      obtain ⟨a2, xs, rfl, l2, d2⟩ := dp_lst hd2
      rw [dps_strs_iff d2] at l2
      exact ⟨st, a2, _, h1, rfl, l2, h3⟩
    refine sw_seq (sw_if (tw_or (tw_test (ew_op (ew_op (ew_var rfl (ew_c (rw_ixL hd (SqL.of e3) at_zero (ew_c (rw_ne rfl ⟨_, rfl, fun h1 => ?_, fun h1 => ?_⟩))))))))))
    · exact absurd h1 (by decide +kernel)
    refine tw_not (tw_B (ew_cb (aw_cons (ew_lcLd hd (acc.map fun _ => PyData.bool true) (by rw [List.length_map]) (ew_var rfl ⟨rfl, rfl, rfl⟩) (SqL.of e2) (by omega) (fun i x Dl2 acc2 G hx g5 hD => ?_) fun Dl2 G3 acc2 g5 e4 dps2 => ?_))))
    · obtain ⟨st, a2, ys, h1, rfl, l2, h3⟩ := row i x hx
      refine gw_name ⟨rfl, tw_yes ⟨fun _ => ew_call hd.jd (aw_cons (ew_var rfl (aw_nil ⟨a2, ys, rfl, g5.sqL l2, by rw [h3.len]; decide, fun y hy => ?_, fun F2 g6 => ⟨rfl, g6, _, PyData.bool true, by rw [List.getElem?_map, hx]; rfl, rfl, by rw [h3.three]; exact .bl _⟩⟩))), (fun z => by cases z)⟩⟩
      obtain ⟨j9, hj, rfl⟩ := List.mem_iff_getElem.mp hy
      have := (h3.val j9 ys[j9] (([st.draw, st.long, st.back] : List Int)[j9]'(by rw [h3.len] at hj; exact hj)) (List.getElem?_eq_getElem hj) (List.getElem?_eq_getElem _)).2
      omega
    have e5 : acc2 = (acc.map fun _ => true).map V.bl := dps_bls_iff (by rw [List.map_map]; exact dps2)
    subst e5
    refine aw_nil (cw_allN hd (SqL.of e4) ⟨_, rfl, fun h2 => ?_, fun h2 => sw_next (sw_ret (ew_cb (aw_cons (ew_lcLd hd (ss.map stpD) (by rw [List.length_map, hal, hn]) (ew_var rfl ⟨rfl, rfl, rfl⟩) (SqL.of (g5 _ _ e2)) (by omega) (fun i x Dl3 acc3 G hx g6 hD => ?_) fun Dl3 G4 acc3 g6 e6 dps3 => ?_))))⟩)
    · rw [List.all_map] at h2
      simp at h2
    · obtain ⟨st, a2, ys, h1, rfl, l2, h3⟩ := row i x hx
      exact gw_name ⟨rfl, tw_yes ⟨fun _ => ew_call hd.jd (aw_cons (ew_var rfl (aw_nil ⟨a2, ys, _, rfl, (g5.trans g6).sqL l2, h3, fun v F2 g7 dv => ⟨rfl, g7, _, stpD st, by rw [List.getElem?_map, h1]; rfl, rfl, dv⟩⟩))), (fun z => by cases z)⟩⟩
    · exact aw_nil (cw_tuple hd (SqL.of e6) fun q2 hq2 => k (.ref q2) _ (g4.trans (g5.trans (g6.trans (Ex.new (.refl _) hq2)))) (.tup (SqT.of upd_same) (dps_ex (Ex.new (.refl _) hq2) dps3)))

abbrev s_read : Stmt := top 23
def N_read : List Str := ["text", "rows", "store", "machines", "world", "number", "row"]
theorem sc_read : FnScope N_read ["text"] (defScope s_read) := ⟨rfl, rfl, rfl, by decide +kernel, rfl, by decide +kernel, by decide +kernel⟩
theorem ok_read {f : Addr} {fd : FuncData} {f1 f2 f3 : Addr} {fd1 fd2 fd3 : FuncData} (Fn : Fun K "read" "read" s_read f fd) (B : Blt mg) (Cread_store : Cal K mg "read_store" f1 fd1 ["row"]) (Gread_store : FnOk P w K mg base CX0 4 f1 fd1 ["row"] (LS (aReadSt K))) (Cread_machine : Cal K mg "read_machine" f2 fd2 ["number", "row"]) (Gread_machine : FnOk P w K mg base CX0 4 f2 fd2 ["number", "row"] (LS (aReadM K))) (Ccheck_world : Cal K mg "check_world" f3 fd3 ["world"]) (Gcheck_world : FnOk P w K mg base CX0 3 f3 fd3 ["world"] (LS (aChkW K))) : FnOk P w K mg base CX0 5 f fd ["text"] (LS (aRead K)) := by
  refine Fn.ok sc_read (fun vs H Q E h => ?_) (fun cdv A outer s H vs Q E hr h => ?_)
  · obtain ⟨J, F, R, hd, j, h, _⟩ := h
    obtain ⟨z, wd, rfl, _⟩ := h
    rfl
  · have nd := sc_read.nd
    obtain ⟨J, F, R, hd, j, h, q⟩ := h
    obtain ⟨z, wd, rfl, ⟨hz, r, rs, es, hst, hn, hm⟩, hw, k⟩ := h
    refine ⟨_, (pss_cons (ps_set (i := 1) nd rfl (Or.inl rfl) (pe_split (pv 0) pe_str))
      (pss_cons (ps_set (i := 2) nd rfl (Or.inl rfl) (pe_call Gread_store (by exact hr.mono (by decide)) (by rfl) Cread_store.g Cread_store.k Cread_store.a .nil pass0 (pa_cons (pe_ix ix_list (pv 1) pe_int (fun _ _ => rfl)) pa_nil)))
      (pss_cons (ps_set (i := 3) nd rfl (Or.inl rfl) (pe_callTy call_tuple_of (by rfl) B.tuple (by decide +kernel) (pa_cons (pe_lc (own := [("number", 5), ("row", 6)]) (g := (gTup K 2 (gCons (gName 5) (gCons (gName 6) gNil)))) (te := (tCall (LS (aReadM K)) [] E0 (tCons (tVar 5) (tCons (tVar 6) tNil)))) (tt := (tTest (tOp (rI0 fun i j => .bl (decide (j < i))) (tVar 5) (tC (.int 0))))) (by rfl) nd (pi_enum (by rfl) B.enumerate (pa_cons (pv 1) pa_nil)) (blkOk_by (own := [("number", 5), ("row", 6)]) (N := N_read) (sc := defScope s_read) (by decide +kernel)) (fun _ _ _ _ _ => (pg_tup rfl (pgs_cons (pg_name (i := 5) nd rfl (Or.inl rfl)) (pgs_cons (pg_name (i := 6) nd rfl (Or.inl rfl)) pgs_nil)))) (fun _ _ _ _ _ => pts_one (pt_cmpR op_gt (pv 5) pe_int (nomark _))) (fun _ _ _ _ _ => (pe_call Gread_machine (by exact hr.mono (by decide)) (by rfl) Cread_machine.g Cread_machine.k Cread_machine.a .nil pass0 (pa_cons (pv 5) (pa_cons (pv 6) pa_nil))))) pa_nil)))
      (pss_cons (ps_set (i := 4) nd rfl (Or.inl rfl) (pe_tup (pa_cons (pv 2) (pa_cons (pv 3) pa_nil))))
      (pss_cons (ps_expr (pe_call Gcheck_world (by exact hr.mono (by decide)) (by rfl) Ccheck_world.g Ccheck_world.k Ccheck_world.a .nil pass0 (pa_cons (pv 4) pa_nil)))
      (pss_one (ps_ret (pv 4)))))))), ?_⟩
    refine LS.body j q ?_
    refine sw_seq (sw_asg (ew_split hd (ew_var rfl ⟨z, rfl, ew_c ⟨_, rfl, by decide +kernel, by rw [sizeLine_eq]; omega, fun p hp => gw_name ?_⟩⟩)))
    rw [es]
    have g1 := Ex.new (.refl F) hp (u := .lst ((r :: rs).map V.str))
    have e1 : (upd F p (.lst ((r :: rs).map V.str))) p = some (.lst ((r :: rs).map V.str)) := upd_same
    generalize upd F p (.lst ((r :: rs).map V.str)) = G1 at g1 e1
    have hm5 := hw.m
    refine sw_seq (sw_asg (ew_call hd (aw_cons (ew_op (ew_var rfl (ew_c (rw_ixL hd (SqL.of e1) at_zero (aw_nil ⟨r, wd.cap, wd.start, wd.refill, rfl, hst, fun sv G2 g2 dsv => gw_name ?_⟩))))))))
    refine sw_seq (sw_asg (ew_cb (aw_cons (ew_lcELd hd (x0 := .str r) (xs := rs.map V.str) (wd.ms.map macD) (by rw [List.length_map, List.length_map, hn]) (aw_cons (ew_var rfl (aw_nil ⟨rfl, rfl, rfl⟩))) (SqL.of (g2 _ _ e1)) (by rw [List.length_map]; omega) (fun Dl T G g3 h1 h2 h3 => ?_) (fun i x Dl T acc G hx g3 h1 h2 h3 => ?_) fun Dl G3 acc g3 e3 dps => ?_))))
    · exact gw_tup hd.jd ⟨T, _, rfl, SqT.of upd_same, rfl, gsw_cons (gw_name (gsw_cons (gw_name (gsw_nil ⟨rfl, tw_test (ew_op (ew_var rfl (ew_c (rw_I0 ⟨_, rfl, fun h => absurd h (by decide), fun _ => ⟨rfl, Ex.new (.refl _) h2, rfl⟩⟩))))⟩))))⟩
    · rw [List.getElem?_map] at hx
      obtain ⟨y, hy, rfl⟩ := Option.map_eq_some_iff.mp hx
      have hi := (List.getElem?_eq_some_iff.mp hy).1
      rw [hn] at hi
      have hss := List.getElem?_eq_getElem hi
      have hs6 := hw.n _ (List.mem_of_getElem? hss)
      have h01 : (0 : Int) < ((i + 1 : Nat) : Int) := by omega
      exact gw_tup hd.jd ⟨T, _, rfl, SqT.of upd_same, rfl, gsw_cons (gw_name (gsw_cons (gw_name (gsw_nil ⟨rfl, tw_test (ew_op (ew_var rfl (ew_c (rw_I0 ⟨_, rfl, fun _ => ew_call hd.jd (aw_cons (ew_var rfl (aw_cons (ew_var rfl (aw_nil ⟨_, y, wd.ms[i], rfl, hm i y _ hy hss, by omega, fun v F2 g4 dv => ⟨rfl, (Ex.new (.refl _) h2).trans g4, v, macD wd.ms[i], by rw [List.getElem?_map, hss]; rfl, rfl, dv⟩⟩))))), fun h => absurd h01 (of_decide_eq_false h)⟩))))⟩))))⟩
    refine aw_nil (cw_tuple hd (SqL.of e3) fun q2 hq2 => gw_name ?_)
    refine sw_seq (sw_asg (ew_tup hd (aw_cons (ew_var rfl (aw_cons (ew_var rfl (aw_nil ⟨by walk_at "ob_len", fun q3 hq3 => gw_name ?_⟩)))))))
    have g4 : Ex G3 (upd G3 q2 (.tup acc)) := Ex.new (.refl _) hq2
    have g5 : Ex (upd G3 q2 (.tup acc)) (upd (upd G3 q2 (.tup acc)) q3 (.tup [sv, .ref q2])) := Ex.new (.refl _) hq3
    have dW : Dp K (upd (upd G3 q2 (.tup acc)) q3 (.tup [sv, .ref q2])) (.ref q3) (wldD wd) := .tup (SqT.of upd_same) (.cons (dp_ex (g3.trans (g4.trans g5)) dsv) (.cons (.tup (SqT.of (g5 _ _ upd_same)) (dps_ex (g4.trans g5) dps)) .nil))
    refine sw_seq (sw_drop (ew_call hd (aw_cons (ew_var rfl (aw_nil ⟨.ref q3, wd, rfl, dW, hw, fun F5 g6 => ?_⟩)))))
    exact sw_ret (ew_var rfl (k _ F5 (g1.trans (g2.trans (g3.trans (g4.trans (g5.trans g6))))) (dp_ex g6 dW)))

end
end Obr
/-! ### what a text comes to (mathematics only) -/
namespace Obr
open PySem L2 TL
theorem spl_len {S : List Nat} : ∀ {l : List Nat} {k : Nat} {acc : List Nat}, (∀ p ∈ spl S k acc l, p.length ≤ acc.length + l.length) ∧ (spl S k acc l).length ≤ l.length + 1
  | [], k, acc => by rw [spl_nil]; exact ⟨fun p hp => by rw [List.mem_singleton.mp hp]; simp, by simp⟩
  | c :: r, 0, acc => by
    by_cases h : pre S (c :: r) = true
    · rw [spl_hit h]
      obtain ⟨z1, z2⟩ := spl_len (S := S) (l := r) (k := S.length - 1) (acc := [])
      refine ⟨fun p hp => ?_, by simp; omega⟩
      rcases List.mem_cons.mp hp with rfl | hp
      · omega
      · have := z1 p hp
        simp at this ⊢
        omega
    · rw [spl_miss (by simpa using h)]
      obtain ⟨z1, z2⟩ := spl_len (S := S) (l := r) (k := 0) (acc := acc ++ [c])
      refine ⟨fun p hp => ?_, by simp; omega⟩
      have := z1 p hp
      simp at this ⊢
      omega
  | c :: r, k + 1, acc => by
    obtain ⟨z1, z2⟩ := spl_len (S := S) (l := r) (k := k) (acc := acc)
    show (∀ p ∈ spl S k acc r, _) ∧ (spl S k acc r).length ≤ _
    refine ⟨fun p hp => ?_, by simp; omega⟩
    have := z1 p hp
    simp
    omega
theorem spl_ne {S : List Nat} : ∀ {l : List Nat} {k : Nat} {acc : List Nat}, spl S k acc l ≠ []
  | [], k, acc => by rw [spl_nil]; simp
  | c :: r, 0, acc => by
    by_cases h : pre S (c :: r) = true
    · rw [spl_hit h]; simp
    · rw [spl_miss (by simpa using h)]; exact spl_ne
  | c :: r, k + 1, acc => spl_ne (S := S) (l := r) (k := k) (acc := acc)
theorem split_ne {x y : Str} (hy : tl y ≠ []) (hk : y.cps.all (· < 256) = true) : ∃ w ys, Txt.split x y = w :: ys := by
  have e := split_spl x y hy (kind_ok hk)
  cases h : Txt.split x y with
  | nil => rw [h] at e; exact absurd e.symm spl_ne
  | cons w ys => exact ⟨w, ys, rfl⟩
theorem split_len {x y : Str} (hy : tl y ≠ []) (hk : y.cps.all (· < 256) = true) : (∀ p ∈ Txt.split x y, p.length ≤ x.length) ∧ (Txt.split x y).length ≤ x.length + 1 := by
  have e := split_spl x y hy (kind_ok hk)
  obtain ⟨z1, z2⟩ := spl_len (S := tl y) (l := tl x) (k := 0) (acc := [])
  rw [← e] at z1 z2
  refine ⟨fun p hp => ?_, ?_⟩
  · have := z1 (tl p) (List.mem_map_of_mem hp)
    rw [len_tl, len_tl x]
    simpa using this
  · rw [List.length_map] at z2
    rw [len_tl x]
    exact z2
/-- a word of a number, as a number -/
def numOf (y : Str) : Int := (PySem.intText? y).getD 0
theorem figs : figS.cps.toList = [48, 49, 50, 51, 52, 53, 54, 55, 56, 57] := by decide +kernel
theorem fig_of {c : Nat} (h : c ∈ figS.cps.toList) : ∃ d, d < 10 ∧ c = 48 + d := by
  rw [figs] at h
  refine ⟨c - 48, ?_⟩
  simp at h
  omega
theorem isNum_is {y : Str} (h : isNumB y = true) : ∃ n : Nat, n ≤ 99 ∧ y = numS (n : Int) := by
  unfold isNumB at h
  rw [Bool.and_eq_true, List.all_eq_true] at h
  obtain ⟨h1, h2⟩ := h
  have hl : y.length = (tl y).length := len_tl y
  have h1' : ∀ c ∈ tl y, ∃ d, d < 10 ∧ c = 48 + d := fun c hc => fig_of (of_decide_eq_true (h1 c hc))
  rw [Bool.or_eq_true] at h2
  rcases h2 with h2 | h2
  · have h3 := of_decide_eq_true h2
    rw [hl] at h3
    match e : tl y, h3 with
    | [c], _ =>
      obtain ⟨d, hd, rfl⟩ := h1' c (by rw [e]; exact .head _)
      exact ⟨d, by omega, ext_tl (by rw [e, tl_numS, numL_lt hd])⟩
  · rw [Bool.and_eq_true] at h2
    obtain ⟨h3, h4⟩ := h2
    have h3 := of_decide_eq_true h3
    rw [hl] at h3
    match e : tl y, h3 with
    | [c, c2], _ =>
      obtain ⟨d, hd, rfl⟩ := h1' c (by rw [e]; exact .head _)
      obtain ⟨d2, hd2, rfl⟩ := h1' c2 (by rw [e]; exact .tail _ (.head _))
      have h0 : d ≠ 0 := fun z => by
        have e2 : y.cps.toList = [48 + d, 48 + d2] := e
        rw [e2, z] at h4
        simp at h4
      refine ⟨10 * d + d2, by omega, ext_tl ?_⟩
      rw [e, tl_numS]
      rcases numL_two (n := 10 * d + d2) (by omega) with ⟨c, _⟩ | ⟨_, z⟩
      · omega
      · rw [z, show (10 * d + d2) / 10 = d by omega, show (10 * d + d2) % 10 = d2 by omega]
theorem num_of {y : Str} (h : isNumB y = true) : Two (numOf y) ∧ PySem.intText? y = some (numOf y) ∧ y.length ≤ 2 := by
  obtain ⟨n, hn, rfl⟩ := isNum_is h
  have t : Two (n : Int) := ⟨by omega, by omega⟩
  obtain ⟨_, h2, h3, _⟩ := numS_is t
  have e : numOf (numS (n : Int)) = (n : Int) := by unfold numOf; rw [h2]; rfl
  rw [e]
  exact ⟨t, h2, h3⟩
/-- words that are three numbers -/
def wordsNum (ys : List Str) : Option (List Int) := if threeB ys = true then some (ys.map numOf) else none
theorem three_is {ys : List Str} (h : threeB ys = true) : ∃ a b c : Int, ys.map numOf = [a, b, c] ∧ NumsIs ys [a, b, c] ∧ Two a ∧ Two b ∧ Two c := by
  unfold threeB at h
  rw [Bool.and_eq_true, List.all_eq_true] at h
  obtain ⟨h1, h2⟩ := h
  have h1 := of_decide_eq_true h1
  match ys, h1, h2 with
  | [x, y, z], _, h2 =>
    obtain ⟨a1, a2, a3⟩ := num_of (h2 x (.head _))
    obtain ⟨b1, b2, b3⟩ := num_of (h2 y (.tail _ (.head _)))
    obtain ⟨c1, c2, c3⟩ := num_of (h2 z (.tail _ (.tail _ (.head _))))
    refine ⟨_, _, _, rfl, ⟨rfl, rfl, h2, fun i y n e1 e2 => ?_⟩, a1, b1, c1⟩
    match i with
    | 0 => cases e1; cases e2; exact ⟨a2, a3⟩
    | 1 => cases e1; cases e2; exact ⟨b2, b3⟩
    | 2 => cases e1; cases e2; exact ⟨c2, c3⟩
    | i + 3 => simp at e1
/-- the store of a text's first row -/
def storeRow (z : Str) : Option (List Int) := match Txt.split z " " with
  | [] => none
  | w :: ys => if w = ("store" : Str) then wordsNum ys else none
def stepW (x : Str) : Option Stp := match wordsNum (Txt.split x ",") with
  | some [a, b, c] => some ⟨a, b, c⟩
  | _ => none
/-- the steps of a machine's row -/
def stepsW : List Str → Option (List Stp)
  | [] => some []
  | x :: r => match stepW x, stepsW r with
    | some st, some l => some (st :: l)
    | _, _ => none
def machRow (z : Str) : Option (List Stp) := match Txt.split z " " with
  | [] => none
  | w :: ys => if w = ("machine" : Str) then stepsW ys else none
inductive Vd where
  | text (k : Nat)
  | store
  | step (k j : Nat)
  | told (w : Wld)
def machRows : Nat → List Str → Nat ⊕ List (List Stp)
  | _, [] => .inr []
  | k, r :: rs => match machRow r with
    | none => .inl k
    | some ss => match machRows (k + 1) rs with
      | .inl i => .inl i
      | .inr l => .inr (ss :: l)
def worldV (w : Wld) : Vd := if storeB w.cap w.start w.refill = true then (match badMs w.cap 0 w.ms with
    | some (k, j) => .step k j
    | none => .told w) else .store
def verdict (z : Str) : Vd := match Txt.split z "\n" with
  | [] => .text 0
  | r :: rs => match storeRow r with
    | some [c, s, f] => (match machRows 1 rs with
      | .inl k => .text k
      | .inr ms => worldV ⟨c, s, f, ms⟩)
    | _ => .text 0

theorem sp_ok : tl (" " : Str) ≠ [] ∧ (" " : Str).cps.all (· < 256) = true := by decide +kernel
theorem co_ok : tl ("," : Str) ≠ [] ∧ ("," : Str).cps.all (· < 256) = true := by decide +kernel
theorem nl_ok : tl ("\n" : Str) ≠ [] ∧ ("\n" : Str).cps.all (· < 256) = true := by decide +kernel
theorem stepW_some {x : Str} (h : threeB (Txt.split x ",") = true) : ∃ st, stepW x = some st ∧ NumsIs (Txt.split x ",") [st.draw, st.long, st.back] ∧ StpTwo st := by
  obtain ⟨a, b, c, e, hn, ta, tb, tc⟩ := three_is h
  refine ⟨⟨a, b, c⟩, ?_, hn, ta, tb, tc⟩
  unfold stepW wordsNum
  rw [if_pos h, e]
theorem stepW_none {x : Str} (h : threeB (Txt.split x ",") = false) : stepW x = none := by
  unfold stepW wordsNum
  rw [if_neg (by rw [h]; decide)]
theorem steps_some : ∀ {ys : List Str}, (∀ x ∈ ys, threeB (Txt.split x ",") = true) → ∃ ss, stepsW ys = some ss ∧ ss.length = ys.length ∧ (∀ st ∈ ss, StpTwo st) ∧ ∀ (i : Nat) (x : Str), ys[i]? = some x → ∃ st, ss[i]? = some st ∧ NumsIs (Txt.split x ",") [st.draw, st.long, st.back]
  | [], _ => ⟨[], rfl, rfl, (fun _ h => by cases h), fun i x h => by simp at h⟩
  | x :: r, h => by
    obtain ⟨st, h1, h2, h3⟩ := stepW_some (h x (.head _))
    obtain ⟨ss, g1, g2, g3, g4⟩ := steps_some (ys := r) fun y hy => h y (.tail _ hy)
    refine ⟨st :: ss, ?_, by rw [List.length_cons, g2, List.length_cons], fun y hy => ?_, fun i y hy => ?_⟩
    · show (match stepW x, stepsW r with | some st, some l => some (st :: l) | _, _ => none) = _
      rw [h1, g1]
    · rcases List.mem_cons.mp hy with rfl | hy
      · exact h3
      · exact g3 y hy
    · match i with
      | 0 => cases hy; exact ⟨st, rfl, h2⟩
      | i + 1 => exact g4 i y hy
theorem steps_none : ∀ {ys : List Str}, (¬ ∀ x ∈ ys, threeB (Txt.split x ",") = true) → stepsW ys = none
  | [], h => absurd (fun x hx => by cases hx) h
  | x :: r, h => by
    show (match stepW x, stepsW r with | some st, some l => some (st :: l) | _, _ => none) = none
    by_cases c : threeB (Txt.split x ",") = true
    · rw [steps_none (ys := r) fun z => h fun y hy => by
        rcases List.mem_cons.mp hy with rfl | hy
        · exact c
        · exact z y hy]
      cases stepW x <;> rfl
    · rw [stepW_none (by simpa using c)]
theorem rows_bad : ∀ {rs : List Str} {k i : Nat} {q : Str}, rs[i]? = some q → (∀ j q', j < i → rs[j]? = some q' → machRow q' ≠ none) → machRow q = none → machRows k rs = .inl (k + i)
  | [], k, i, q, h, _, _ => by simp at h
  | r :: rs, k, 0, q, h, _, hb => by
    cases h
    show (match machRow r with | none => Sum.inl k | some ss => _) = _
    rw [hb]
    rfl
  | r :: rs, k, i + 1, q, h, hg, hb => by
    have z := rows_bad (rs := rs) (k := k + 1) (i := i) h (fun j q' hj e => hg (j + 1) q' (by omega) e) hb
    show (match machRow r with | none => Sum.inl k | some ss => (match machRows (k + 1) rs with | .inl i => Sum.inl i | .inr l => .inr (ss :: l))) = _
    cases c : machRow r with
    | none => exact absurd c (hg 0 r (by omega) rfl)
    | some ss =>
      rw [z]
      show (Sum.inl (k + 1 + i) : Nat ⊕ List (List Stp)) = _
      rw [show k + 1 + i = k + (i + 1) by omega]
theorem rows_good : ∀ {rs : List Str} {k : Nat}, (∀ (j : Nat) q', rs[j]? = some q' → machRow q' ≠ none) → ∃ ms, machRows k rs = .inr ms ∧ ms.length = rs.length ∧ ∀ (j : Nat) q, rs[j]? = some q → ∃ ss, ms[j]? = some ss ∧ machRow q = some ss
  | [], k, _ => ⟨[], rfl, rfl, fun j q h => by simp at h⟩
  | r :: rs, k, h => by
    obtain ⟨ms, e, hl, hm⟩ := rows_good (rs := rs) (k := k + 1) fun j q' e => h (j + 1) q' e
    cases c : machRow r with
    | none => exact absurd c (h 0 r rfl)
    | some ss =>
      refine ⟨ss :: ms, ?_, by rw [List.length_cons, hl, List.length_cons], fun j q hq => ?_⟩
      · show (match machRow r with | none => Sum.inl k | some ss => (match machRows (k + 1) rs with | .inl i => Sum.inl i | .inr l => .inr (ss :: l))) = _
        rw [c, e]
      · match j with
        | 0 => cases hq; exact ⟨ss, rfl, c⟩
        | j + 1 => exact hm j q hq
theorem mach_two {z : Str} {ss : List Stp} (h : machRow z = some ss) : ∀ st ∈ ss, StpTwo st := by
  unfold machRow at h
  split at h
  · cases h
  · rename_i w ys e
    split at h
    · by_cases c : ∀ x ∈ ys, threeB (Txt.split x ",") = true
      · obtain ⟨ss', g1, _, g3, _⟩ := steps_some c
        rw [g1] at h
        cases h
        exact g3
      · rw [steps_none c] at h
        cases h
    · cases h
theorem store_row {z : Str} {l : List Int} (h : storeRow z = some l) : ∃ c s f, l = [c, s, f] ∧ Two c ∧ Two s ∧ Two f := by
  unfold storeRow at h
  split at h
  · cases h
  · rename_i w ys e
    split at h
    · unfold wordsNum at h
      split at h
      · rename_i ht
        obtain ⟨a, b, c, e2, _, ta, tb, tc⟩ := three_is ht
        rw [e2] at h
        cases h
        exact ⟨a, b, c, rfl, ta, tb, tc⟩
      · cases h
    · cases h
end Obr
/-! ### an exception that leaves a comprehension -/
namespace Obr
open PySem PySem.Spec PyProof.Rows L2 LamX NdefX
section
variable {X : Cx} {pins : List (Addr × Obj)} {σ : L2.St} {H : Hp} {s s' : Shared} {W : WX} {E : L2.XK} {u : Value} {cenv : Env} {m : Str → Option Value}
theorem raise_out (I : Inv X pins σ H s) (c : L2.CX X.prog X.w X.stack H s E u s') (hs : X.stack = X.env :: X.outer) (hf : X.env.frame = some X.env.locals) (hcf : cenv.frame = X.env.frame) (n0 : s.heap.Ns cenv.locals m) (hC : H cenv.locals = none) (fC : cenv.locals ∉ frs X.stack)
    (aC : Away X pins cenv.locals) (tk : Takes X W) (hW : ∀ cls d H', E cls d H' → W cls d σ H') : notedBy (model X.prog X.w) X.A cenv (CompFails (model X.prog X.w) X.A X.xe cenv) u s' := by
  obtain ⟨a, B, H1, cls, d, rfl, fl, hok, ub, na, os, ag, hE⟩ := c
  obtain ⟨B0, b1, b2⟩ := restrict B fun b => decide (b ≠ cenv.locals)
  have toB : ∀ b o, B0.get? b = some o → B.get? b = some o ∧ b ≠ cenv.locals := fun b o e => by
    by_cases h : b = cenv.locals
    · rw [b2 b (by simpa using h)] at e
      cases e
    · rw [b1 b (by simpa using h)] at e
      exact ⟨e, h⟩
  have ofB : ∀ b o, B.get? b = some o → b ≠ cenv.locals → B0.get? b = some o := fun b o e h => by rw [b1 b (by simpa using h)]; exact e
  have noB : ∀ b, B.get? b = none → B0.get? b = none := fun b e => by
    cases q : B0.get? b with
    | none => rfl
    | some o => rw [(toB b o q).1] at e; cases e
  have hfr : X.A.frames = some (X.env :: X.outer) := by rw [I.ok.frames, hs]
  obtain ⟨f1, f2, f3, oe, vs, T, oT, ts, q1, q2, q3, q4, q5, q6, q7, q8, q9⟩ := fl
  have f30 : s'.heap.FunFrames B0 X.stack := funFrames_none f3 fun L hL => noB L (f3.mem hL).1
  have fl0 : HandSPX.FlyingZ B0 (X.env :: X.outer) a (Zc cls d) s'.heap := ⟨fun b o e => f1 b o (toB b o e).1, noB a f2, hs ▸ f30, oe, vs, T, oT, ts, q1, q2, q3, q4, noB T q5, q6, q7, q8, q9⟩
  clear q1 q2 q3 q4 q5 q6 q7 q8 q9
  obtain ⟨oC, hoC⟩ : ∃ o, s.heap.get? cenv.locals = some o := by
    obtain ⟨o, _, _, ho, _⟩ := n0
    exact ⟨o, ho⟩
  have kC := ub.keep _ _ hoC hC fC
  have hC1 : H1 cenv.locals = none := ub.free _ _ hoC hC
  have n1 : s'.heap.Ns cenv.locals m := n0.at' fun o e => f1 _ _ (ub.keep _ _ e hC fC)
  show wpAny _ X.A (noteFrame (.ref a) cenv) _ _ s'
  rw [noteFrame_env _ hcf]
  refine HandSPX.looks_onZ Zc.steady hfr hf fl0 fun h1 hh up1 => ?_
  have n2 : h1.Ns cenv.locals m := n1.upToSlots up1
  refine ⟨m, n2, fun h2 m2 n3 s2 => ?_⟩
  obtain ⟨k1, k2, k3, oe, vs, T, oT, ts, q1, q2, q3, q4, q5, q6, q7, q8, q9⟩ := hh
  have notC : ∀ b o ws, h1.get? b = some o → o.data = .fields ws → b ≠ cenv.locals := fun b o ws e ed z => by
    obtain ⟨o2, es, ep, ho2, hd2, _⟩ := n2
    rw [z, ho2] at e
    cases e
    rw [hd2] at ed
    cases ed
  have at2 : ∀ b o, h1.get? b = some o → b ≠ cenv.locals → h2.get? b = some o := fun b o e h => (s2.2 b h).trans e
  have hh2 : HandSPX.HeldZ B0 (X.env :: X.outer) a (Zc cls d) X.env.locals h2 := ⟨fun b o e => at2 b o (k1 b o e) (toB b o e).2, k2, Heap.FunFrames.sameBut s2 n3 k3, oe, vs, T, oT, ts, at2 _ _ q1 (notC _ _ _ q1 q3), q2, q3, q4, q5, q6, at2 _ _ q7 (notC _ _ _ q7 q8), q8, q9⟩
  unfold PySem.passOn
  refine wpAny_bind (wpAny_field (at2 _ _ q1 (notC _ _ _ q1 q3)) q3 q4 ?_)
  rw [if_neg (show ¬ ((Value.ref T == Value.none) = true) from by simp), hcf, hf]
  refine wpAny_bind (HandSPX.setFlight_onZ (s := { s' with heap := h2 }) hh2 fun h3 hh3 up3 => ?_)
  refine wpAny_throw (tk _ _ ?_)
  obtain ⟨G, g1, g2⟩ := restrict h3 fun b => (B0.get? b).isSome || decide (b ∈ frs X.stack)
  have st : B0.StaysIn h3 := hh3.1
  have gB : ∀ b o, B0.get? b = some o → G.get? b = some o := fun b o e => by
    rw [g1 b (by rw [e]; rfl)]
    exact st b o e
  have gF : ∀ b, b ∈ frs X.stack → G.get? b = h3.get? b := fun b hb => g1 b (by rw [decide_eq_true hb, Bool.or_true])
  have og : ∀ b o, G.get? b = some o → h3.get? b = some o ∧ ((B0.get? b).isSome = true ∨ b ∈ frs X.stack) := fun b o e => by
    by_cases q : ((B0.get? b).isSome || decide (b ∈ frs X.stack)) = true
    · rw [g1 b q] at e
      refine ⟨e, ?_⟩
      rcases Bool.or_eq_true _ _ ▸ q with q | q
      · exact .inl q
      · exact .inr (of_decide_eq_true q)
    · rw [g2 b (by simpa using q)] at e
      cases e
  have slot : ∀ b o, s.heap.get? b = some o → b ∈ frs X.stack → ∃ sl, G.get? b = some { o with slots := sl } := fun b o e hb => by
    obtain ⟨sl, e1⟩ := ub.slot b o e hb
    obtain ⟨_, o0, e0, hnf⟩ := I.stack.mem hb
    rw [e] at e0
    cases e0
    obtain ⟨sl1, e2⟩ := up1 b _ e1 hnf
    have e3 := at2 b _ e2 fun z => fC (z ▸ hb)
    obtain ⟨sl2, e4⟩ := up3 b _ e3 hnf
    exact ⟨sl2, by rw [gF b hb]; exact e4⟩
  refine ⟨a, B0, { s with heap := G, gens := s'.gens, drawn := s'.drawn, toks := s'.toks }, pins, σ, H1, cls, d, rfl, ?_, fun b o e hb => ?_, Heap.UpToSlots.of_keeps fun b o e => (og b o e).1, .inr (.inr (hs ▸ hh3)), na, os, ag, hW _ _ _ hE⟩
  · refine I.call' (ch := [cenv.locals]) (s' := { s with heap := G, gens := s'.gens, drawn := s'.drawn, toks := s'.toks }) rfl ⟨fun b o e n hb hx => gB b o (ofB b o (ub.keep b o e n hb) fun z => hx (z ▸ List.mem_singleton_self _)), fun b o e n hb hx => slot b o e hb, fun b o e n hx => ub.free b o e n, fun b o e hx => ?_, ub.tups, ub.frzs, ub.tbls⟩ (fun b v e => ?_) ag fun b hb => by rw [List.mem_singleton.mp hb]; exact aC
    · by_cases hb : b ∈ frs X.stack
      · obtain ⟨sl, q⟩ := slot b o e hb
        exact ⟨_, q⟩
      · obtain ⟨o', q⟩ := ub.there b o e hb
        exact ⟨o', gB b o' (ofB b o' q fun z => hx (z ▸ List.mem_singleton_self _))⟩
    · refine (hok b v e).stay (fun c w hc q => gB c w (ofB c w q fun z => ?_)) (fun _ q => q) fun _ _ q => q
      rcases hc with y | y
      · rw [← y, z, hC1] at e
        cases e
      · rw [z, hC1] at y
        cases y
  · obtain ⟨e', h⟩ := og b o e
    rcases h with h | h
    · obtain ⟨o', q⟩ := Option.isSome_iff_exists.mp h
      have z := st b o' q
      rw [e'] at z
      cases z
      exact q
    · exact absurd h hb
end
end Obr
/-! ### [e for t in xs if c], e may raise -/
namespace Obr
open PySem PySem.Spec PyProof.Rows L2 LamX NdefX
/-- a comprehension's block, an exception going out of it -/
abbrev bx (X : Cx) (s : Shared) (H : Hp) (scope : Scope) (cenv : Env) (fp : List Addr) : Cx := (X.blk s H scope cenv fp).wish (notedBy (model X.prog X.w) X.A cenv (CompFails (model X.prog X.w) X.A X.xe cenv))
section
variable {X : Cx} {pins : List (Addr × Obj)} {σ : L2.St} {H : Hp} {s : Shared} {E : L2.XK}
theorem new_notf (I : Inv X pins σ H s) {b : Addr} (h : s.heap.objs.size ≤ b) : b ∉ frs X.stack := fun z => by
  rcases List.mem_cons.mp (I.stkSub _ z) with e | e
  · have h1 := I.lt
    rw [← e] at h1
    exact Nat.lt_irrefl _ (Nat.lt_of_lt_of_le h1 h)
  · exact I.nofs h e
/-- the def's own state again, a comprehension's block being at work -/
theorem back_in {fp : List Addr} {scope : Scope} {cenv : Env} {p2 : List (Addr × Obj)} {σ2 : L2.St} {H2 : Hp} {s2 : Shared} (I : Inv X pins σ H s) (hfp : ∀ b ∈ fp, FpOk X pins H b) (J : Inv (X.blk s H scope cenv fp) p2 σ2 H2 s2) : Inv X pins σ H2 s2 :=
  I.call' (ch := fp) J.os J.base J.hok J.bare fun b hb => by
    obtain ⟨_, h1, _, h2, h3, h4⟩ := hfp b hb
    exact ⟨h2, h1, h3, h4⟩
theorem bx_passes {fp : List Addr} {scope : Scope} {cenv : Env} (I : Inv X pins σ H s) (hfp : ∀ b ∈ fp, FpOk X pins H b) (hC : cenv.locals = s.heap.objs.size) (hs : X.stack = X.env :: X.outer) (hf : X.env.frame = some X.env.locals) (hcf : cenv.frame = X.env.frame) (tk : Takes X fun cls d _ H => E cls d H) : Passes (L2.CX X.prog X.w) (bx X s H scope cenv fp) E := fun p2 σ2 H2 s2 e s3 J c => by
  have J' : Inv (X.blk s H scope cenv fp) p2 σ2 H2 s2 := J.wish _
  obtain ⟨m, hn, _⟩ := J'.loc
  exact raise_out (X := X) (back_in I hfp J') c hs hf hcf hn J'.free (new_notf I (Nat.le_of_eq hC.symm)) (away_new I (Nat.le_of_eq hC.symm)) tk fun _ _ _ w => w
/-- where the block stands between two turns -/
def AtTurn (Y : Cx) (σ : L2.St) (fp : List Addr) (tn : Nat → Heap → Prop) (Wt : Nat → Nat → Hp → Prop) (n : Nat) (s' : Shared) : Prop := ∃ (i : Nat) (G : Hp), Inv Y [] σ G s' ∧ tn i s'.heap ∧ (∀ b ∈ fp, G b = none) ∧ Wt i n G
theorem pe_lcx {elt tg iter : Expr} {ifs : List Expr} {scope : Scope} {own : List (Str × Nat)} {pos : Pos} {wi : TI} {g : TG} {tt : TT} {te : TE} (hs : X.stack = X.env :: X.outer) (hf : X.env.frame = some X.env.locals) (tk : Takes X fun cls d _ H => E cls d H) (hc : X.calm = true) (hN : X.N.Nodup) (hi : PI X tg iter wi) (ok : BlkOk X.N X.env.scope scope own)
    (hg : ∀ (s : Shared) (H : Hp) (C : Addr) (cl : List (Str × Addr)) (fp : List Addr), PG (bx X s H scope (compEnvC scope cl C X.env) fp) tg g) (ht : ∀ (s : Shared) (H : Hp) (C : Addr) (cl : List (Str × Addr)) (fp : List Addr), PTs (bx X s H scope (compEnvC scope cl C X.env) fp) ifs tt)
    (he : ∀ (s : Shared) (H : Hp) (C : Addr) (cl : List (Str × Addr)) (fp : List Addr), Passes (L2.CX X.prog X.w) (bx X s H scope (compEnvC scope cl C X.env) fp) E → PE (bx X s H scope (compEnvC scope cl C X.env) fp) elt te) (hfs : ∀ x, foldedSetIterable iter X.env x = pure x := by intro _; rfl) :
    PE X (.ListComp elt [⟨tg, iter, ifs, 0⟩] scope pos) (tLc wi g tt te (own.map (·.2))) := by
  refine ⟨fun pins s σ H Q I h => ?_⟩
  rw [eval_ListComp]
  refine comprehension_at (use := none) rfl hfs (closure_ok fun y hy e => (ok.free y hy e).elim (fun z => I.ok.has _ (.inl z)) fun z => I.ok.has _ (.inr z)) ok.kind (fun y hy e => by rw [ok.uniq y hy, e])
    (thn (hi.run pins s σ H _ I h) fun xv s1 hx => thn hx fun itv s2 ⟨it, fp, tn, J, H2, eit, I2, T, st2, f2, q⟩ => ?_)
  subst eit
  refine wpAny_newObj_type (newEnv_comp ?_) (by show 0 ≤ sizeLine; decide)
  obtain ⟨D, hD⟩ : ∃ D, D = s2.heap.objs.size := ⟨_, rfl⟩
  obtain ⟨Wt, ⟨n0, w0⟩, turn⟩ := q D (I2.hok.fresh (Nat.le_of_eq hD.symm))
  obtain ⟨s3, e3⟩ : ∃ s3 : Shared, s3 = { s2 with heap := s2.heap.push { cls := .type "list", data := .seq ([] : List Value).toArray } } := ⟨_, rfl⟩
  have keep3 : ∀ b o, s2.heap.get? b = some o → s3.heap.get? b = some o := fun b o e => by rw [e3]; exact Heap.get?_push_of_some _ e
  have young : ∀ b ∈ fp, b < s2.heap.objs.size := fun b hb => by
    obtain ⟨o, e, _⟩ := T.obj _ _ st2 b hb
    exact Heap.lt_size e
  have I3 : Inv X pins σ (upd H2 D (.lst [])) s3 := by
    subst e3
    refine I2.laid (t' := s2.toks) (fun b o e => Heap.get?_push_of_some _ e) (Nat.le_of_eq hD.symm) ⟨Nat.zero_le _, [], 0, .nil, ?_⟩
    rw [hD]
    exact Heap.get?_push_size _ rfl
  have f3 : ∀ b ∈ fp, FpOk X pins (upd H2 D (.lst [])) b ∧ b < s3.heap.objs.size := fun b hb => by
    have z := young b hb
    obtain ⟨o1, o2⟩ := f2 b hb
    refine ⟨⟨by rw [upd_ne (by rw [hD]; exact Nat.ne_of_lt z)]; exact o1, o2⟩, ?_⟩
    rw [e3]
    show b < (s2.heap.push _).objs.size
    rw [Heap.size_push]
    exact Nat.lt_succ_of_lt z
  have B0 := (block_start I3 ok hN f3).wish (notedBy (model X.prog X.w) X.A (compEnvC scope (cellsFrom (s3.heap.objs.size + 1) scope.names (cloFrom X.env.cells scope.names [])) s3.heap.objs.size X.env) (CompFails (model X.prog X.w) X.A X.xe (compEnvC scope (cellsFrom (s3.heap.objs.size + 1) scope.names (cloFrom X.env.cells scope.names [])) s3.heap.objs.size X.env)))
  have pg := hg s3 (upd H2 D (.lst [])) s3.heap.objs.size (cellsFrom (s3.heap.objs.size + 1) scope.names (cloFrom X.env.cells scope.names [])) fp
  have pt := ht s3 (upd H2 D (.lst [])) s3.heap.objs.size (cellsFrom (s3.heap.objs.size + 1) scope.names (cloFrom X.env.cells scope.names [])) fp
  have pe := he s3 (upd H2 D (.lst [])) s3.heap.objs.size (cellsFrom (s3.heap.objs.size + 1) scope.names (cloFrom X.env.cells scope.names [])) fp (bx_passes I3 (fun b hb => (f3 b hb).1) rfl hs hf rfl tk)
  have st4 : tn 0 (pushCells (s3.heap.push { cls := .type "dict", data := .dict #[] }) scope.names) := T.keep _ _ _ st2 fun b _ o e => pushCells_keeps _ _ _ _ (Heap.get?_push_of_some _ (keep3 b o e))
  have nofp : ∀ b ∈ fp, (upd H2 D (.lst [])) b = none := fun b hb => (f3 b hb).1.1
  subst e3
  show codeAny (model X.prog X.w) X.A (.compStart (.ListComp elt [⟨tg, iter, ifs, 0⟩] scope pos) 0 (.ref it) (.ref s2.heap.objs.size) (compEnvC scope (cellsFrom ((s2.heap.push { cls := .type "list", data := .seq ([] : List Value).toArray }).objs.size + 1) scope.names (cloFrom X.env.cells scope.names [])) (s2.heap.push { cls := .type "list", data := .seq ([] : List Value).toArray }).objs.size X.env)) (compEnds (model X.prog X.w) X.A X.xe none (EP X pins σ Q) (.ref s2.heap.objs.size) (compEnvC scope (cellsFrom ((s2.heap.push { cls := .type "list", data := .seq ([] : List Value).toArray }).objs.size + 1) scope.names (cloFrom X.env.cells scope.names [])) (s2.heap.push { cls := .type "list", data := .seq ([] : List Value).toArray }).objs.size X.env))
    { s2 with heap := pushCells ((s2.heap.push { cls := .type "list", data := .seq ([] : List Value).toArray }).push { cls := .type "dict", data := .dict #[] }) scope.names }
  rw [← hD]
  have aC : Away X pins (s2.heap.push { cls := .type "list", data := .seq ([] : List Value).toArray }).objs.size := away_new I3 (Nat.le_refl _)
  have hCl : (compEnvC scope (cellsFrom ((s2.heap.push { cls := .type "list", data := .seq ([] : List Value).toArray }).objs.size + 1) scope.names (cloFrom X.env.cells scope.names [])) (s2.heap.push { cls := .type "list", data := .seq ([] : List Value).toArray }).objs.size X.env).locals = (s2.heap.push { cls := .type "list", data := .seq ([] : List Value).toArray }).objs.size := rfl
  generalize (compEnvC scope (cellsFrom ((s2.heap.push { cls := .type "list", data := .seq ([] : List Value).toArray }).objs.size + 1) scope.names (cloFrom X.env.cells scope.names [])) (s2.heap.push { cls := .type "list", data := .seq ([] : List Value).toArray }).objs.size X.env) = ce at B0 pg pt pe hCl ⊢
  rw [← hCl] at aC
  generalize hS : ({ s2 with heap := s2.heap.push { cls := .type "list", data := .seq ([] : List Value).toArray } } : Shared) = s3 at I3 B0 pg pt pe f3 st4
  generalize (upd H2 D (.lst [])) = H3 at I3 B0 pg pt pe f3 nofp w0
  have stat : ∀ {σ' : L2.St} {G : Hp} {s' : Shared}, Inv (bx X s3 H3 scope ce fp) [] σ' G s' → (∀ b ∈ fp, G b = none) → ∀ b ∈ fp, FpOk (bx X s3 H3 scope ce fp) [] G b := fun {σ' G s'} Jx hn b hb => by
    obtain ⟨z1, z2⟩ := Jx.ok.exf b hb
    exact ⟨hn b hb, z1, Jx.ok.exfs b hb, .inl hb, fun x c e => z2 x c e, fun p hp => by cases hp⟩
  have loop : ∀ s4 : Shared, Inv (bx X s3 H3 scope ce fp) [] (wipe σ (own.map (·.2))) H3 s4 → tn 0 s4.heap → codeAny (model X.prog X.w) X.A (.compLoop (.ListComp elt [⟨tg, iter, ifs, 0⟩] scope pos) 0 (.ref it) (.ref D) ce) (compEnds (model X.prog X.w) X.A X.xe none (EP X pins σ Q) (.ref D) ce) s4 := fun s4 J4 t4 => by
    refine compLoop_any (AtTurn (bx X s3 H3 scope ce fp) (wipe σ (own.map (·.2))) fp tn Wt) (fun n s5 ⟨i, G5, J5, st5, nf5, w5⟩ => ?_) n0 ⟨0, H3, J4, t4, nofp, w0⟩
    rcases turn i n G5 w5 with ⟨stop, fin⟩ | ⟨go, Nx, down, step⟩
    · refine thn (T.done (bx X s3 H3 scope ce fp) rfl rfl rfl hc i [] s5 _ G5 _ J5 (stat J5 nf5) st5 stop) fun r s6 ⟨er, J6⟩ => ?_
      subst er
      have J6' := J6.unwish
      obtain ⟨m, hm, _⟩ := J6'.loc
      refine ⟨m, hm, fun h' same => ⟨.ref D, G5, inv_ch (ch := [ce.locals]) (tk := s6.toks) (back_in I3 (fun b hb => (f3 b hb).1) J6') (fun b hb => by rw [List.mem_singleton.mp hb]; exact aC) (fun b hb => by rw [List.mem_singleton.mp hb]; exact J6'.free) (fun b o hb e => (same.2 b fun z => hb (z ▸ List.mem_singleton_self _)).trans e), rfl, fin⟩⟩
    · refine thn (T.item (bx X s3 H3 scope ce fp) rfl rfl rfl hc i [] s5 _ G5 _ J5 (stat J5 nf5) st5 go) fun r s6 ⟨u, er, h6⟩ => ?_
      subst er
      refine thn h6 fun _ s7 ⟨x, G7, J7, r7, y7, st7, nf7⟩ => ?_
      refine thn (pg.run _ s7 _ G7 x u _ (J7.pinned (stat J7 nf7) (T.obj _ _ st7)) r7 (step x G7 y7)) fun _ s8 ⟨σ8, G8, J8, hw8, q8⟩ => ?_
      have again : ∀ {s' : Shared} {G' : Hp}, Inv (bx X s3 H3 scope ce fp) ([] ++ pinsAt fp s7.heap) σ8 G' s' → Nx G' → ∃ m, m < n ∧ AtTurn (bx X s3 H3 scope ce fp) (wipe σ (own.map (·.2))) fp tn Wt m s' := fun {s' G'} Jn nx => by
        obtain ⟨m', lt, w'⟩ := down G' nx
        have pinned : ∀ b ∈ fp, ∀ o, s7.heap.get? b = some o → s'.heap.get? b = some o ∧ G' b = none := fun b hb o e => by
          obtain ⟨y1, y2, _⟩ := Jn.pin (b, o) (List.mem_append_right _ (List.mem_append_right _ (mem_pinsAt hb e)))
          exact ⟨y1, y2⟩
        refine ⟨m', lt, i + 1, G', Jn.unpinned.weak ?_ (fun j v e => ?_), T.keep _ _ _ st7 fun b hb o e => (pinned b hb o e).1, fun b hb => ?_, w'⟩
        · have z := congrArg List.length hw8
          rw [wipe_length, wipe_length] at z
          rw [wipe_length]
          exact z.symm
        · rw [← hw8] at e
          exact (wipe_some e).1
        · obtain ⟨o, e, _⟩ := T.obj _ _ st7 b hb
          exact (pinned b hb o e).2
      refine thn (pt.run _ s8 σ8 G8 _ J8 q8) fun b s9 ⟨G9, J9, q9⟩ => ?_
      cases b with
      | false => exact again J9 q9
      | true =>
        refine thn (pe.run _ s9 σ8 G9 _ J9 q9) fun z s10 ⟨yv, G10, J10, r10, acc, hD10, hz10, nx⟩ => ?_
        exact app_ok (X := bx X s3 H3 scope ce fp) J10 hD10 hz10 r10 fun s11 J11 => again J11 nx
  have L := loop _ B0 st4
  subst hS
  exact codeAny_compStart_list L (T.self X.A 0 _ _ _ st4 L)
end
end Obr
namespace Obr
open PySem PySem.Spec L2 PyProof.Rows TL
local macro_rules | `(tactic| walk_at "ob_at") => `(tactic| first
  | assumption
  | exact upd_same
  | (refine Eq.trans (upd_ne ?obn) ?obr; (case obn => walk_at "ob_ne"); (case obr => walk_at "ob_at")))
local macro_rules | `(tactic| walk_at "ob_ne") => `(tactic| first
  | assumption
  | (refine Ne.symm ?obs; (case obs => assumption))
  | (refine' ne_of_none (H := ?_) ?obe ?obh; (case obh => assumption); (case obe => walk_at "ob_at"))
  | (refine Ne.symm ?obs; (case obs => (refine' ne_of_none (H := ?_) ?obe ?obh; (case obh => assumption); (case obe => walk_at "ob_at")))))
local macro_rules | `(tactic| walk_at "ob_fr") => `(tactic| first
  | assumption
  | (refine Eq.trans (upd_ne ?obn) ?obr; (case obn => walk_at "ob_ne"); (case obr => walk_at "ob_fr"))
  | (refine Ex.free (G := ?_) (by assumption) ?obh; (case obh => walk_at "ob_fr")))
local macro_rules | `(tactic| walk_at "ob_ex") => `(tactic| first
  | assumption
  | exact Ex.refl _
  | (refine Ex.out ?obg ?obh; (case obh => assumption); (case obg => walk_at "ob_ex"))
  | (refine Ex.new ?obg ?obh; (case obh => assumption); (case obg => walk_at "ob_ex"))
  | (refine Ex.new ?obg ?obh; (case obh => walk_at "ob_fr"); (case obg => walk_at "ob_ex")))
local macro_rules | `(tactic| walk_at "ob_sq") => `(tactic| first
  | assumption
  | (refine SqL.of ?oba; (case oba => walk_at "ob_at"))
  | (refine Ex.sqT (F := ?_) ?obg ?obh; (case obh => assumption); (case obg => walk_at "ob_ex"))
  | (refine Ex.sqL (F := ?_) ?obg ?obh; (case obh => assumption); (case obg => walk_at "ob_ex"))
  | (refine SqT.of ?oba; (case oba => walk_at "ob_at")))
local macro_rules | `(tactic| walk_at "ob_side") => `(tactic| first | exact rfl | assumption | decide | omega | exact ⟨by decide, by decide, by decide⟩ | exact Or.inr ⟨by decide, by decide⟩ | exact Or.inl ⟨by decide, by decide⟩ | exact wide_div (b := 60) (by first | decide | omega) (by first | decide | omega) (by decide) (by decide))
local macro_rules | `(tactic| walk_at "ob1") => `(tactic| first
  | with_reducible refine sw_seq ?_
  | with_reducible refine sw_asg ?_
  | with_reducible refine sw_ret ?_
  | with_reducible refine sw_par ?_
  | with_reducible refine ⟨_, _, rfl, ?_⟩
  | with_reducible refine sw_drop ?_
  | with_reducible refine sw_if ?_
  | with_reducible refine sw_next ?_
  | with_reducible refine gw_name ?_
  | with_reducible refine gw_subL (by assumption) ?_
  | with_reducible refine gsw_cons ?_
  | with_reducible refine gsw_nil ?_
  | with_reducible refine ew_c ?_
  | ((with_reducible refine' ew_var (v := ?_) ?obv ?_); (case obv => exact rfl))
  | ((with_reducible refine ew_next (by assumption) ?obv ?_); (case obv => exact rfl))
  | ((with_reducible refine ew_world (by assumption) ?obv ?_); (case obv => exact rfl))
  | ((with_reducible refine ew_rule (by assumption) ?obv ?_); (case obv => exact rfl))
  | with_reducible refine ew_op ?_
  | with_reducible refine ew_un ?_
  | with_reducible refine ew_dget (by assumption) ?_
  | with_reducible refine uw_I ?_
  | with_reducible refine ppw_nil ?_
  | with_reducible refine ppw_cons ?_
  | with_reducible refine sw_dput (by assumption) ?_
  | with_reducible refine ew_cb ?_
  | with_reducible refine ew_if ?_
  | with_reducible refine ew_slL (by assumption) ?_
  | with_reducible refine ow_some ?_
  | with_reducible refine ow_none ?_
  | with_reducible refine aw_nil ?_
  | with_reducible refine aw_cons ?_
  | with_reducible refine rw_I0 ?_
  | ((with_reducible refine rw_I ?obc ?_); (case obc => walk_at "ob_side"))
  | with_reducible refine rw_isN ?_
  | with_reducible refine rw_notN ?_
  | ((with_reducible refine rw_eq ?obc ?_); (case obc => exact rfl))
  | ((with_reducible refine rw_ne ?obc ?_); (case obc => exact rfl))
  | with_reducible refine cw_max2 ?_
  | with_reducible refine cw_min2 ?_
  | with_reducible refine tw_test ?_
  | with_reducible refine tw_B ?_
  | with_reducible refine tw_not ?_
  | with_reducible refine tw_truB ?_
  | with_reducible refine tw_and ?_
  | with_reducible refine tw_or ?_
  | with_reducible refine ew_and ?_
  | (refine' Exists.intro _ (And.intro (show V.bl _ = V.bl _ from rfl) ?_))
  | (refine' Exists.intro _ (And.intro (show V.int _ = V.int _ from rfl) ?_))
  | ((with_reducible refine' rw_ixL (v := ?_) (xs := ?_) (by assumption) ?obl ?oba ?_); (case obl => walk_at "ob_sq"); (case oba => first | exact rfl | exact at_zero))
  | ((with_reducible refine' rw_ixT (v := ?_) (xs := ?_) (by assumption) ?obl ?oba ?_); (case obl => walk_at "ob_sq"); (case oba => first | exact rfl | exact at_zero))
  | ((with_reducible refine' ew_lst (by assumption) ?_))
  | ((with_reducible refine' ew_tup (by assumption) ?_)))
local macro_rules | `(tactic| walk_at "ob_len") => `(tactic| first | exact Nat.le_of_ble_eq_true rfl | (simp; done) | omega)
local macro_rules | `(tactic| walk_at "ob") => `(tactic| repeat walk_at "ob1")

/-- BadText is raised with this row -/
def WText (cT : Addr) (k : Int) (F : Hp) (W : WK) : Prop := ∀ dx G, Ex F G → G dx = none → W (.ref cT) (some dx) (upd G dx (.xd [("row", .int k)]))
def aReadStB (K : PySem.W.Frag) (cT : Addr) : List V → Hp → VK → WK → Prop := fun vs F R W => ∃ z : Str, vs = [.str z] ∧ z.length ≤ 10000 ∧ (∀ c s f : Int, storeRow z = some [c, s, f] → ∀ (v : V) (F' : Hp), Ex F F' → Dp K F' v (.tuple [.int c, .int s, .int f]) → R v F') ∧ (storeRow z = none → WText cT 0 F W)
def aReadMB (K : PySem.W.Frag) (cT : Addr) : List V → Hp → VK → WK → Prop := fun vs F R W => ∃ (n : Int) (z : Str), vs = [.int n, .str z] ∧ z.length ≤ 10000 ∧ n.natAbs.log2 < 1000 ∧ (∀ ss, machRow z = some ss → ∀ (v : V) (F' : Hp), Ex F F' → Dp K F' v (macD ss) → R v F') ∧ (machRow z = none → WText cT n F W)
def aReadB (K : PySem.W.Frag) (cT cS cP : Addr) : List V → Hp → VK → WK → Prop := fun vs F R W => ∃ z : Str, vs = [.str z] ∧ z.length ≤ 10000 ∧ (∀ w, verdict z = .told w → ∀ (v : V) (F' : Hp), Ex F F' → Dp K F' v (wldD w) → R v F') ∧ (∀ k : Nat, verdict z = .text k → WText cT (k : Int) F W) ∧ (verdict z = .store → ∀ F', Ex F F' → W (.ref cS) none F') ∧
  ∀ k j : Nat, verdict z = .step k j → ∀ dx G, Ex F G → G dx = none → W (.ref cP) (some dx) (upd G dx (.xd [("step", .int (j : Int)), ("machine", .int (k : Int))]))
theorem dec_strX (a b : Str) : decide (V.str a = V.str b) = decide (a = b) := by
  by_cases h : a = b
  · rw [h]; simp
  · rw [decide_eq_false h, decide_eq_false (fun e => h (by injection e))]
section
variable {P : Program} {w : World} {K : PySem.W.Frag} {mg : Str → Option Value} {base : Heap} {cBadStore cBadStep cBadText fBadText : Addr} {fdBadText : FuncData}

theorem okB_read_store {f : Addr} {fd : FuncData} {f1 f2 : Addr} {fd1 fd2 : FuncData} (Fn : Fun K "read_store" "read_store" s_read_store f fd) (B : Blt mg) (XBadText : XK P w K mg base "BadText" "row" cBadText fBadText fdBadText) (Care_three : Cal K mg "are_three" f1 fd1 ["words"]) (Gare_three : FnOk P w K mg base CX0 3 f1 fd1 ["words"] (LS (aThree K))) (Cread_three : Cal K mg "read_three" f2 fd2 ["words"]) (Gread_three : FnOk P w K mg base CX0 1 f2 fd2 ["words"] (LS (aRead3 K))) : FnOk P w K mg base (L2.CX P w) 4 f fd ["row"] (LB (aReadStB K cBadText)) := by
  refine Fn.okX sc_read_store (fun vs H Q E h => ?_) (fun cdv A outer s H vs Q E hr h => ?_)
  · obtain ⟨J, F, R, W, hd, j, h, _⟩ := h
    obtain ⟨z, rfl, _⟩ := h
    rfl
  · have nd := sc_read_store.nd
    obtain ⟨J, F, R, W, hd, j, h, q, qW⟩ := h
    obtain ⟨z, rfl, hz, k, kW⟩ := h
    refine ⟨_, (pss_cons (ps_set (i := 1) nd rfl (Or.inl rfl) (pe_split (pv 0) pe_str))
      (pss_cons (ps_if (PW.pt (pw_or (pt_cmpR op_ne (pe_ix ix_list (pv 1) pe_int (fun _ _ => rfl)) pe_str (nomark _)) (pw_or1 (pt_not (pt_val (pe_call Gare_three (by exact hr.mono (by decide)) (by rfl) Care_three.g Care_three.k Care_three.a .nil pass0 (pa_cons (pe_slice sl_list (pv 1) (po_some pe_int) po_none) pa_nil))))))) (pss_one (ps_raise rfl (takes_of rfl rfl rfl rfl) (pmk_named XBadText.T XBadText.iC XBadText.tI XBadText.ok (by exact hr.mono (by decide)) XBadText.kb pass0 (by rfl) XBadText.gX (pk_cons pe_int pk_nil)))) pss_nil)
      (pss_one (ps_ret (pe_call Gread_three (by exact hr.mono (by decide)) (by rfl) Cread_three.g Cread_three.k Cread_three.a .nil pass0 (pa_cons (pe_slice sl_list (pv 1) (po_some pe_int) po_none) pa_nil)))))), ?_⟩
    refine LB.body j q ?_
    obtain ⟨hlp, hlw⟩ := split_len (x := z) sp_ok.1 sp_ok.2
    obtain ⟨w0, ys, es⟩ := split_ne (x := z) sp_ok.1 sp_ok.2
    unfold storeRow at k kW
    rw [es] at k kW hlp hlw
    refine sw_seq (sw_asg (ew_split hd (ew_var rfl ⟨z, rfl, ew_c ⟨_, rfl, by decide +kernel, by rw [sizeLine_eq]; omega, fun p hp => gw_name ?_⟩⟩)))
    rw [es]
    have g1 := Ex.new (.refl F) hp (u := .lst ((w0 :: ys).map V.str))
    have e1 : (upd F p (.lst ((w0 :: ys).map V.str))) p = some (.lst ((w0 :: ys).map V.str)) := upd_same
    generalize upd F p (.lst ((w0 :: ys).map V.str)) = G1 at g1 e1
    rw [List.length_cons] at hlw
    refine sw_seq (sw_if (tw_or (tw_test (ew_op (ew_op (ew_var rfl (ew_c (rw_ixL hd (SqL.of e1) at_zero (ew_c (rw_ne rfl ⟨_, rfl, fun h1 => ?_, fun h1 => ?_⟩))))))))))
    · rw [dec_strX, Bool.not_eq_true'] at h1
      have hne : w0 ≠ "store" := of_decide_eq_false h1
      exact ⟨fun _ => sw_raiseA hd XBadText.T XBadText.no (aw_cons (ew_c (aw_nil ⟨0, rfl, by decide, fun dx hdx H' j' => qW _ _ _ _ j' (kW (if_neg hne) dx _ g1 hdx)⟩))), (fun z => by cases z)⟩
    · rw [dec_strX, Bool.not_eq_false'] at h1
      have hw0 : w0 = "store" := of_decide_eq_true h1
      refine tw_not (tw_B (ew_call hd (aw_cons (ew_slL hd (ew_var rfl (ow_some (ew_c ⟨1, rfl, ow_none ⟨p, _, rfl, SqL.of e1, fun q2 hq2 => aw_nil ?_⟩⟩)))))))
      rw [List.map_cons, cutV_one]
      have g2 := Ex.new g1 hq2 (u := .lst (ys.map V.str))
      have g3 := Ex.new (.refl G1) hq2 (u := .lst (ys.map V.str))
      refine ⟨q2, ys, rfl, SqL.of upd_same, by omega, fun y hy => ?_, fun F2 g4 => ⟨_, rfl, fun h2 => ?_, fun h2 => sw_next (sw_ret (ew_call hd (aw_cons (ew_slL hd (ew_var rfl (ow_some (ew_c ⟨1, rfl, ow_none ⟨p, _, rfl, SqL.of (g4 _ _ (g3 _ _ e1)), fun q3 hq3 => aw_nil ?_⟩⟩)))))))⟩⟩
      · have := hlp y (.tail _ hy)
        omega
      · rw [Bool.not_eq_true'] at h2
        have hno : wordsNum ys = none := by unfold wordsNum; rw [if_neg (by rw [h2]; decide)]
        exact sw_raiseA hd XBadText.T XBadText.no (aw_cons (ew_c (aw_nil ⟨0, rfl, by decide, fun dx hdx H' j' => qW _ _ _ _ j' (kW ((if_pos hw0).trans hno) dx _ (g2.trans g4) hdx)⟩)))
      · rw [Bool.not_eq_false'] at h2
        obtain ⟨a1, a2, a3, em, hnum, _, _, _⟩ := three_is h2
        have hyes : wordsNum ys = some [a1, a2, a3] := by unfold wordsNum; rw [if_pos h2, em]
        rw [List.map_cons, cutV_one]
        exact ⟨q3, ys, _, rfl, SqL.of upd_same, hnum, fun v F3 g5 dv => k a1 a2 a3 ((if_pos hw0).trans hyes) v F3 ((g2.trans g4).trans ((Ex.new (.refl _) hq3).trans g5)) dv⟩

theorem okB_read_machine {f : Addr} {fd : FuncData} {f1 f2 : Addr} {fd1 fd2 : FuncData} (Fn : Fun K "read_machine" "read_machine" s_read_machine f fd) (B : Blt mg) (Ball : mg "all" = none) (XBadText : XK P w K mg base "BadText" "row" cBadText fBadText fdBadText) (Care_three : Cal K mg "are_three" f1 fd1 ["words"]) (Gare_three : FnOk P w K mg base CX0 3 f1 fd1 ["words"] (LS (aThree K))) (Cread_three : Cal K mg "read_three" f2 fd2 ["words"]) (Gread_three : FnOk P w K mg base CX0 1 f2 fd2 ["words"] (LS (aRead3 K))) : FnOk P w K mg base (L2.CX P w) 4 f fd ["number", "row"] (LB (aReadMB K cBadText)) := by
  refine Fn.okX sc_read_machine (fun vs H Q E h => ?_) (fun cdv A outer s H vs Q E hr h => ?_)
  · obtain ⟨J, F, R, W, hd, j, h, _⟩ := h
    obtain ⟨n, z, rfl, _⟩ := h
    rfl
  · have nd := sc_read_machine.nd
    obtain ⟨J, F, R, W, hd, j, h, q, qW⟩ := h
    obtain ⟨n, z, rfl, hz, hlog, k, kW⟩ := h
    refine ⟨_, (pss_cons (ps_set (i := 2) nd rfl (Or.inl rfl) (pe_split (pv 1) pe_str))
      (pss_cons (ps_setLc (i := 3) rfl nd rfl rfl (sw_true rfl rfl rfl (by decide +kernel)) (own := [("word", 4)]) (te := (tM1 (fun x xs H Q => ∃ a b, x = .str a ∧ xs = [.str b] ∧ (b.length == 0) = false ∧ a.length + 2 ≤ sizeLine ∧ rNewStrs (Txt.split a b) H Q) (tVar 4) (tC (.str ",")))) (tt := tYes) (pi_list (pe_slice sl_list (pv 2) (po_some pe_int) po_none)) (blkOk_by (own := [("word", 4)]) (N := N_read_machine) (sc := defScope s_read_machine) (by decide +kernel)) (fun _ _ _ _ _ => (pg_name (i := 4) nd rfl (Or.inl rfl))) (fun _ _ _ _ _ => pts_nil) (fun _ _ _ _ _ => (pe_split (pv 4) pe_str)))
      (pss_cons (ps_if (PW.pt (pw_or (pt_cmpR op_ne (pe_ix ix_list (pv 2) pe_int (fun _ _ => rfl)) pe_str (nomark _)) (pw_or1 (pt_not (pt_val (pe_callB (cr_all rfl) (by rfl) Ball (by decide +kernel) (pa_cons (pe_lc (own := [("step", 5)]) (te := (tCall (LS (aThree K)) [] E0 (tCons (tVar 5) tNil))) (tt := tYes) (by rfl) nd (pi_list (pv 3)) (blkOk_by (own := [("step", 5)]) (N := N_read_machine) (sc := defScope s_read_machine) (by decide +kernel)) (fun _ _ _ _ _ => (pg_name (i := 5) nd rfl (Or.inl rfl))) (fun _ _ _ _ _ => pts_nil) (fun _ _ _ _ _ => (pe_call Gare_three (by exact hr.mono (by decide)) (by rfl) Care_three.g Care_three.k Care_three.a .nil pass0 (pa_cons (pv 5) pa_nil)))) pa_nil))))))) (pss_one (ps_raise rfl (takes_of rfl rfl rfl rfl) (pmk_named XBadText.T XBadText.iC XBadText.tI XBadText.ok (by exact hr.mono (by decide)) XBadText.kb pass0 (by rfl) XBadText.gX (pk_cons (pv 0) pk_nil)))) pss_nil)
      (pss_one (ps_ret (pe_callTy call_tuple_of (by rfl) B.tuple (by decide +kernel) (pa_cons (pe_lc (own := [("step", 5)]) (te := (tCall (LS (aRead3 K)) [] E0 (tCons (tVar 5) tNil))) (tt := tYes) (by rfl) nd (pi_list (pv 3)) (blkOk_by (own := [("step", 5)]) (N := N_read_machine) (sc := defScope s_read_machine) (by decide +kernel)) (fun _ _ _ _ _ => (pg_name (i := 5) nd rfl (Or.inl rfl))) (fun _ _ _ _ _ => pts_nil) (fun _ _ _ _ _ => (pe_call Gread_three (by exact hr.mono (by decide)) (by rfl) Cread_three.g Cread_three.k Cread_three.a .nil pass0 (pa_cons (pv 5) pa_nil)))) pa_nil))))))), ?_⟩
    refine LB.body j q ?_
    obtain ⟨hlp, hlw⟩ := split_len (x := z) sp_ok.1 sp_ok.2
    obtain ⟨w0, ws, es⟩ := split_ne (x := z) sp_ok.1 sp_ok.2
    unfold machRow at k kW
    rw [es] at k kW hlp hlw
    refine sw_seq (sw_asg (ew_split hd (ew_var rfl ⟨z, rfl, ew_c ⟨_, rfl, by decide +kernel, by rw [sizeLine_eq]; omega, fun p hp => gw_name ?_⟩⟩)))
    rw [es]
    have g1 := Ex.new (.refl F) hp (u := .lst ((w0 :: ws).map V.str))
    have e1 : (upd F p (.lst ((w0 :: ws).map V.str))) p = some (.lst ((w0 :: ws).map V.str)) := upd_same
    generalize upd F p (.lst ((w0 :: ws).map V.str)) = G1 at g1 e1
    rw [List.length_cons] at hlw
    refine sw_seq (sw_asg (ew_lcLe hd (ew_slL hd (ew_var rfl (ow_some (ew_c ⟨1, rfl, ow_none ⟨p, _, rfl, SqL.of e1, fun q2 hq2 => ?_⟩⟩))))))
    rw [List.map_cons, cutV_one]
    have g2 := Ex.new (.refl G1) hq2 (u := .lst (ws.map V.str))
    refine ⟨q2, ws.map V.str, ws.map fun x => PyData.list ((Txt.split x ",").map PyData.str), rfl, by rw [List.length_map, List.length_map], SqL.of upd_same, by rw [List.length_map]; omega, fun i x Dl acc G hx g3 hD => ?_, fun Dl G2 acc g3 e2 dps => ?_⟩
    · rw [List.getElem?_map] at hx
      obtain ⟨y, hy, rfl⟩ := Option.map_eq_some_iff.mp hx
      have := hlp y (.tail _ (List.mem_of_getElem? hy))
      exact gw_name ⟨rfl, tw_yes ⟨fun _ => ew_split hd.jd (ew_var rfl ⟨y, rfl, ew_c ⟨_, rfl, by decide +kernel, by rw [sizeLine_eq]; omega, fun r hr => ⟨rfl, Ex.new (.refl _) hr, _, PyData.list ((Txt.split y ",").map PyData.str), by rw [List.getElem?_map, hy]; rfl, rfl, .lst (SqL.of upd_same) dps_strs⟩⟩⟩), (fun z => by cases z)⟩⟩
    refine gw_name ?_
    have g4 := g1.trans (g2.trans g3)
    have e3 := (g2.trans g3) _ _ e1
    clear g2 g3 hq2
    generalize upd G1 q2 (.lst (ws.map V.str)) = Gx at *
    have hal := dps_len dps
    rw [List.length_map] at hal
    have row : ∀ (i : Nat) (x : V), acc[i]? = some x → ∃ (y : Str) (a2 : Addr), ws[i]? = some y ∧ x = .ref a2 ∧ SqL K G2 a2 ((Txt.split y ",").map V.str) := fun i x hx => by
      obtain ⟨d, hd1, hd2⟩ := dps_get' dps hx
      rw [List.getElem?_map] at hd1
      obtain ⟨y, hy, rfl⟩ := Option.map_eq_some_iff.mp hd1
      obtain ⟨a2, xs, rfl, l2, d2⟩ := dp_lst hd2
      rw [dps_strs_iff d2] at l2
      exact ⟨y, a2, hy, rfl, l2⟩
    refine sw_seq (sw_if (tw_or (tw_test (ew_op (ew_op (ew_var rfl (ew_c (rw_ixL hd (SqL.of e3) at_zero (ew_c (rw_ne rfl ⟨_, rfl, fun h1 => ?_, fun h1 => ?_⟩))))))))))
    · rw [dec_strX, Bool.not_eq_true'] at h1
      have hne : w0 ≠ "machine" := of_decide_eq_false h1
      exact ⟨fun _ => sw_raiseA hd XBadText.T XBadText.no (aw_cons (ew_var rfl (aw_nil ⟨n, rfl, hlog, fun dx hdx H' j' => qW _ _ _ _ j' (kW (if_neg hne) dx _ g4 hdx)⟩))), (fun z => by cases z)⟩
    rw [dec_strX, Bool.not_eq_false'] at h1
    have hw0 : w0 = "machine" := of_decide_eq_true h1
    refine tw_not (tw_B (ew_cb (aw_cons (ew_lcLd hd (ws.map fun y => PyData.bool (threeB (Txt.split y ","))) (by rw [List.length_map, hal]) (ew_var rfl ⟨rfl, rfl, rfl⟩) (SqL.of e2) (by omega) (fun i x Dl2 acc2 G hx g5 hD => ?_) fun Dl2 G3 acc2 g5 e4 dps2 => ?_))))
    · obtain ⟨y, a2, hy, rfl, l2⟩ := row i x hx
      have hly := hlp y (.tail _ (List.mem_of_getElem? hy))
      obtain ⟨c1, c2⟩ := split_len (x := y) co_ok.1 co_ok.2
      exact gw_name ⟨rfl, tw_yes ⟨fun _ => ew_call hd.jd (aw_cons (ew_var rfl (aw_nil ⟨a2, _, rfl, g5.sqL l2, by omega, fun y2 hy2 => by have := c1 y2 hy2; omega, fun F2 g6 => ⟨rfl, g6, _, PyData.bool (threeB (Txt.split y ",")), by rw [List.getElem?_map, hy]; rfl, rfl, .bl _⟩⟩))), (fun z => by cases z)⟩⟩
    have e5 : acc2 = (ws.map fun y => threeB (Txt.split y ",")).map V.bl := dps_bls_iff (by rw [List.map_map]; exact dps2)
    subst e5
    refine aw_nil (cw_allN hd (SqL.of e4) ⟨_, rfl, fun h2 => ?_, fun h2 => sw_next ?_⟩)
    · rw [Bool.not_eq_true', List.all_map] at h2
      have hno : stepsW ws = none := steps_none fun hall => by
        rw [List.all_eq_false] at h2
        obtain ⟨x, hx, hne⟩ := h2
        exact hne (hall x hx)
      exact sw_raiseA hd XBadText.T XBadText.no (aw_cons (ew_var rfl (aw_nil ⟨n, rfl, hlog, fun dx hdx H' j' => qW _ _ _ _ j' (kW ((if_pos hw0).trans hno) dx _ (g4.trans g5) hdx)⟩)))
    · rw [Bool.not_eq_false', List.all_map, List.all_eq_true] at h2
      obtain ⟨ss, s1, s2, s3, s4⟩ := steps_some h2
      have k := k ss ((if_pos hw0).trans s1)
      refine sw_ret (ew_cb (aw_cons (ew_lcLd hd (ss.map stpD) (by rw [List.length_map, hal, s2]) (ew_var rfl ⟨rfl, rfl, rfl⟩) (SqL.of (g5 _ _ e2)) (by omega) (fun i x Dl3 acc3 G hx g6 hD => ?_) fun Dl3 G4 acc3 g6 e6 dps3 => ?_)))
      · obtain ⟨y, a2, hy, rfl, l2⟩ := row i x hx
        obtain ⟨st, h1, h3⟩ := s4 i y hy
        exact gw_name ⟨rfl, tw_yes ⟨fun _ => ew_call hd.jd (aw_cons (ew_var rfl (aw_nil ⟨a2, _, _, rfl, (g5.trans g6).sqL l2, h3, fun v F2 g7 dv => ⟨rfl, g7, _, stpD st, by rw [List.getElem?_map, h1]; rfl, rfl, dv⟩⟩))), (fun z => by cases z)⟩⟩
      · exact aw_nil (cw_tuple hd (SqL.of e6) fun q4 hq4 => k (.ref q4) _ (g4.trans (g5.trans (g6.trans (Ex.new (.refl _) hq4)))) (.tup (SqT.of upd_same) (dps_ex (Ex.new (.refl _) hq4) dps3)))

theorem okB_read {f : Addr} {fd : FuncData} {f1 f2 f3 : Addr} {fd1 fd2 fd3 : FuncData} (Fn : Fun K "read" "read" s_read f fd) (B : Blt mg) (Cread_store : Cal K mg "read_store" f1 fd1 ["row"]) (Gread_store : FnOk P w K mg base (L2.CX P w) 4 f1 fd1 ["row"] (LB (aReadStB K cBadText))) (Cread_machine : Cal K mg "read_machine" f2 fd2 ["number", "row"]) (Gread_machine : FnOk P w K mg base (L2.CX P w) 4 f2 fd2 ["number", "row"] (LB (aReadMB K cBadText))) (Ccheck_world : Cal K mg "check_world" f3 fd3 ["world"]) (Gcheck_world : FnOk P w K mg base (L2.CX P w) 4 f3 fd3 ["world"] (LB (aChkWB K cBadStore cBadStep))) : FnOk P w K mg base (L2.CX P w) 5 f fd ["text"] (LB (aReadB K cBadText cBadStore cBadStep)) := by
  refine Fn.okX sc_read (fun vs H Q E h => ?_) (fun cdv A outer s H vs Q E hr h => ?_)
  · obtain ⟨J, F, R, W, hd, j, h, _⟩ := h
    obtain ⟨z, rfl, _⟩ := h
    rfl
  · have nd := sc_read.nd
    obtain ⟨J, F, R, W, hd, j, h, q, qW⟩ := h
    obtain ⟨z, rfl, hz, k, kT, kS, kP⟩ := h
    refine ⟨_, (pss_cons (ps_set (i := 1) nd rfl (Or.inl rfl) (pe_split (pv 0) pe_str))
      (pss_cons (ps_set (i := 2) nd rfl (Or.inl rfl) (pe_call Gread_store (by exact hr.mono (by decide)) (by rfl) Cread_store.g Cread_store.k Cread_store.a .nil (passes_call (takes_of rfl rfl rfl rfl) (fun _ _ _ _ h => h)) (pa_cons (pe_ix ix_list (pv 1) pe_int (fun _ _ => rfl)) pa_nil)))
      (pss_cons (ps_set (i := 3) nd rfl (Or.inl rfl) (pe_callTy call_tuple_of (by rfl) B.tuple (by decide +kernel) (pa_cons (pe_lcx rfl rfl (takes_of rfl rfl rfl rfl) (own := [("number", 5), ("row", 6)]) (g := (gTup K 2 (gCons (gName 5) (gCons (gName 6) gNil)))) (te := (tCall (LB (aReadMB K cBadText)) [] E (tCons (tVar 5) (tCons (tVar 6) tNil)))) (tt := (tTest (tOp (rI0 fun i j => .bl (decide (j < i))) (tVar 5) (tC (.int 0))))) (by rfl) nd (pi_enum (by rfl) B.enumerate (pa_cons (pv 1) pa_nil)) (blkOk_by (own := [("number", 5), ("row", 6)]) (N := N_read) (sc := defScope s_read) (by decide +kernel)) (fun _ _ _ _ _ => (pg_tup rfl (pgs_cons (pg_name (i := 5) nd rfl (Or.inl rfl)) (pgs_cons (pg_name (i := 6) nd rfl (Or.inl rfl)) pgs_nil)))) (fun _ _ _ _ _ => pts_one (pt_cmpR op_gt (pv 5) pe_int (nomark _))) (fun _ _ _ _ _ hp => (pe_call Gread_machine (by exact hr.mono (by decide)) (by rfl) Cread_machine.g Cread_machine.k Cread_machine.a .nil hp (pa_cons (pv 5) (pa_cons (pv 6) pa_nil))))) pa_nil)))
      (pss_cons (ps_set (i := 4) nd rfl (Or.inl rfl) (pe_tup (pa_cons (pv 2) (pa_cons (pv 3) pa_nil))))
      (pss_cons (ps_expr (pe_call Gcheck_world (by exact hr.mono (by decide)) (by rfl) Ccheck_world.g Ccheck_world.k Ccheck_world.a .nil (passes_call (takes_of rfl rfl rfl rfl) (fun _ _ _ _ h => h)) (pa_cons (pv 4) pa_nil)))
      (pss_one (ps_ret (pv 4)))))))), ?_⟩
    refine LB.body j q ?_
    obtain ⟨hlp, hlw⟩ := split_len (x := z) nl_ok.1 nl_ok.2
    obtain ⟨r, rs, es⟩ := split_ne (x := z) nl_ok.1 nl_ok.2
    rw [es] at hlp hlw
    rw [List.length_cons] at hlw
    have hv0 : storeRow r = none → verdict z = .text 0 := fun h => by
      unfold verdict
      rw [es]
      show (match storeRow r with | some [c, s, f] => _ | _ => Vd.text 0) = _
      rw [h]
    have hv1 : ∀ c s f, storeRow r = some [c, s, f] → verdict z = (match machRows 1 rs with | .inl k => Vd.text k | .inr ms => worldV ⟨c, s, f, ms⟩) := fun c s f h => by
      unfold verdict
      rw [es]
      show (match storeRow r with | some [c, s, f] => (match machRows 1 rs with | .inl k => Vd.text k | .inr ms => worldV ⟨c, s, f, ms⟩) | _ => Vd.text 0) = _
      rw [h]
    refine sw_seq (sw_asg (ew_split hd (ew_var rfl ⟨z, rfl, ew_c ⟨_, rfl, by decide +kernel, by rw [sizeLine_eq]; omega, fun p hp => gw_name ?_⟩⟩)))
    rw [es]
    have g1 := Ex.new (.refl F) hp (u := .lst ((r :: rs).map V.str))
    have e1 : (upd F p (.lst ((r :: rs).map V.str))) p = some (.lst ((r :: rs).map V.str)) := upd_same
    generalize upd F p (.lst ((r :: rs).map V.str)) = G1 at g1 e1
    have hr := hlp r (.head _)
    refine sw_seq (sw_asg (ew_callB hd (aw_cons (ew_op (ew_var rfl (ew_c (rw_ixL hd (SqL.of e1) at_zero (aw_nil ⟨fun cls d F' => storeRow r = none ∧ ∃ dx G, cls = .ref cBadText ∧ d = some dx ∧ Ex G1 G ∧ G dx = none ∧ F' = upd G dx (.xd [("row", .int 0)]), ⟨r, rfl, by omega, fun c s f hsr sv G2 g2 dsv => gw_name ?_, fun hno dx G g hdx => ⟨hno, dx, G, rfl, rfl, g, hdx, rfl⟩⟩, ?_⟩))))))))
    case refine_2 =>
      rintro cls d F' H' j' ⟨hno, dx, G, rfl, rfl, g, hdx, rfl⟩
      exact qW _ _ _ _ j' (kT 0 (hv0 hno) dx G (g1.trans g) hdx)
    have hv := hv1 c s f hsr
    obtain ⟨c', s', f', ec, t1, t2, t3⟩ := store_row hsr
    cases ec
    refine sw_seq (sw_asg (ew_cb (aw_cons (ew_lcELg hd (x0 := .str r) (xs := rs.map V.str) (rs.map fun q => match machRow q with | some ss => macD ss | none => PyData.none) (by rw [List.length_map, List.length_map]) (aw_cons (ew_var rfl (aw_nil ⟨rfl, rfl, rfl⟩))) (SqL.of (g2 _ _ e1)) (by rw [List.length_map]; omega) (fun j => ∀ q', rs[j]? = some q' → machRow q' ≠ none) (fun Dl T G g3 h1 h2 h3 => ?_) (fun i x Dl T acc G hx g3 h1 h2 h3 hgd => ?_) fun Dl G3 acc g3 e3 dps hgd => ?_))))
    · exact gw_tup hd.jd ⟨T, _, rfl, SqT.of upd_same, rfl, gsw_cons (gw_name (gsw_cons (gw_name (gsw_nil ⟨rfl, tw_test (ew_op (ew_var rfl (ew_c (rw_I0 ⟨_, rfl, fun h => absurd h (by decide), fun _ => ⟨rfl, Ex.new (.refl _) h2, rfl⟩⟩))))⟩))))⟩
    · rw [List.getElem?_map] at hx
      obtain ⟨y, hy, rfl⟩ := Option.map_eq_some_iff.mp hx
      have hi := (List.getElem?_eq_some_iff.mp hy).1
      have hly := hlp y (.tail _ (List.mem_of_getElem? hy))
      have h01 : (0 : Int) < ((i + 1 : Nat) : Int) := by omega
      have gT : Ex G (upd G T (.tup [.int ((i + 1 : Nat) : Int), V.str y])) := Ex.new (.refl _) h2
      refine gw_tup hd.jd ⟨T, _, rfl, SqT.of upd_same, rfl, gsw_cons (gw_name (gsw_cons (gw_name (gsw_nil ⟨rfl, tw_test (ew_op (ew_var rfl (ew_c (rw_I0 ⟨_, rfl, fun _ => ?_, fun h => absurd h01 (of_decide_eq_false h)⟩))))⟩))))⟩
      refine ew_callB hd.jd (aw_cons (ew_var rfl (aw_cons (ew_var rfl (aw_nil ⟨fun cls d F' => machRow y = none ∧ ∃ dx G4, cls = .ref cBadText ∧ d = some dx ∧ Ex (upd G T (.tup [.int ((i + 1 : Nat) : Int), V.str y])) G4 ∧ G4 dx = none ∧ F' = upd G4 dx (.xd [("row", .int ((i + 1 : Nat) : Int))]), ⟨_, y, rfl, by omega, log_nat (by omega), fun ss hss v F2 g4 dv => ⟨rfl, gT.trans g4, fun q' hq' => by rw [hy] at hq'; cases hq'; rw [hss]; exact nofun, v, macD ss, by rw [List.getElem?_map, hy]; show some (match machRow y with | some ss => macD ss | none => PyData.none) = _; rw [hss], rfl, dv⟩, fun hno dx G4 g4 hdx => ⟨hno, dx, G4, rfl, rfl, g4, hdx, rfl⟩⟩, ?_⟩)))))
      rintro cls d F' H' ⟨fD, j'⟩ ⟨hno, dx, G4, rfl, rfl, g4, hdx, rfl⟩
      have hne : dx ≠ Dl := fun c => by rw [c, upd_same] at fD; cases fD
      rw [upd_ne hne.symm] at fD
      have ecm : upd (upd G4 dx (.xd [("row", .int ((i + 1 : Nat) : Int))])) Dl (.lst acc) = upd (upd G4 Dl (.lst acc)) dx (.xd [("row", .int ((i + 1 : Nat) : Int))]) := by
        funext b
        by_cases c1 : b = Dl
        · subst c1; rw [upd_same, upd_ne hne.symm, upd_same]
        · by_cases c2 : b = dx
          · subst c2; rw [upd_ne c1, upd_same, upd_same]
          · rw [upd_ne c1, upd_ne c2, upd_ne c2, upd_ne c1]
      rw [ecm] at j'
      have hvd : verdict z = .text (i + 1) := by
        rw [hv, rows_bad (k := 1) hy (fun j q' hj e => hgd j hj q' e) hno]
        show Vd.text (1 + i) = _
        rw [Nat.add_comm]
      exact qW _ _ _ _ j' (kT (i + 1) hvd dx _ (g1.trans (g2.trans (g3.trans (gT.trans (Ex.new g4 fD))))) (by rw [upd_ne hne]; exact hdx))
    obtain ⟨ms, em, hml, hm⟩ := rows_good (rs := rs) (k := 1) fun j q' e => hgd j (by rw [List.length_map]; exact (List.getElem?_eq_some_iff.mp e).1) q' e
    rw [em] at hv
    have hv : verdict z = worldV ⟨c, s, f, ms⟩ := hv
    have eds : (rs.map fun q => match machRow q with | some ss => macD ss | none => PyData.none) = ms.map macD := by
      refine List.ext_getElem? fun j => ?_
      rw [List.getElem?_map, List.getElem?_map]
      cases e : rs[j]? with
      | none =>
        have : ms[j]? = none := by rw [List.getElem?_eq_none_iff] at e ⊢; omega
        rw [this]
        rfl
      | some q =>
        obtain ⟨ss, h1, h2⟩ := hm j q e
        rw [h1]
        show some (match machRow q with | some ss => macD ss | none => PyData.none) = some (macD ss)
        rw [h2]
    rw [eds] at dps
    refine aw_nil (cw_tuple hd (SqL.of e3) fun q2 hq2 => gw_name ?_)
    refine sw_seq (sw_asg (ew_tup hd (aw_cons (ew_var rfl (aw_cons (ew_var rfl (aw_nil ⟨by walk_at "ob_len", fun q3 hq3 => gw_name ?_⟩)))))))
    have g4 : Ex G3 (upd G3 q2 (.tup acc)) := Ex.new (.refl _) hq2
    have g5 : Ex (upd G3 q2 (.tup acc)) (upd (upd G3 q2 (.tup acc)) q3 (.tup [sv, .ref q2])) := Ex.new (.refl _) hq3
    have dW : Dp K (upd (upd G3 q2 (.tup acc)) q3 (.tup [sv, .ref q2])) (.ref q3) (wldD ⟨c, s, f, ms⟩) := .tup (SqT.of upd_same) (.cons (dp_ex (g3.trans (g4.trans g5)) dsv) (.cons (.tup (SqT.of (g5 _ _ upd_same)) (dps_ex (g4.trans g5) dps)) .nil))
    have gF : Ex F (upd (upd G3 q2 (.tup acc)) q3 (.tup [sv, .ref q2])) := g1.trans (g2.trans (g3.trans (g4.trans g5)))
    generalize upd (upd G3 q2 (.tup acc)) q3 (.tup [sv, .ref q2]) = G5 at dW gF
    unfold worldV at hv
    refine sw_seq (sw_drop (ew_callB hd (aw_cons (ew_var rfl (aw_nil ⟨fun cls d F' => (storeB c s f = false ∧ cls = .ref cBadStore ∧ d = none ∧ Ex G5 F') ∨ (storeB c s f = true ∧ ∃ (k j : Nat) (dx : Addr) (G : Hp), badMs c 0 ms = some (k, j) ∧ cls = .ref cBadStep ∧ d = some dx ∧ Ex G5 G ∧ G dx = none ∧ F' = upd G dx (.xd [("step", .int (j : Int)), ("machine", .int (k : Int))])), ⟨.ref q3, ⟨c, s, f, ms⟩, rfl, dW, t1, t2, t3, fun h1 h2 F6 g6 => ?_, fun h1 F6 g6 => .inl ⟨h1, rfl, rfl, g6⟩, fun h1 k j h2 dx G g6 hdx => .inr ⟨h1, k, j, dx, G, h2, rfl, rfl, g6, hdx, rfl⟩⟩, ?_⟩)))))
    · rw [if_pos h1, h2] at hv
      exact sw_ret (ew_var rfl (k _ hv _ F6 (gF.trans g6) (dp_ex g6 dW)))
    · rintro cls d F6 H' j' (⟨h1, rfl, rfl, g6⟩ | ⟨h1, k2, j, dx, G, h2, rfl, rfl, g6, hdx, rfl⟩)
      · rw [if_neg (by show ¬ storeB c s f = true; rw [h1]; decide)] at hv
        exact qW _ _ _ _ j' (kS hv _ (gF.trans g6))
      · rw [if_pos h1, h2] at hv
        exact qW _ _ _ _ j' (kP k2 j hv dx G (gF.trans g6) hdx)
end
end Obr
namespace Obr
open PySem PySem.Spec L2 LamX NdefX PyProof.Rows
local macro_rules | `(tactic| walk_at "ob_at") => `(tactic| first
  | assumption
  | exact upd_same
  | (refine Eq.trans (upd_ne ?obn) ?obr; (case obn => walk_at "ob_ne"); (case obr => walk_at "ob_at")))
local macro_rules | `(tactic| walk_at "ob_ne") => `(tactic| first
  | assumption
  | (refine Ne.symm ?obs; (case obs => assumption))
  | (refine' ne_of_none (H := ?_) ?obe ?obh; (case obh => assumption); (case obe => walk_at "ob_at"))
  | (refine Ne.symm ?obs; (case obs => (refine' ne_of_none (H := ?_) ?obe ?obh; (case obh => assumption); (case obe => walk_at "ob_at")))))
local macro_rules | `(tactic| walk_at "ob_fr") => `(tactic| first
  | assumption
  | (refine Eq.trans (upd_ne ?obn) ?obr; (case obn => walk_at "ob_ne"); (case obr => walk_at "ob_fr"))
  | (refine Ex.free (G := ?_) (by assumption) ?obh; (case obh => walk_at "ob_fr")))
local macro_rules | `(tactic| walk_at "ob_ex") => `(tactic| first
  | assumption
  | exact Ex.refl _
  | (refine Ex.out ?obg ?obh; (case obh => assumption); (case obg => walk_at "ob_ex"))
  | (refine Ex.new ?obg ?obh; (case obh => assumption); (case obg => walk_at "ob_ex"))
  | (refine Ex.new ?obg ?obh; (case obh => walk_at "ob_fr"); (case obg => walk_at "ob_ex")))
local macro_rules | `(tactic| walk_at "ob_sq") => `(tactic| first
  | assumption
  | (refine SqL.of ?oba; (case oba => walk_at "ob_at"))
  | (refine Ex.sqT (F := ?_) ?obg ?obh; (case obh => assumption); (case obg => walk_at "ob_ex"))
  | (refine Ex.sqL (F := ?_) ?obg ?obh; (case obh => assumption); (case obg => walk_at "ob_ex"))
  | (refine SqT.of ?oba; (case oba => walk_at "ob_at")))
local macro_rules | `(tactic| walk_at "ob_side") => `(tactic| first | exact rfl | assumption | decide | omega | exact ⟨by decide, by decide, by decide⟩ | exact Or.inr ⟨by decide, by decide⟩ | exact Or.inl ⟨by decide, by decide⟩ | exact wide_div (b := 60) (by first | decide | omega) (by first | decide | omega) (by decide) (by decide))
local macro_rules | `(tactic| walk_at "ob1") => `(tactic| first
  | with_reducible refine sw_seq ?_
  | with_reducible refine sw_asg ?_
  | with_reducible refine sw_ret ?_
  | with_reducible refine sw_par ?_
  | with_reducible refine ⟨_, _, rfl, ?_⟩
  | with_reducible refine sw_drop ?_
  | with_reducible refine sw_if ?_
  | with_reducible refine sw_next ?_
  | with_reducible refine gw_name ?_
  | with_reducible refine gw_subL (by assumption) ?_
  | with_reducible refine gsw_cons ?_
  | with_reducible refine gsw_nil ?_
  | with_reducible refine ew_c ?_
  | ((with_reducible refine' ew_var (v := ?_) ?obv ?_); (case obv => exact rfl))
  | ((with_reducible refine ew_next (by assumption) ?obv ?_); (case obv => exact rfl))
  | ((with_reducible refine ew_world (by assumption) ?obv ?_); (case obv => exact rfl))
  | ((with_reducible refine ew_rule (by assumption) ?obv ?_); (case obv => exact rfl))
  | with_reducible refine ew_op ?_
  | with_reducible refine ew_un ?_
  | with_reducible refine ew_dget (by assumption) ?_
  | with_reducible refine uw_I ?_
  | with_reducible refine ppw_nil ?_
  | with_reducible refine ppw_cons ?_
  | with_reducible refine sw_dput (by assumption) ?_
  | with_reducible refine ew_cb ?_
  | with_reducible refine ew_if ?_
  | with_reducible refine ew_slL (by assumption) ?_
  | with_reducible refine ow_some ?_
  | with_reducible refine ow_none ?_
  | with_reducible refine aw_nil ?_
  | with_reducible refine aw_cons ?_
  | with_reducible refine rw_I0 ?_
  | ((with_reducible refine rw_I ?obc ?_); (case obc => walk_at "ob_side"))
  | with_reducible refine rw_isN ?_
  | with_reducible refine rw_notN ?_
  | ((with_reducible refine rw_eq ?obc ?_); (case obc => exact rfl))
  | ((with_reducible refine rw_ne ?obc ?_); (case obc => exact rfl))
  | with_reducible refine cw_max2 ?_
  | with_reducible refine cw_min2 ?_
  | with_reducible refine tw_test ?_
  | with_reducible refine tw_B ?_
  | with_reducible refine tw_not ?_
  | with_reducible refine tw_truB ?_
  | with_reducible refine tw_and ?_
  | with_reducible refine tw_or ?_
  | with_reducible refine ew_and ?_
  | (refine' Exists.intro _ (And.intro (show V.bl _ = V.bl _ from rfl) ?_))
  | (refine' Exists.intro _ (And.intro (show V.int _ = V.int _ from rfl) ?_))
  | ((with_reducible refine' rw_ixL (v := ?_) (xs := ?_) (by assumption) ?obl ?oba ?_); (case obl => walk_at "ob_sq"); (case oba => first | exact rfl | exact at_zero))
  | ((with_reducible refine' rw_ixT (v := ?_) (xs := ?_) (by assumption) ?obl ?oba ?_); (case obl => walk_at "ob_sq"); (case oba => first | exact rfl | exact at_zero))
  | ((with_reducible refine' ew_lst (by assumption) ?_))
  | ((with_reducible refine' ew_tup (by assumption) ?_)))
local macro_rules | `(tactic| walk_at "ob_len") => `(tactic| first | exact Nat.le_of_ble_eq_true rfl | (simp; done) | omega)
local macro_rules | `(tactic| walk_at "ob") => `(tactic| repeat walk_at "ob1")

theorem zc_ofT {cls C : Value} {d : Option Addr} {o : Obj} (e : cls = C ∧ d = none) (h : Zc cls d o) : Zc C none o := by rw [← e.1, ← e.2]; exact h
theorem pssT_given {X : Cx} {sts : List Stmt} {t : TS} {p : Prop} (h : p → PSs X sts t) : PSs X sts (fun D σ H => p ∧ t D σ H) := ⟨fun pins s σ H D I h' => (h h'.1).run pins s σ H D I h'.2⟩
theorem pssT_imp {X : Cx} {sts : List Stmt} {t t' : TS} (h : PSs X sts t) (hi : ∀ D σ H, t' D σ H → t D σ H) : PSs X sts t' := ⟨fun pins s σ H D I h' => h.run pins s σ H D I (hi _ _ _ h')⟩
theorem pssT_or {X : Cx} {sts : List Stmt} {t u : TS} (h1 : PSs X sts t) (h2 : PSs X sts u) : PSs X sts (fun D σ H => t D σ H ∨ u D σ H) := ⟨fun pins s σ H D I h' => h'.elim (h1.run pins s σ H D I) (h2.run pins s σ H D I)⟩
theorem sw_runT {J : Unit → Hp → Hp → Prop} {F : Hp} {t : TS} {σ : L2.St} {H : Hp} {D : Ends} (j : J () F H) (h : SW J t { nx := fun _ _ _ => False, rt := fun v _ F => ∀ H, J () F H → D.rt v H } σ () F) : t D σ H := h H j D ⟨fun _ _ _ _ _ z => z.elim, fun v _ F H j k => k H j, fun _ _ _ _ _ z => z.elim, fun _ _ _ _ _ z => z.elim⟩
def tKBadText (a : Addr) (d : Option Addr) : TS := fun D σ H => σ.length = 3 ∧ σ[1]? = some (some (.ref a)) ∧ ∃ (J : Unit → Hp → Hp → Prop) (F : Hp) (dx : Addr) (n : Int), d = some dx ∧ Hid J ∧ J () F H ∧ F dx = some (.xd [("row", .int n)]) ∧ ∀ (F' H' : Hp) (p : Addr), J () F' H' → Ex F F' → F' p = some (.tup [.str "text", .int n]) → D.rt (.ref p) H'
def tKBadStep (a : Addr) (d : Option Addr) : TS := fun D σ H => σ.length = 3 ∧ σ[1]? = some (some (.ref a)) ∧ ∃ (J : Unit → Hp → Hp → Prop) (F : Hp) (dx : Addr) (m n : Int), d = some dx ∧ Hid J ∧ J () F H ∧ F dx = some (.xd [("step", .int n), ("machine", .int m)]) ∧ ∀ (F' H' : Hp) (p p2 : Addr), J () F' H' → Ex F F' → F' p2 = some (.tup [.int m, .int n]) → F' p = some (.tup [.str "step", .ref p2]) → D.rt (.ref p) H'
def tKBadStore (a : Addr) (d : Option Addr) : TS := fun D σ H => σ.length = 3 ∧ σ[1]? = some (some (.ref a)) ∧ ∃ (J : Unit → Hp → Hp → Prop) (F : Hp), Hid J ∧ J () F H ∧ ∀ (F' H' : Hp) (p : Addr), J () F' H' → Ex F F' → F' p = some (.tup [.str "store", .int 0]) → D.rt (.ref p) H'
/-- what _law_kind makes of a lambda: BadText, BadStep, BadStore, or no exception -/
def kindB (cBadText cBadStep cBadStore : Addr) : TTr := fun tl H0 Q _ => tl (fun cls d H1 => (cls = .ref cBadText ∧ ∃ (J : Unit → Hp → Hp → Prop) (F : Hp) (dx : Addr) (n : Int), d = some dx ∧ Hid J ∧ J () F H1 ∧ F dx = some (.xd [("row", .int n)]) ∧ ∀ (F' H' : Hp) (p : Addr), J () F' H' → Ex F F' → F' p = some (.tup [.str "text", .int n]) → Q (.ref p) H') ∨ (cls = .ref cBadStep ∧ ∃ (J : Unit → Hp → Hp → Prop) (F : Hp) (dx : Addr) (m n : Int), d = some dx ∧ Hid J ∧ J () F H1 ∧ F dx = some (.xd [("step", .int n), ("machine", .int m)]) ∧ ∀ (F' H' : Hp) (p p2 : Addr), J () F' H' → Ex F F' → F' p2 = some (.tup [.int m, .int n]) → F' p = some (.tup [.str "step", .ref p2]) → Q (.ref p) H') ∨ (cls = .ref cBadStore ∧ d = none ∧ ∃ (J : Unit → Hp → Hp → Prop) (F : Hp), Hid J ∧ J () F H1 ∧ ∀ (F' H' : Hp) (p : Addr), J () F' H' → Ex F F' → F' p = some (.tup [.str "store", .int 0]) → Q (.ref p) H')) H0 (fun _ H' => ∀ p, H' p = none → Q (.ref p) (upd H' p (.tup [.str "", .int 0])))
section
variable {P : Program} {w : World} {K : PySem.W.Frag} {mg : Str → Option Value} {base : Heap} {cBadStep cBadPlan cNoMachine cBadDeed cBadText cBadStore cBadRule cBadCount cTooMany cBreathError : Addr}
abbrev s__law_kind : Stmt := top 36
def N__law_kind : List Str := ["_law_call", "e", "_law_kinds"]
theorem sc__law_kind : FnScope N__law_kind ["_law_call"] (defScope s__law_kind) := ⟨rfl, rfl, rfl, by decide +kernel, rfl, by decide +kernel, by decide +kernel⟩
theorem gok_kindB {f : Addr} {fd : FuncData} {kl : Nat} (Fn : Fun K "_law_kind" "_law_kind" s__law_kind f fd) (B : Blt mg) (Ca : Cal K mg "_law_kind" f fd ["_law_call"]) (gBadStep : mg "BadStep" = some (.ref cBadStep)) (gBadPlan : mg "BadPlan" = some (.ref cBadPlan)) (gNoMachine : mg "NoMachine" = some (.ref cNoMachine)) (gBadDeed : mg "BadDeed" = some (.ref cBadDeed)) (gBadText : mg "BadText" = some (.ref cBadText)) (gBadStore : mg "BadStore" = some (.ref cBadStore)) (gBadRule : mg "BadRule" = some (.ref cBadRule)) (gBadCount : mg "BadCount" = some (.ref cBadCount)) (gTooMany : mg "TooMany" = some (.ref cTooMany)) (gBreathError : mg "BreathError" = some (.ref cBreathError)) (kBadText_BadStep : PySem.W.kitOne K (.ref cBadText) (.ref cBadStep) = some false) (kBadText_BadPlan : PySem.W.kitOne K (.ref cBadText) (.ref cBadPlan) = some false) (kBadText_NoMachine : PySem.W.kitOne K (.ref cBadText) (.ref cNoMachine) = some false) (kBadText_BadDeed : PySem.W.kitOne K (.ref cBadText) (.ref cBadDeed) = some false) (kBadText_BadText : PySem.W.kitOne K (.ref cBadText) (.ref cBadText) = some true) (kBadText_BadStore : PySem.W.kitOne K (.ref cBadText) (.ref cBadStore) = some false) (kBadText_BadRule : PySem.W.kitOne K (.ref cBadText) (.ref cBadRule) = some false) (kBadText_BadCount : PySem.W.kitOne K (.ref cBadText) (.ref cBadCount) = some false) (kBadText_TooMany : PySem.W.kitOne K (.ref cBadText) (.ref cTooMany) = some false) (kBadStep_BadStep : PySem.W.kitOne K (.ref cBadStep) (.ref cBadStep) = some true) (kBadStep_BadPlan : PySem.W.kitOne K (.ref cBadStep) (.ref cBadPlan) = some false) (kBadStep_NoMachine : PySem.W.kitOne K (.ref cBadStep) (.ref cNoMachine) = some false) (kBadStep_BadDeed : PySem.W.kitOne K (.ref cBadStep) (.ref cBadDeed) = some false) (kBadStep_BadText : PySem.W.kitOne K (.ref cBadStep) (.ref cBadText) = some false) (kBadStep_BadStore : PySem.W.kitOne K (.ref cBadStep) (.ref cBadStore) = some false) (kBadStep_BadRule : PySem.W.kitOne K (.ref cBadStep) (.ref cBadRule) = some false) (kBadStep_BadCount : PySem.W.kitOne K (.ref cBadStep) (.ref cBadCount) = some false) (kBadStep_TooMany : PySem.W.kitOne K (.ref cBadStep) (.ref cTooMany) = some false) (kBadStore_BadStep : PySem.W.kitOne K (.ref cBadStore) (.ref cBadStep) = some false) (kBadStore_BadPlan : PySem.W.kitOne K (.ref cBadStore) (.ref cBadPlan) = some false) (kBadStore_NoMachine : PySem.W.kitOne K (.ref cBadStore) (.ref cNoMachine) = some false) (kBadStore_BadDeed : PySem.W.kitOne K (.ref cBadStore) (.ref cBadDeed) = some false) (kBadStore_BadText : PySem.W.kitOne K (.ref cBadStore) (.ref cBadText) = some false) (kBadStore_BadStore : PySem.W.kitOne K (.ref cBadStore) (.ref cBadStore) = some true) (kBadStore_BadRule : PySem.W.kitOne K (.ref cBadStore) (.ref cBadRule) = some false) (kBadStore_BadCount : PySem.W.kitOne K (.ref cBadStore) (.ref cBadCount) = some false) (kBadStore_TooMany : PySem.W.kitOne K (.ref cBadStore) (.ref cTooMany) = some false) (kBadText_V : PySem.W.kitOne K (.ref cBadText) (.type "ValueError") = some true) (xmBadText : PySem.W.exmOne K (.ref cBadText) (.ref cBreathError) = some true) (XCBadText : ExcC K cBadText) (kBadStep_V : PySem.W.kitOne K (.ref cBadStep) (.type "ValueError") = some true) (xmBadStep : PySem.W.exmOne K (.ref cBadStep) (.ref cBreathError) = some true) (XCBadStep : ExcC K cBadStep) (kBadStore_V : PySem.W.kitOne K (.ref cBadStore) (.type "ValueError") = some true) (xmBadStore : PySem.W.exmOne K (.ref cBadStore) (.ref cBreathError) = some true) (XCBadStore : ExcC K cBadStore) (XfBadText : XfC K cBadText) (XfBadStep : XfC K cBadStep) (noBadText_beat : PySem.W.findIn K (.ref cBadText) "beat" = some none) (noBadText_row : PySem.W.findIn K (.ref cBadText) "row" = some none) (noBadStep_machine : PySem.W.findIn K (.ref cBadStep) "machine" = some none) (noBadStep_step : PySem.W.findIn K (.ref cBadStep) "step" = some none) : GOk P w K mg base C8.CX0 (L2.CX P w) (kl + 1) kl f (kindB cBadText cBadStep cBadStore) := by
  refine ⟨fun A outer s H a F ds fr ws sp Q E hr e0 ha C O hT => ?_⟩
  have S := sc__law_kind
  have nd := S.nd
  have hb := Ca.a
  obtain ⟨oc, od, kV, doc, pm, an, cdv, ct, osl, rfl, lk, hcd⟩ := Fn.ex
  have KX : K.In s.heap := e0.mod.kin.keeps fun b o e => (e0.bs b o e).1
  refine run_ofS (N := N__law_kind) (ps := ["_law_call"]) (us := [.ref a]) (vs := [.ref a]) lk hcd S hr e0 (hb s [.ref a] KX rfl) (.cons rfl .nil) rfl fun hr' => ?_
  obtain ⟨_, hsp⟩ := hT
  suffices hh : ∃ t, PSs (cxOf C8.CX0 P w K mg base N__law_kind "_law_kind" (defScope s__law_kind) f cdv A outer s H E).nox (defBody s__law_kind) t ∧ t { nx := fun _ H' => Q .non H', rt := Q } (L2.start N__law_kind [.ref a]) H by
    obtain ⟨t, h1, h2⟩ := hh
    exact ⟨t, h1.nox, h2⟩
  refine ⟨_, (pss_cons (ps_try_as (c := .ref cBreathError) (i := 1) (Wout := fun _ _ _ _ => False) (ts := fun a cls d D σ H => ((cls = .ref cBadText ∧ ∃ dx, d = some dx) ∧ tKBadText a d D σ H) ∨ ((cls = .ref cBadStep ∧ ∃ dx, d = some dx) ∧ tKBadStep a d D σ H) ∨ ((cls = .ref cBadStore ∧ d = none) ∧ tKBadStore a d D σ H)) rfl rfl nd rfl rfl ⟨by rfl, by decide, .inl gBreathError⟩ L2.takes0
    (fun W pn xe tk _ => pss_one (ps_expr (pe_calll (i := 0) (k := kl) (j := kl) (E := WE W) O C rfl hr' (Nat.le_refl _) (fun σ => passAt tk σ) rfl (.inl (by rfl)))))
    (fun a oe cls d pn hz hf => pssT_or (pssT_given fun e => ?_) (pssT_or (pssT_given fun e => ?_) (pssT_given fun e => ?_))))
    (pss_one (ps_ret (pe_tup (pa_cons pe_str (pa_cons pe_int pa_nil)))))), ?_⟩
  · obtain ⟨rfl, dx, rfl⟩ := e
    have IS : CallR ((cxOf C8.CX0 P w K mg base N__law_kind "_law_kind" (defScope s__law_kind) f cdv A outer s H E).nox.suite a ((a, oe) :: pn)) (.builtin "isinstance") (rIsX K cBadText a dx) := call_isX XCBadText hz hf
    refine pssT_imp (pss_cons (ps_set (i := 2) nd rfl (Or.inl rfl) (pe_lst (pa_cons (pe_callB IS (by rfl) B.isinstance (by decide +kernel) (pa_cons (pv 1) (pa_cons (pe_glob (v := .ref cBadStep) (by rfl) gBadStep (by rfl)) pa_nil))) (pa_cons (pe_callB IS (by rfl) B.isinstance (by decide +kernel) (pa_cons (pv 1) (pa_cons (pe_glob (v := .ref cBadPlan) (by rfl) gBadPlan (by rfl)) pa_nil))) (pa_cons (pe_callB IS (by rfl) B.isinstance (by decide +kernel) (pa_cons (pv 1) (pa_cons (pe_glob (v := .ref cNoMachine) (by rfl) gNoMachine (by rfl)) pa_nil))) (pa_cons (pe_callB IS (by rfl) B.isinstance (by decide +kernel) (pa_cons (pv 1) (pa_cons (pe_glob (v := .ref cBadDeed) (by rfl) gBadDeed (by rfl)) pa_nil))) pa_nil))))))
      (pss_cons (ps_expr (pe_bm PySem.F.plainAttrs_list PySem.F.slot_list_extend PySem.F.type_list_extend mt_extend (pv 2) (pa_cons (pe_lst (pa_cons (pe_callB IS (by rfl) B.isinstance (by decide +kernel) (pa_cons (pv 1) (pa_cons (pe_glob (v := .ref cBadText) (by rfl) gBadText (by rfl)) pa_nil))) (pa_cons (pe_callB IS (by rfl) B.isinstance (by decide +kernel) (pa_cons (pv 1) (pa_cons (pe_glob (v := .ref cBadStore) (by rfl) gBadStore (by rfl)) pa_nil))) (pa_cons (pe_callB IS (by rfl) B.isinstance (by decide +kernel) (pa_cons (pv 1) (pa_cons (pe_glob (v := .ref cBadRule) (by rfl) gBadRule (by rfl)) pa_nil))) (pa_cons (pe_callB IS (by rfl) B.isinstance (by decide +kernel) (pa_cons (pv 1) (pa_cons (pe_glob (v := .ref cBadCount) (by rfl) gBadCount (by rfl)) pa_nil))) pa_nil))))) pa_nil)))
      (pss_cons (ps_expr (pe_bm PySem.F.plainAttrs_list PySem.F.slot_list_append PySem.F.type_list_append mt_append (pv 2) (pa_cons (pe_callB IS (by rfl) B.isinstance (by decide +kernel) (pa_cons (pv 1) (pa_cons (pe_glob (v := .ref cTooMany) (by rfl) gTooMany (by rfl)) pa_nil))) pa_nil)))
      (pss_cons (ps_if (PW.pt (pw_or (pt_cmpR op_ne (pe_bm PySem.F.plainAttrs_list PySem.F.slot_list_count PySem.F.type_list_count mt_countV (pv 2) (pa_cons pe_bl pa_nil)) pe_int (nomark _)) (pw_or1 (pt_not (pt_val (pe_callB IS (by rfl) B.isinstance (by decide +kernel) (pa_cons (pv 1) (pa_cons (pe_bltn (v := .ty "ValueError") (by rfl) B.verr (by decide +kernel) rfl) pa_nil)))))))) (pss_one (ps_never)) pss_nil)
      (pss_cons (ps_if (pt_val (pe_ix ix_list (pv 2) pe_int (fun _ _ => rfl))) (pss_one (ps_never)) pss_nil)
      (pss_cons (ps_if (PW.pt (pw_or (pt_val (pe_ix ix_list (pv 2) pe_int (fun _ _ => rfl))) (pw_or1 (pt_val (pe_ix ix_list (pv 2) pe_int (fun _ _ => rfl)))))) (pss_one (ps_ret (pe_ifExp (pt_val (pe_ix ix_list (pv 2) pe_int (fun _ _ => rfl))) (pe_tup (pa_cons pe_str (pa_cons (pe_xf XfBadText noBadText_beat hz hf (pv 1)) pa_nil))) (pe_tup (pa_cons pe_str (pa_cons (pe_xf XfBadText noBadText_row hz hf (pv 1)) pa_nil)))))) pss_nil)
      (pss_cons (ps_if (PW.pt (pw_or (pt_val (pe_ix ix_list (pv 2) pe_int (fun _ _ => rfl))) (pw_or1 (pt_val (pe_ix ix_list (pv 2) pe_int (fun _ _ => rfl)))))) (pss_one (ps_never)) pss_nil)
      (pss_one (ps_never))))))))) ?_
    rintro D' σ HH ⟨hlen, hs1, J, H', dx', n, edx, hd, jj, hdx, kk⟩
    cases edx
    obtain ⟨x0, x1, x2, rfl⟩ : ∃ x0 x1 x2, σ = [x0, x1, x2] := by
      match σ, hlen with
      | [a, b, c], _ => exact ⟨_, _, _, rfl⟩
    cases hs1
    refine sw_runT jj ?_
    refine sw_seq (sw_asg (ew_lst hd ?_))
    walk_at "ob"
    refine cw_isX hd (cv := .ref _) (fun u r => r) kBadText_BadStep hdx ?_
    walk_at "ob"
    refine cw_isX hd (cv := .ref _) (fun u r => r) kBadText_BadPlan hdx ?_
    walk_at "ob"
    refine cw_isX hd (cv := .ref _) (fun u r => r) kBadText_NoMachine hdx ?_
    walk_at "ob"
    refine cw_isX hd (cv := .ref _) (fun u r => r) kBadText_BadDeed hdx ?_
    walk_at "ob"
    refine ⟨by walk_at "ob_len", fun p1 hp1 => ?_⟩
    refine gw_name ?_
    refine sw_seq (sw_drop (ew_bmL hd ?_))
    walk_at "ob"
    refine ⟨p1, _, rfl, SqL.of upd_same, aw_cons (ew_lst hd ?_)⟩
    walk_at "ob"
    refine cw_isX hd (cv := .ref _) (fun u r => r) kBadText_BadText (Ex.new (.refl _) hp1 _ _ hdx) ?_
    walk_at "ob"
    refine cw_isX hd (cv := .ref _) (fun u r => r) kBadText_BadStore (Ex.new (.refl _) hp1 _ _ hdx) ?_
    walk_at "ob"
    refine cw_isX hd (cv := .ref _) (fun u r => r) kBadText_BadRule (Ex.new (.refl _) hp1 _ _ hdx) ?_
    walk_at "ob"
    refine cw_isX hd (cv := .ref _) (fun u r => r) kBadText_BadCount (Ex.new (.refl _) hp1 _ _ hdx) ?_
    walk_at "ob"
    refine ⟨by walk_at "ob_len", fun p2 hp2 => ?_⟩
    have hO0 := (own_nil (F := H')).more (o := .lst [V.bl false, V.bl false, V.bl false, V.bl false]) hp1
    have hO1 := hO0.new' (o := .lst [V.bl true, V.bl false, V.bl false, V.bl false]) hp2
    refine aw_nil (mw_extend hd (hO1.get (i := 0) rfl) upd_same (by simp) ?_)
    have hO2 := hO1.set (i := 0) (a := p1) (o' := .lst ([V.bl false, V.bl false, V.bl false, V.bl false] ++ [V.bl true, V.bl false, V.bl false, V.bl false])) rfl
    refine sw_seq (sw_drop (ew_bmL hd ?_))
    walk_at "ob"
    refine ⟨p1, _, rfl, SqL.of (hO2.get (i := 0) rfl), aw_cons (ew_cb ?_)⟩
    walk_at "ob"
    refine cw_isX hd (cv := .ref _) (fun u r => r) kBadText_TooMany (hO2.ex _ _ hdx) ?_
    refine aw_nil (mw_append hd (hO2.get (i := 0) rfl) (by simp) ?_)
    have hO3 := hO2.set (i := 0) (a := p1) (o' := .lst ([V.bl false, V.bl false, V.bl false, V.bl false] ++ [V.bl true, V.bl false, V.bl false, V.bl false] ++ [V.bl false])) rfl
    have sq3 : SqL K _ p1 [V.bl false, V.bl false, V.bl false, V.bl false, V.bl true, V.bl false, V.bl false, V.bl false, V.bl false] := SqL.of (K := K) (hO3.get (i := 0) rfl)
    have aw3 := hO3.ex
    generalize (upd _ p1 (.lst ([V.bl false, V.bl false, V.bl false, V.bl false] ++ [V.bl true, V.bl false, V.bl false, V.bl false] ++ [V.bl false]))) = F3 at hO3 sq3 aw3 ⊢
    refine sw_seq (sw_if (tw_or (tw_test (ew_op (ew_bmL hd ?_)))))
    walk_at "ob"
    refine ⟨p1, _, rfl, sq3, ?_⟩
    walk_at "ob"
    refine mw_countV hd sq3 rfl rfl ?_
    walk_at "ob"
    refine ⟨fun hb => absurd hb (by decide), fun _ => ?_⟩
    refine tw_not (tw_B (ew_cb ?_))
    walk_at "ob"
    refine cw_isX hd (cv := .type "ValueError") (fun u r => r) kBadText_V (aw3 _ _ hdx) ?_
    refine ⟨true, rfl, (fun z => by cases z), fun _ => sw_next ?_⟩
    refine sw_seq (sw_if (tw_B (ew_op ?_)))
    walk_at "ob"
    refine ⟨(fun z => by cases z), fun _ => sw_next ?_⟩
    refine sw_seq (sw_if (tw_or (tw_B (ew_op ?_))))
    walk_at "ob"
    refine ⟨(fun z => by cases z), fun _ => ?_⟩
    refine tw_B (ew_op ?_)
    walk_at "ob"
    refine ⟨fun _ => sw_ret (ew_if (tw_B (ew_op ?_))), (fun z => by cases z)⟩
    walk_at "ob"
    refine ⟨(fun z => by cases z), fun _ => ew_tup hd (aw_cons (ew_c (aw_cons (ew_xf hd (ew_var rfl ⟨rfl, _, _, aw3 _ _ hdx, rfl, aw_nil ⟨by walk_at "ob_len", fun p3 hp3 => ?_⟩⟩)))))⟩
    exact fun H j => kk _ _ p3 j (aw3.trans (Ex.new (.refl _) hp3)) upd_same
  · obtain ⟨rfl, dx, rfl⟩ := e
    have IS : CallR ((cxOf C8.CX0 P w K mg base N__law_kind "_law_kind" (defScope s__law_kind) f cdv A outer s H E).nox.suite a ((a, oe) :: pn)) (.builtin "isinstance") (rIsX K cBadStep a dx) := call_isX XCBadStep hz hf
    refine pssT_imp (pss_cons (ps_set (i := 2) nd rfl (Or.inl rfl) (pe_lst (pa_cons (pe_callB IS (by rfl) B.isinstance (by decide +kernel) (pa_cons (pv 1) (pa_cons (pe_glob (v := .ref cBadStep) (by rfl) gBadStep (by rfl)) pa_nil))) (pa_cons (pe_callB IS (by rfl) B.isinstance (by decide +kernel) (pa_cons (pv 1) (pa_cons (pe_glob (v := .ref cBadPlan) (by rfl) gBadPlan (by rfl)) pa_nil))) (pa_cons (pe_callB IS (by rfl) B.isinstance (by decide +kernel) (pa_cons (pv 1) (pa_cons (pe_glob (v := .ref cNoMachine) (by rfl) gNoMachine (by rfl)) pa_nil))) (pa_cons (pe_callB IS (by rfl) B.isinstance (by decide +kernel) (pa_cons (pv 1) (pa_cons (pe_glob (v := .ref cBadDeed) (by rfl) gBadDeed (by rfl)) pa_nil))) pa_nil))))))
      (pss_cons (ps_expr (pe_bm PySem.F.plainAttrs_list PySem.F.slot_list_extend PySem.F.type_list_extend mt_extend (pv 2) (pa_cons (pe_lst (pa_cons (pe_callB IS (by rfl) B.isinstance (by decide +kernel) (pa_cons (pv 1) (pa_cons (pe_glob (v := .ref cBadText) (by rfl) gBadText (by rfl)) pa_nil))) (pa_cons (pe_callB IS (by rfl) B.isinstance (by decide +kernel) (pa_cons (pv 1) (pa_cons (pe_glob (v := .ref cBadStore) (by rfl) gBadStore (by rfl)) pa_nil))) (pa_cons (pe_callB IS (by rfl) B.isinstance (by decide +kernel) (pa_cons (pv 1) (pa_cons (pe_glob (v := .ref cBadRule) (by rfl) gBadRule (by rfl)) pa_nil))) (pa_cons (pe_callB IS (by rfl) B.isinstance (by decide +kernel) (pa_cons (pv 1) (pa_cons (pe_glob (v := .ref cBadCount) (by rfl) gBadCount (by rfl)) pa_nil))) pa_nil))))) pa_nil)))
      (pss_cons (ps_expr (pe_bm PySem.F.plainAttrs_list PySem.F.slot_list_append PySem.F.type_list_append mt_append (pv 2) (pa_cons (pe_callB IS (by rfl) B.isinstance (by decide +kernel) (pa_cons (pv 1) (pa_cons (pe_glob (v := .ref cTooMany) (by rfl) gTooMany (by rfl)) pa_nil))) pa_nil)))
      (pss_cons (ps_if (PW.pt (pw_or (pt_cmpR op_ne (pe_bm PySem.F.plainAttrs_list PySem.F.slot_list_count PySem.F.type_list_count mt_countV (pv 2) (pa_cons pe_bl pa_nil)) pe_int (nomark _)) (pw_or1 (pt_not (pt_val (pe_callB IS (by rfl) B.isinstance (by decide +kernel) (pa_cons (pv 1) (pa_cons (pe_bltn (v := .ty "ValueError") (by rfl) B.verr (by decide +kernel) rfl) pa_nil)))))))) (pss_one (ps_never)) pss_nil)
      (pss_cons (ps_if (pt_val (pe_ix ix_list (pv 2) pe_int (fun _ _ => rfl))) (pss_one (ps_ret (pe_tup (pa_cons pe_str (pa_cons (pe_tup (pa_cons (pe_xf XfBadStep noBadStep_machine hz hf (pv 1)) (pa_cons (pe_xf XfBadStep noBadStep_step hz hf (pv 1)) pa_nil))) pa_nil))))) pss_nil)
      (pss_cons (ps_if (PW.pt (pw_or (pt_val (pe_ix ix_list (pv 2) pe_int (fun _ _ => rfl))) (pw_or1 (pt_val (pe_ix ix_list (pv 2) pe_int (fun _ _ => rfl)))))) (pss_one (ps_never)) pss_nil)
      (pss_cons (ps_never)
      (pss_one (ps_never))))))))) ?_
    rintro D' σ HH ⟨hlen, hs1, J, H', dx', m, n, edx, hd, jj, hdx, kk⟩
    cases edx
    obtain ⟨x0, x1, x2, rfl⟩ : ∃ x0 x1 x2, σ = [x0, x1, x2] := by
      match σ, hlen with
      | [a, b, c], _ => exact ⟨_, _, _, rfl⟩
    cases hs1
    refine sw_runT jj ?_
    refine sw_seq (sw_asg (ew_lst hd ?_))
    walk_at "ob"
    refine cw_isX hd (cv := .ref _) (fun u r => r) kBadStep_BadStep hdx ?_
    walk_at "ob"
    refine cw_isX hd (cv := .ref _) (fun u r => r) kBadStep_BadPlan hdx ?_
    walk_at "ob"
    refine cw_isX hd (cv := .ref _) (fun u r => r) kBadStep_NoMachine hdx ?_
    walk_at "ob"
    refine cw_isX hd (cv := .ref _) (fun u r => r) kBadStep_BadDeed hdx ?_
    walk_at "ob"
    refine ⟨by walk_at "ob_len", fun p1 hp1 => ?_⟩
    refine gw_name ?_
    refine sw_seq (sw_drop (ew_bmL hd ?_))
    walk_at "ob"
    refine ⟨p1, _, rfl, SqL.of upd_same, aw_cons (ew_lst hd ?_)⟩
    walk_at "ob"
    refine cw_isX hd (cv := .ref _) (fun u r => r) kBadStep_BadText (Ex.new (.refl _) hp1 _ _ hdx) ?_
    walk_at "ob"
    refine cw_isX hd (cv := .ref _) (fun u r => r) kBadStep_BadStore (Ex.new (.refl _) hp1 _ _ hdx) ?_
    walk_at "ob"
    refine cw_isX hd (cv := .ref _) (fun u r => r) kBadStep_BadRule (Ex.new (.refl _) hp1 _ _ hdx) ?_
    walk_at "ob"
    refine cw_isX hd (cv := .ref _) (fun u r => r) kBadStep_BadCount (Ex.new (.refl _) hp1 _ _ hdx) ?_
    walk_at "ob"
    refine ⟨by walk_at "ob_len", fun p2 hp2 => ?_⟩
    have hO0 := (own_nil (F := H')).more (o := .lst [V.bl true, V.bl false, V.bl false, V.bl false]) hp1
    have hO1 := hO0.new' (o := .lst [V.bl false, V.bl false, V.bl false, V.bl false]) hp2
    refine aw_nil (mw_extend hd (hO1.get (i := 0) rfl) upd_same (by simp) ?_)
    have hO2 := hO1.set (i := 0) (a := p1) (o' := .lst ([V.bl true, V.bl false, V.bl false, V.bl false] ++ [V.bl false, V.bl false, V.bl false, V.bl false])) rfl
    refine sw_seq (sw_drop (ew_bmL hd ?_))
    walk_at "ob"
    refine ⟨p1, _, rfl, SqL.of (hO2.get (i := 0) rfl), aw_cons (ew_cb ?_)⟩
    walk_at "ob"
    refine cw_isX hd (cv := .ref _) (fun u r => r) kBadStep_TooMany (hO2.ex _ _ hdx) ?_
    refine aw_nil (mw_append hd (hO2.get (i := 0) rfl) (by simp) ?_)
    have hO3 := hO2.set (i := 0) (a := p1) (o' := .lst ([V.bl true, V.bl false, V.bl false, V.bl false] ++ [V.bl false, V.bl false, V.bl false, V.bl false] ++ [V.bl false])) rfl
    have sq3 : SqL K _ p1 [V.bl true, V.bl false, V.bl false, V.bl false, V.bl false, V.bl false, V.bl false, V.bl false, V.bl false] := SqL.of (K := K) (hO3.get (i := 0) rfl)
    have aw3 := hO3.ex
    generalize (upd _ p1 (.lst ([V.bl true, V.bl false, V.bl false, V.bl false] ++ [V.bl false, V.bl false, V.bl false, V.bl false] ++ [V.bl false]))) = F3 at hO3 sq3 aw3 ⊢
    refine sw_seq (sw_if (tw_or (tw_test (ew_op (ew_bmL hd ?_)))))
    walk_at "ob"
    refine ⟨p1, _, rfl, sq3, ?_⟩
    walk_at "ob"
    refine mw_countV hd sq3 rfl rfl ?_
    walk_at "ob"
    refine ⟨fun hb => absurd hb (by decide), fun _ => ?_⟩
    refine tw_not (tw_B (ew_cb ?_))
    walk_at "ob"
    refine cw_isX hd (cv := .type "ValueError") (fun u r => r) kBadStep_V (aw3 _ _ hdx) ?_
    refine ⟨true, rfl, (fun z => by cases z), fun _ => sw_next ?_⟩
    refine sw_seq (sw_if (tw_B (ew_op ?_)))
    walk_at "ob"
    refine ⟨fun _ => sw_ret (ew_tup hd (aw_cons (ew_c (aw_cons (ew_tup hd (aw_cons (ew_xf hd (ew_var rfl ⟨rfl, _, _, aw3 _ _ hdx, rfl, aw_cons (ew_xf hd (ew_var rfl ⟨rfl, _, _, aw3 _ _ hdx, rfl, aw_nil ⟨by walk_at "ob_len", fun p3 hp3 => aw_nil ⟨by walk_at "ob_len", fun p4 hp4 => ?_⟩⟩⟩))⟩)))))))), (fun z => by cases z)⟩
    have x1 := Ex.new (.refl _) hp3 (u := .tup [V.int m, V.int n])
    have x2 := Ex.new (.refl _) hp4 (u := .tup [V.str "step", V.ref p3])
    exact fun H j => kk _ _ p4 p3 j (aw3.trans (x1.trans x2)) (x2 _ _ upd_same) upd_same
  · skip
    have IS : CallR ((cxOf C8.CX0 P w K mg base N__law_kind "_law_kind" (defScope s__law_kind) f cdv A outer s H E).nox.suite a ((a, oe) :: pn)) (.builtin "isinstance") (rIsE K cBadStore a) := call_isE XCBadStore (zc_ofT e hz) hf
    refine pssT_imp (pss_cons (ps_set (i := 2) nd rfl (Or.inl rfl) (pe_lst (pa_cons (pe_callB IS (by rfl) B.isinstance (by decide +kernel) (pa_cons (pv 1) (pa_cons (pe_glob (v := .ref cBadStep) (by rfl) gBadStep (by rfl)) pa_nil))) (pa_cons (pe_callB IS (by rfl) B.isinstance (by decide +kernel) (pa_cons (pv 1) (pa_cons (pe_glob (v := .ref cBadPlan) (by rfl) gBadPlan (by rfl)) pa_nil))) (pa_cons (pe_callB IS (by rfl) B.isinstance (by decide +kernel) (pa_cons (pv 1) (pa_cons (pe_glob (v := .ref cNoMachine) (by rfl) gNoMachine (by rfl)) pa_nil))) (pa_cons (pe_callB IS (by rfl) B.isinstance (by decide +kernel) (pa_cons (pv 1) (pa_cons (pe_glob (v := .ref cBadDeed) (by rfl) gBadDeed (by rfl)) pa_nil))) pa_nil))))))
      (pss_cons (ps_expr (pe_bm PySem.F.plainAttrs_list PySem.F.slot_list_extend PySem.F.type_list_extend mt_extend (pv 2) (pa_cons (pe_lst (pa_cons (pe_callB IS (by rfl) B.isinstance (by decide +kernel) (pa_cons (pv 1) (pa_cons (pe_glob (v := .ref cBadText) (by rfl) gBadText (by rfl)) pa_nil))) (pa_cons (pe_callB IS (by rfl) B.isinstance (by decide +kernel) (pa_cons (pv 1) (pa_cons (pe_glob (v := .ref cBadStore) (by rfl) gBadStore (by rfl)) pa_nil))) (pa_cons (pe_callB IS (by rfl) B.isinstance (by decide +kernel) (pa_cons (pv 1) (pa_cons (pe_glob (v := .ref cBadRule) (by rfl) gBadRule (by rfl)) pa_nil))) (pa_cons (pe_callB IS (by rfl) B.isinstance (by decide +kernel) (pa_cons (pv 1) (pa_cons (pe_glob (v := .ref cBadCount) (by rfl) gBadCount (by rfl)) pa_nil))) pa_nil))))) pa_nil)))
      (pss_cons (ps_expr (pe_bm PySem.F.plainAttrs_list PySem.F.slot_list_append PySem.F.type_list_append mt_append (pv 2) (pa_cons (pe_callB IS (by rfl) B.isinstance (by decide +kernel) (pa_cons (pv 1) (pa_cons (pe_glob (v := .ref cTooMany) (by rfl) gTooMany (by rfl)) pa_nil))) pa_nil)))
      (pss_cons (ps_if (PW.pt (pw_or (pt_cmpR op_ne (pe_bm PySem.F.plainAttrs_list PySem.F.slot_list_count PySem.F.type_list_count mt_countV (pv 2) (pa_cons pe_bl pa_nil)) pe_int (nomark _)) (pw_or1 (pt_not (pt_val (pe_callB IS (by rfl) B.isinstance (by decide +kernel) (pa_cons (pv 1) (pa_cons (pe_bltn (v := .ty "ValueError") (by rfl) B.verr (by decide +kernel) rfl) pa_nil)))))))) (pss_one (ps_never)) pss_nil)
      (pss_cons (ps_if (pt_val (pe_ix ix_list (pv 2) pe_int (fun _ _ => rfl))) (pss_one (ps_never)) pss_nil)
      (pss_cons (ps_if (PW.pt (pw_or (pt_val (pe_ix ix_list (pv 2) pe_int (fun _ _ => rfl))) (pw_or1 (pt_val (pe_ix ix_list (pv 2) pe_int (fun _ _ => rfl)))))) (pss_one (ps_never)) pss_nil)
      (pss_cons (ps_if (PW.pt (pw_or (pt_val (pe_ix ix_list (pv 2) pe_int (fun _ _ => rfl))) (pw_or1 (pt_val (pe_ix ix_list (pv 2) pe_int (fun _ _ => rfl)))))) (pss_one (ps_never)) pss_nil)
      (pss_one (ps_ret (pe_tup (pa_cons (pe_ix ix_list (pe_lst (pa_cons pe_str (pa_cons pe_str (pa_cons pe_str (pa_cons pe_str pa_nil))))) (pe_bm PySem.F.plainAttrs_list PySem.F.slot_list_index PySem.F.type_list_index mt_index (pe_slice sl_list (pv 2) (po_some pe_int) po_none) (pa_cons pe_bl pa_nil)) (fun _ _ => rfl)) (pa_cons pe_int pa_nil)))))))))))) ?_
    rintro D' σ HH ⟨hlen, hs1, J, H', hd, jj, kk⟩
    obtain ⟨x0, x1, x2, rfl⟩ : ∃ x0 x1 x2, σ = [x0, x1, x2] := by
      match σ, hlen with
      | [a, b, c], _ => exact ⟨_, _, _, rfl⟩
    cases hs1
    refine sw_runT jj ?_
    refine sw_seq (sw_asg (ew_lst hd ?_))
    walk_at "ob"
    refine cw_isE (cv := .ref _) (fun u r => r) kBadStore_BadStep ?_
    walk_at "ob"
    refine cw_isE (cv := .ref _) (fun u r => r) kBadStore_BadPlan ?_
    walk_at "ob"
    refine cw_isE (cv := .ref _) (fun u r => r) kBadStore_NoMachine ?_
    walk_at "ob"
    refine cw_isE (cv := .ref _) (fun u r => r) kBadStore_BadDeed ?_
    walk_at "ob"
    refine ⟨by walk_at "ob_len", fun p1 hp1 => ?_⟩
    refine gw_name ?_
    refine sw_seq (sw_drop (ew_bmL hd ?_))
    walk_at "ob"
    refine ⟨p1, _, rfl, SqL.of upd_same, aw_cons (ew_lst hd ?_)⟩
    walk_at "ob"
    refine cw_isE (cv := .ref _) (fun u r => r) kBadStore_BadText ?_
    walk_at "ob"
    refine cw_isE (cv := .ref _) (fun u r => r) kBadStore_BadStore ?_
    walk_at "ob"
    refine cw_isE (cv := .ref _) (fun u r => r) kBadStore_BadRule ?_
    walk_at "ob"
    refine cw_isE (cv := .ref _) (fun u r => r) kBadStore_BadCount ?_
    walk_at "ob"
    refine ⟨by walk_at "ob_len", fun p2 hp2 => ?_⟩
    have hO0 := (own_nil (F := H')).more (o := .lst [V.bl false, V.bl false, V.bl false, V.bl false]) hp1
    have hO1 := hO0.new' (o := .lst [V.bl false, V.bl true, V.bl false, V.bl false]) hp2
    refine aw_nil (mw_extend hd (hO1.get (i := 0) rfl) upd_same (by simp) ?_)
    have hO2 := hO1.set (i := 0) (a := p1) (o' := .lst ([V.bl false, V.bl false, V.bl false, V.bl false] ++ [V.bl false, V.bl true, V.bl false, V.bl false])) rfl
    refine sw_seq (sw_drop (ew_bmL hd ?_))
    walk_at "ob"
    refine ⟨p1, _, rfl, SqL.of (hO2.get (i := 0) rfl), aw_cons (ew_cb ?_)⟩
    walk_at "ob"
    refine cw_isE (cv := .ref _) (fun u r => r) kBadStore_TooMany ?_
    refine aw_nil (mw_append hd (hO2.get (i := 0) rfl) (by simp) ?_)
    have hO3 := hO2.set (i := 0) (a := p1) (o' := .lst ([V.bl false, V.bl false, V.bl false, V.bl false] ++ [V.bl false, V.bl true, V.bl false, V.bl false] ++ [V.bl false])) rfl
    have sq3 : SqL K _ p1 [V.bl false, V.bl false, V.bl false, V.bl false, V.bl false, V.bl true, V.bl false, V.bl false, V.bl false] := SqL.of (K := K) (hO3.get (i := 0) rfl)
    have aw3 := hO3.ex
    generalize (upd _ p1 (.lst ([V.bl false, V.bl false, V.bl false, V.bl false] ++ [V.bl false, V.bl true, V.bl false, V.bl false] ++ [V.bl false]))) = F3 at hO3 sq3 aw3 ⊢
    refine sw_seq (sw_if (tw_or (tw_test (ew_op (ew_bmL hd ?_)))))
    walk_at "ob"
    refine ⟨p1, _, rfl, sq3, ?_⟩
    walk_at "ob"
    refine mw_countV hd sq3 rfl rfl ?_
    walk_at "ob"
    refine ⟨fun hb => absurd hb (by decide), fun _ => ?_⟩
    refine tw_not (tw_B (ew_cb ?_))
    walk_at "ob"
    refine cw_isE (cv := .type "ValueError") (fun u r => r) kBadStore_V ?_
    refine ⟨true, rfl, (fun z => by cases z), fun _ => sw_next ?_⟩
    refine sw_seq (sw_if (tw_B (ew_op ?_)))
    walk_at "ob"
    refine ⟨(fun z => by cases z), fun _ => sw_next ?_⟩
    refine sw_seq (sw_if (tw_or (tw_B (ew_op ?_))))
    walk_at "ob"
    refine ⟨(fun z => by cases z), fun _ => ?_⟩
    refine tw_B (ew_op ?_)
    walk_at "ob"
    refine ⟨(fun z => by cases z), fun _ => sw_next ?_⟩
    refine sw_seq (sw_if (tw_or (tw_B (ew_op ?_))))
    walk_at "ob"
    refine ⟨(fun z => by cases z), fun _ => ?_⟩
    refine tw_B (ew_op ?_)
    walk_at "ob"
    refine ⟨(fun z => by cases z), fun _ => sw_next ?_⟩
    refine sw_ret (ew_tup hd (aw_cons (ew_op (ew_lst hd ?_))))
    walk_at "ob"
    refine ⟨by walk_at "ob_len", fun p3 hp3 => ?_⟩
    refine ew_bmL hd (ew_slL hd ?_)
    walk_at "ob"
    have g3 := Ex.new (.refl F3) hp3 (u := .lst [V.str "store", V.str "rule", V.str "count", V.str "many"])
    refine ⟨p1, _, rfl, g3.sqL sq3, fun p4 hp4 => ?_⟩
    refine ⟨p4, _, rfl, SqL.of upd_same, ?_⟩
    walk_at "ob"
    refine mw_indexV hd (i := 0) (z := .bl true) (SqL.of upd_same) rfl rfl rfl rfl (fun m z' hm hz => absurd hm (by omega)) ?_
    refine rw_ixL hd (v := .str "store") (SqL.of ((Ex.new (.refl _) hp4) _ _ upd_same)) (by rfl) ?_
    walk_at "ob"
    exact ⟨by walk_at "ob_len", fun p5 hp5 => fun H j => kk _ _ p5 j (aw3.trans (g3.trans (Ex.new (Ex.new (.refl _) hp4) hp5))) upd_same⟩
  refine ⟨rfl, ha, O.mono_ _ _ _ _ _ _ hsp ?_ ?_⟩
  · exact fun v H' k => ⟨by decide, fun p hp => k p hp⟩
  · rintro cls d H' (⟨rfl, J, F, dx, n, rfl, hd, j, e1, k⟩ | ⟨rfl, J, F, dx, m, n, rfl, hd, j, e1, k⟩ | ⟨rfl, rfl, k⟩)
    · exact ⟨true, xmBadText, fun _ a ha => .inl ⟨⟨rfl, dx, rfl⟩, rfl, rfl, J, F, dx, n, rfl, hd, j, e1, k⟩, fun z => by cases z⟩
    · exact ⟨true, xmBadStep, fun _ a ha => .inr (.inl ⟨⟨rfl, dx, rfl⟩, rfl, rfl, J, F, dx, m, n, rfl, hd, j, e1, k⟩), fun z => by cases z⟩
    · exact ⟨true, xmBadStore, fun _ a ha => .inr (.inr ⟨⟨rfl, rfl⟩, rfl, rfl, k⟩), fun z => by cases z⟩
end
end Obr
namespace Obr
open PySem PySem.Spec L2 LamX NdefX PyProof.Rows
local macro_rules | `(tactic| walk_at "ob_wat") => `(tactic| first
  | with_reducible refine WAt.g_store (by assumption) ?_
  | with_reducible refine WAt.g_machines (by assumption) ?_
  | with_reducible refine WAt.g_rule (by assumption) ?_
  | with_reducible refine WAt.g_level (by assumption) ?_
  | with_reducible refine WAt.g_at (by assumption) ?_
  | with_reducible refine WAt.g_over (by assumption) ?_
  | with_reducible refine WAt.g_since (by assumption) ?_
  | with_reducible refine WAt.g_last (by assumption) ?_
  | with_reducible refine WAt.g_beat (by assumption) ?_
  | with_reducible refine WAt.g_done (by assumption) ?_
  | with_reducible refine WAt.g_waits (by assumption) ?_
  | with_reducible refine WAt.g_ends (by assumption) ?_
  | ((with_reducible refine' WAt.r_at_ (t := ?_) (m := ?_) ?obw ?obd ?obm ?_); (case obw => assumption); (case obd => assumption); (case obm => assumption))
  | ((with_reducible refine' WAt.r_over (t := ?_) (m := ?_) ?obw ?obd ?obm ?_); (case obw => assumption); (case obd => assumption); (case obm => assumption))
  | ((with_reducible refine' WAt.r_since (t := ?_) (m := ?_) ?obw ?obd ?obm ?_); (case obw => assumption); (case obd => assumption); (case obm => assumption))
  | ((with_reducible refine' WAt.r_done (t := ?_) (m := ?_) ?obw ?obd ?obm ?_); (case obw => assumption); (case obd => assumption); (case obm => assumption))
  | ((with_reducible refine' WAt.r_waits (t := ?_) (m := ?_) ?obw ?obd ?obm ?_); (case obw => assumption); (case obd => assumption); (case obm => assumption))
  | ((with_reducible refine' WAt.r_right ?obw ?obd ?_); (case obw => assumption); (case obd => assumption))
  | ((with_reducible refine' WAt.r_pass ?obw ?obd ?_); (case obw => assumption); (case obd => assumption)))
local macro_rules | `(tactic| walk_at "ob_at") => `(tactic| first
  | assumption
  | exact upd_same
  | (refine Eq.trans (upd_ne ?obn) ?obr; (case obn => walk_at "ob_ne"); (case obr => walk_at "ob_at")))
local macro_rules | `(tactic| walk_at "ob_ne") => `(tactic| first
  | assumption
  | (refine Ne.symm ?obs; (case obs => assumption))
  | (refine' ne_of_none (H := ?_) ?obe ?obh; (case obh => assumption); (case obe => walk_at "ob_at"))
  | (refine Ne.symm ?obs; (case obs => (refine' ne_of_none (H := ?_) ?obe ?obh; (case obh => assumption); (case obe => walk_at "ob_at")))))
local macro_rules | `(tactic| walk_at "ob_fr") => `(tactic| first
  | assumption
  | (refine Eq.trans (upd_ne ?obn) ?obr; (case obn => walk_at "ob_ne"); (case obr => walk_at "ob_fr"))
  | (refine Ex.free (G := ?_) (by assumption) ?obh; (case obh => walk_at "ob_fr")))
local macro_rules | `(tactic| walk_at "ob_ex") => `(tactic| first
  | assumption
  | exact Ex.refl _
  | (refine Ex.out ?obg ?obh; (case obh => assumption); (case obg => walk_at "ob_ex"))
  | (refine Ex.new ?obg ?obh; (case obh => assumption); (case obg => walk_at "ob_ex"))
  | (refine Ex.new ?obg ?obh; (case obh => walk_at "ob_fr"); (case obg => walk_at "ob_ex")))
local macro_rules | `(tactic| walk_at "ob_sq") => `(tactic| first
  | assumption
  | (refine SqL.of ?oba; (case oba => walk_at "ob_at"))
  | (refine Ex.sqT (F := ?_) ?obg ?obh; (case obh => assumption); (case obg => walk_at "ob_ex"))
  | (refine Ex.sqL (F := ?_) ?obg ?obh; (case obh => assumption); (case obg => walk_at "ob_ex"))
  | (refine SqT.of ?oba; (case oba => walk_at "ob_at")))
local macro_rules | `(tactic| walk_at "ob_side") => `(tactic| first | exact rfl | assumption | decide | omega | exact ⟨by decide, by decide, by decide⟩ | exact Or.inr ⟨by decide, by decide⟩ | exact Or.inl ⟨by decide, by decide⟩ | exact wide_div (b := 60) (by first | decide | omega) (by first | decide | omega) (by decide) (by decide))
local macro_rules | `(tactic| walk_at "ob1") => `(tactic| first
  | walk_at "ob_wat"
  | with_reducible refine sw_seq ?_
  | with_reducible refine sw_asg ?_
  | with_reducible refine sw_ret ?_
  | with_reducible refine sw_par ?_
  | with_reducible refine ⟨_, _, rfl, ?_⟩
  | with_reducible refine sw_drop ?_
  | with_reducible refine sw_if ?_
  | with_reducible refine sw_next ?_
  | with_reducible refine gw_name ?_
  | with_reducible refine gw_subL (by assumption) ?_
  | with_reducible refine gsw_cons ?_
  | with_reducible refine gsw_nil ?_
  | with_reducible refine ew_c ?_
  | ((with_reducible refine' ew_var (v := ?_) ?obv ?_); (case obv => exact rfl))
  | ((with_reducible refine ew_next (by assumption) ?obv ?_); (case obv => exact rfl))
  | ((with_reducible refine ew_world (by assumption) ?obv ?_); (case obv => exact rfl))
  | ((with_reducible refine ew_rule (by assumption) ?obv ?_); (case obv => exact rfl))
  | with_reducible refine ew_op ?_
  | with_reducible refine ew_un ?_
  | with_reducible refine ew_dget (by assumption) ?_
  | with_reducible refine uw_I ?_
  | with_reducible refine ppw_nil ?_
  | with_reducible refine ppw_cons ?_
  | with_reducible refine sw_dput (by assumption) ?_
  | with_reducible refine ew_cb ?_
  | with_reducible refine ew_if ?_
  | with_reducible refine ew_slL (by assumption) ?_
  | with_reducible refine ow_some ?_
  | with_reducible refine ow_none ?_
  | with_reducible refine aw_nil ?_
  | with_reducible refine aw_cons ?_
  | with_reducible refine rw_I0 ?_
  | ((with_reducible refine rw_I ?obc ?_); (case obc => walk_at "ob_side"))
  | with_reducible refine rw_isN ?_
  | with_reducible refine rw_notN ?_
  | ((with_reducible refine rw_eq ?obc ?_); (case obc => exact rfl))
  | ((with_reducible refine rw_ne ?obc ?_); (case obc => exact rfl))
  | with_reducible refine cw_max2 ?_
  | with_reducible refine cw_min2 ?_
  | with_reducible refine tw_test ?_
  | with_reducible refine tw_B ?_
  | with_reducible refine tw_not ?_
  | with_reducible refine tw_truB ?_
  | with_reducible refine tw_and ?_
  | with_reducible refine tw_or ?_
  | with_reducible refine ew_and ?_
  | (refine' Exists.intro _ (And.intro (show V.bl _ = V.bl _ from rfl) ?_))
  | (refine' Exists.intro _ (And.intro (show V.int _ = V.int _ from rfl) ?_))
  | ((with_reducible refine' rw_ixL (v := ?_) (xs := ?_) (by assumption) ?obl ?oba ?_); (case obl => walk_at "ob_sq"); (case oba => first | exact rfl | exact at_zero))
  | ((with_reducible refine' rw_ixT (v := ?_) (xs := ?_) (by assumption) ?obl ?oba ?_); (case obl => walk_at "ob_sq"); (case oba => first | exact rfl | exact at_zero))
  | ((with_reducible refine' ew_lst (by assumption) ?_))
  | ((with_reducible refine' ew_tup (by assumption) ?_)))
local macro_rules | `(tactic| walk_at "ob_len") => `(tactic| first | exact Nat.le_of_ble_eq_true rfl | (simp; done) | omega)
local macro_rules | `(tactic| walk_at "ob") => `(tactic| repeat walk_at "ob1")

/-! ### where the law's lambdas stand -/
def nthS : List Stmt → Nat → Stmt
  | [], _ => .Pass ⟨0, 0, 0, 0⟩
  | a :: _, 0 => a
  | _ :: l, n + 1 => nthS l n
def nthE : List Expr → Nat → Expr
  | [], _ => .Constant .none 0 ⟨0, 0, 0, 0⟩
  | a :: _, 0 => a
  | _ :: l, n + 1 => nthE l n
def forBody : Stmt → List Stmt
  | .For _ _ b _ _ => b
  | _ => []
def ifBody : Stmt → List Stmt
  | .If _ b _ _ => b
  | _ => []
def ifElse : Stmt → List Stmt
  | .If _ _ b _ => b
  | _ => []
def ifTest : Stmt → Expr
  | .If t _ _ _ => t
  | _ => .Constant .none 0 ⟨0, 0, 0, 0⟩
def retVal : Stmt → Expr
  | .Return (some e) _ => e
  | _ => .Constant .none 0 ⟨0, 0, 0, 0⟩
def asgVal : Stmt → Expr
  | .Assign _ v _ => v
  | _ => .Constant .none 0 ⟨0, 0, 0, 0⟩
def cmpLeft : Expr → Expr
  | .Compare l _ _ _ => l
  | e => e
def boolVals : Expr → List Expr
  | .BoolOp _ vs _ => vs
  | _ => []
def callArgs : Expr → List Expr
  | .Call _ a _ _ => a
  | _ => []
def lamPar : Expr → Arguments
  | .Lambda p _ _ _ => p
  | _ => default
def lamBody : Expr → Expr
  | .Lambda _ b _ _ => b
  | e => e
def lamScope : Expr → Scope
  | .Lambda _ _ s _ => s
  | _ => default
abbrev s_law : Stmt := top 39
def lam1 : Expr := nthE (callArgs (asgVal (nthS (forBody (nthS (forBody (nthS (defBody s_law) 4)) 8)) 1))) 0

theorem aside_out {S : Type} {J : S → Hp → Hp → Prop} {s : S} {F0 F F' H' : Hp} {L : List (Addr × HO)} (h : Own F0 F L) (j : JP J (pickH F L) s F' H') : ∃ F'', Own F' F'' L ∧ J s F'' H' := by
  obtain ⟨h0, j'⟩ := j
  have pk : ∀ p ∈ L, pickH F L p.1 = some p.2 := fun p hp => by
    unfold pickH
    rw [if_pos (List.mem_map.mpr ⟨p, hp, rfl⟩)]
    exact h.at_ p hp
  refine ⟨overH F' (pickH F L), ⟨fun y o e => ?_, fun p hp => h0 p.1 p.2 (pk p hp), fun p hp => ?_, h.nd⟩, j'⟩
  · have g : pickH F L y = none := by
      cases g : pickH F L y with
      | none => rfl
      | some u => rw [h0 y u g] at e; cases e
    rw [over_none g]
    exact e
  · unfold overH
    rw [pk p hp]
/-- what the lambda keeps: it hands what is read of z to the list at p, or raises -/
def readSp (K : PySem.W.Frag) (cT cS cP : Addr) : LSp := fun ws H Q E => ∃ (J : Unit → Hp → Hp → Prop) (B F : Hp) (z : Str) (p : Addr), Hid J ∧ J () F H ∧ Own B F [(p, .lst [])] ∧ ws = [some (.ref p), some (.str z)] ∧ z.length ≤ 10000 ∧
  (∀ w, verdict z = .told w → ∀ (v : V) (B' F' H' : Hp), Own B' F' [(p, .lst [v])] → Ex B B' → Dp K B' v (wldD w) → J () F' H' → Q .non H') ∧
  (∀ k : Nat, verdict z = .text k → ∀ (dx : Addr) (B' F' H' : Hp), Own B' F' [(p, .lst [])] → Ex B B' → B' dx = some (.xd [("row", .int (k : Int))]) → J () F' H' → E (.ref cT) (some dx) H') ∧
  (verdict z = .store → ∀ (B' F' H' : Hp), Own B' F' [(p, .lst [])] → Ex B B' → J () F' H' → E (.ref cS) none H') ∧
  (∀ k i : Nat, verdict z = .step k i → ∀ (dx : Addr) (B' F' H' : Hp), Own B' F' [(p, .lst [])] → Ex B B' → B' dx = some (.xd [("step", .int (i : Int)), ("machine", .int (k : Int))]) → J () F' H' → E (.ref cP) (some dx) H')
theorem readSp_mono {K : PySem.W.Frag} {cT cS cP : Addr} (ws : List (Option V)) (H : Hp) (Q Q' : VK) (E E' : L2.XK) (h : readSp K cT cS cP ws H Q E) (hQ : ∀ v H', Q v H' → Q' v H') (hE : ∀ cls d H', E cls d H' → E' cls d H') : readSp K cT cS cP ws H Q' E' := by
  obtain ⟨J, B, F, z, p, hd, j, ho, ew, hz, k1, k2, k3, k4⟩ := h
  exact ⟨J, B, F, z, p, hd, j, ho, ew, hz, fun w h v B' F' H' a b c d => hQ _ _ (k1 w h v B' F' H' a b c d), fun k h dx B' F' H' a b c d => hE _ _ _ (k2 k h dx B' F' H' a b c d), fun h B' F' H' a b c => hE _ _ _ (k3 h B' F' H' a b c), fun k i h dx B' F' H' a b c d => hE _ _ _ (k4 k i h dx B' F' H' a b c d)⟩
section
variable {S : Type} {J : S → Hp → Hp → Prop} {σ : L2.St} {s : S} {F : Hp} {R : V → S → Hp → Prop} {X : Cx} {te : TE} {kl : Nat} {cT cS cP : Addr}
theorem ew_kread (hd : Hid J) (h : EW J te σ s F fun v s1 F1 => ∃ (f : Addr) (L : LF) (ds : List V) (fr : List Str) (js : List Nat) (B : Hp) (z : Str) (p : Addr), v = .ref f ∧ LamAt F1 f L ds ∧ (X.Ok → Caps X L.cl fr js) ∧ LamOk X.prog X.w X.K X.mg X.base (L2.CX X.prog X.w) kl f L ds fr (readSp X.K cT cS cP) ∧
      Own B F1 [(p, .lst [])] ∧ js.map (slotAt σ) = [some (.ref p), some (.str z)] ∧ z.length ≤ 10000 ∧
      (∀ w, verdict z = .told w → ∀ (v : V) (F' : Hp) (q : Addr), Ex B F' → F' p = some (.lst [v]) → Dp X.K F' v (wldD w) → F' q = some (.tup [.str "", .int 0]) → R (.ref q) s1 F') ∧
      (∀ k : Nat, verdict z = .text k → ∀ (F' : Hp) (q : Addr), Ex B F' → F' q = some (.tup [.str "text", .int (k : Int)]) → R (.ref q) s1 F') ∧
      (verdict z = .store → ∀ (F' : Hp) (q : Addr), Ex B F' → F' q = some (.tup [.str "store", .int 0]) → R (.ref q) s1 F') ∧
      (∀ k i : Nat, verdict z = .step k i → ∀ (F' : Hp) (q q2 : Addr), Ex B F' → F' q2 = some (.tup [.int (k : Int), .int (i : Int)]) → F' q = some (.tup [.str "step", .ref q2]) → R (.ref q) s1 F')) : EW J (tKCall X (L2.CX X.prog X.w) kl (kindB cT cP cS) (tCons te tNil)) σ s F R := fun H j Q q =>
  h H j _ fun v s1 F1 H1 j1 ⟨f, L, ds, fr, js, B, z, p, ev, lat, cap, lok, ho, ejs, hz, k1, k2, k3, k4⟩ =>
    have latH : LamAt H1 f L ds := ⟨hd.ex j1 _ _ lat.fn, hd.ex j1 _ _ lat.code, fun t e => hd.ex j1 _ _ (lat.dflt t e)⟩
    ⟨v, rfl, f, L, ds, fr, js, _, ev, latH, cap, lok, latH, fun _ F H => J s1 F H, B, F1, z, p, hd.unit s1, j1, ho, ejs, hz,
      fun w hv v' B' F' H' hO' g dv j' q3 hq3 => q _ _ _ _ (hd.al j' hq3) (k1 w hv v' _ q3 (g.trans (hO'.ex.trans (Ex.new (.refl _) (hd.fresh j' hq3)))) ((Ex.new (.refl _) (hd.fresh j' hq3)) _ _ (hO'.get (i := 0) rfl)) (dp_ex (hO'.ex.trans (Ex.new (.refl _) (hd.fresh j' hq3))) dv) upd_same),
      fun k hv dx B' F' H' hO' g e j' => .inl ⟨rfl, fun _ F H => J s1 F H, F', dx, _, rfl, hd.unit s1, j', hO'.ex _ _ e, fun F3 H3 p3 j3 g3 e3 => q _ _ _ _ j3 (k2 k hv F3 p3 (g.trans (hO'.ex.trans g3)) e3)⟩,
      fun hv B' F' H' hO' g j' => .inr (.inr ⟨rfl, rfl, fun _ F H => J s1 F H, F', hd.unit s1, j', fun F3 H3 p3 j3 g3 e3 => q _ _ _ _ j3 (k3 hv F3 p3 (g.trans (hO'.ex.trans g3)) e3)⟩),
      fun k i hv dx B' F' H' hO' g e j' => .inr (.inl ⟨rfl, fun _ F H => J s1 F H, F', dx, _, _, rfl, hd.unit s1, j', hO'.ex _ _ e, fun F3 H3 p3 p4 j3 g3 e3 e4 => q _ _ _ _ j3 (k4 k i hv F3 p3 p4 (g.trans (hO'.ex.trans g3)) e3 e4)⟩)⟩
end
section
variable {P : Program} {w : World} {K : PySem.W.Frag} {mg : Str → Option Value} {base : Heap} {cBadText cBadStore cBadStep : Addr}

theorem lamok1 (B : Blt mg) {f1 : Addr} {fd1 : FuncData} (Cread : Cal K mg "read" f1 fd1 ["text"]) (Gread : FnOk P w K mg base (L2.CX P w) 5 f1 fd1 ["text"] (LB (aReadB K cBadText cBadStore cBadStep))) {f c : Addr} {qn : Str} {cl : List (Str × Addr)} :
    LamOk P w K mg base (L2.CX P w) 7 f ⟨qn, lamPar lam1, lamBody lam1, lamScope lam1, cl, c, none⟩ [] ["_law_found", "_law_one"] (readSp K cBadText cBadStore cBadStep) := by
  refine lok_of (N := ["_law_found", "_law_one"]) (ps := []) (nscope_by (sc := lamScope lam1) (by decide +kernel)) rfl (bind0 (fun _ _ _ => rfl)) readSp_mono (fun A outer s H ws Q E hr ha hl hsp => ?_)
  obtain ⟨J, B, F, z, p, hd, j, hO, rfl, hz, k1, k2, k3, k4⟩ := hsp
  refine ⟨_, (pe_bm PySem.F.plainAttrs_list PySem.F.slot_list_append PySem.F.type_list_append mt_append (pv 0) (pa_cons (pe_call Gread (by exact hr.mono (by decide)) (by rfl) Cread.g Cread.k Cread.a .nil (passes_call (takes_of rfl rfl rfl rfl) (fun _ _ _ _ h => h)) (pa_cons (pv 1) pa_nil)) pa_nil)), ?_⟩
  refine (show EW J _ _ () F (fun v _ F' => v = .non ∧ ∃ (wd : Wld) (v' : V) (B' : Hp), verdict z = .told wd ∧ Own B' F' [(p, .lst [v'])] ∧ Ex B B' ∧ Dp K B' v' (wldD wd)) from ?_) H j _ (fun v s' F' H' j' ⟨ev, wd, v', B', hv, hO', g, dv⟩ => by rw [ev]; exact k1 wd hv v' B' F' H' hO' g dv j')
  have gD := drop_ex hO
  refine ew_bmL hd (ew_var rfl ⟨p, _, rfl, SqL.of (hO.get (i := 0) rfl), aw_cons (ew_aside hd hO (ew_callB hd.jp (aw_cons (ew_var rfl (aw_nil ⟨fun cls d F' => (∃ (k : Nat) (dx : Addr) (G : Hp), verdict z = .text k ∧ cls = .ref cBadText ∧ d = some dx ∧ Ex (dropH F [(p, .lst [])]) G ∧ G dx = none ∧ F' = upd G dx (.xd [("row", .int (k : Int))])) ∨ (verdict z = .store ∧ cls = .ref cBadStore ∧ d = none ∧ Ex (dropH F [(p, .lst [])]) F') ∨ (∃ (k i : Nat) (dx : Addr) (G : Hp), verdict z = .step k i ∧ cls = .ref cBadStep ∧ d = some dx ∧ Ex (dropH F [(p, .lst [])]) G ∧ G dx = none ∧ F' = upd G dx (.xd [("step", .int (i : Int)), ("machine", .int (k : Int))])),
    ⟨z, rfl, hz, fun wd hv v B' gB dv F'' hO'' => aw_nil (mw_append hd (hO''.get (i := 0) rfl) (by decide) ⟨rfl, wd, v, B', hv, hO''.set (i := 0) (a := p) rfl, gD.trans gB, dv⟩), fun k hv dx G g hdx => .inl ⟨k, dx, G, hv, rfl, rfl, g, hdx, rfl⟩, fun hv G g => .inr (.inl ⟨hv, rfl, rfl, g⟩), fun k i hv dx G g hdx => .inr (.inr ⟨k, i, dx, G, hv, rfl, rfl, g, hdx, rfl⟩)⟩, ?_⟩)))))⟩)
  rintro cls d F' H' j' (⟨k, dx, G, hv, rfl, rfl, g, hdx, rfl⟩ | ⟨hv, rfl, rfl, g⟩ | ⟨k, i, dx, G, hv, rfl, rfl, g, hdx, rfl⟩)
  · obtain ⟨F'', hO'', j''⟩ := aside_out hO j'
    exact k2 k hv dx _ F'' H' hO'' (gD.trans (Ex.new g hdx)) upd_same j''
  · obtain ⟨F'', hO'', j''⟩ := aside_out hO j'
    exact k3 hv _ F'' H' hO'' (gD.trans g) j''
  · obtain ⟨F'', hO'', j''⟩ := aside_out hO j'
    exact k4 k i hv dx _ F'' H' hO'' (gD.trans (Ex.new g hdx)) upd_same j''
end
end Obr
namespace Obr
open PySem L2 PySem.Spec PyProof.Rows TL
local macro_rules | `(tactic| walk_at "ob_at") => `(tactic| first
  | assumption
  | exact upd_same
  | (refine Eq.trans (upd_ne ?obn) ?obr; (case obn => walk_at "ob_ne"); (case obr => walk_at "ob_at")))
local macro_rules | `(tactic| walk_at "ob_ne") => `(tactic| first
  | assumption
  | (refine Ne.symm ?obs; (case obs => assumption))
  | (refine' ne_of_none (H := ?_) ?obe ?obh; (case obh => assumption); (case obe => walk_at "ob_at"))
  | (refine Ne.symm ?obs; (case obs => (refine' ne_of_none (H := ?_) ?obe ?obh; (case obh => assumption); (case obe => walk_at "ob_at")))))
local macro_rules | `(tactic| walk_at "ob_fr") => `(tactic| first
  | assumption
  | (refine Eq.trans (upd_ne ?obn) ?obr; (case obn => walk_at "ob_ne"); (case obr => walk_at "ob_fr"))
  | (refine Ex.free (G := ?_) (by assumption) ?obh; (case obh => walk_at "ob_fr")))
local macro_rules | `(tactic| walk_at "ob_ex") => `(tactic| first
  | assumption
  | exact Ex.refl _
  | (refine Ex.out ?obg ?obh; (case obh => assumption); (case obg => walk_at "ob_ex"))
  | (refine Ex.new ?obg ?obh; (case obh => assumption); (case obg => walk_at "ob_ex"))
  | (refine Ex.new ?obg ?obh; (case obh => walk_at "ob_fr"); (case obg => walk_at "ob_ex")))
local macro_rules | `(tactic| walk_at "ob_sq") => `(tactic| first
  | assumption
  | (refine SqL.of ?oba; (case oba => walk_at "ob_at"))
  | (refine Ex.sqT (F := ?_) ?obg ?obh; (case obh => assumption); (case obg => walk_at "ob_ex"))
  | (refine Ex.sqL (F := ?_) ?obg ?obh; (case obh => assumption); (case obg => walk_at "ob_ex"))
  | (refine SqT.of ?oba; (case oba => walk_at "ob_at")))
local macro_rules | `(tactic| walk_at "ob_side") => `(tactic| first | exact rfl | assumption | decide | omega | exact ⟨by decide, by decide, by decide⟩ | exact Or.inr ⟨by decide, by decide⟩ | exact Or.inl ⟨by decide, by decide⟩ | exact wide_div (b := 60) (by first | decide | omega) (by first | decide | omega) (by decide) (by decide))
local macro_rules | `(tactic| walk_at "ob1") => `(tactic| first
  | with_reducible refine sw_seq ?_
  | with_reducible refine sw_asg ?_
  | with_reducible refine sw_ret ?_
  | with_reducible refine sw_par ?_
  | with_reducible refine ⟨_, _, rfl, ?_⟩
  | with_reducible refine sw_drop ?_
  | with_reducible refine sw_if ?_
  | with_reducible refine sw_next ?_
  | with_reducible refine gw_name ?_
  | with_reducible refine gw_subL (by assumption) ?_
  | with_reducible refine gsw_cons ?_
  | with_reducible refine gsw_nil ?_
  | with_reducible refine ew_c ?_
  | ((with_reducible refine' ew_var (v := ?_) ?obv ?_); (case obv => exact rfl))
  | ((with_reducible refine ew_next (by assumption) ?obv ?_); (case obv => exact rfl))
  | ((with_reducible refine ew_world (by assumption) ?obv ?_); (case obv => exact rfl))
  | ((with_reducible refine ew_rule (by assumption) ?obv ?_); (case obv => exact rfl))
  | with_reducible refine ew_op ?_
  | with_reducible refine ew_un ?_
  | with_reducible refine ew_dget (by assumption) ?_
  | with_reducible refine uw_I ?_
  | with_reducible refine ppw_nil ?_
  | with_reducible refine ppw_cons ?_
  | with_reducible refine sw_dput (by assumption) ?_
  | with_reducible refine ew_cb ?_
  | with_reducible refine ew_if ?_
  | with_reducible refine ew_slL (by assumption) ?_
  | with_reducible refine ow_some ?_
  | with_reducible refine ow_none ?_
  | with_reducible refine aw_nil ?_
  | with_reducible refine aw_cons ?_
  | with_reducible refine rw_I0 ?_
  | ((with_reducible refine rw_I ?obc ?_); (case obc => walk_at "ob_side"))
  | with_reducible refine rw_isN ?_
  | with_reducible refine rw_notN ?_
  | ((with_reducible refine rw_eq ?obc ?_); (case obc => exact rfl))
  | ((with_reducible refine rw_ne ?obc ?_); (case obc => exact rfl))
  | with_reducible refine cw_max2 ?_
  | with_reducible refine cw_min2 ?_
  | with_reducible refine tw_test ?_
  | with_reducible refine tw_B ?_
  | with_reducible refine tw_not ?_
  | with_reducible refine tw_truB ?_
  | with_reducible refine tw_and ?_
  | with_reducible refine tw_or ?_
  | with_reducible refine ew_and ?_
  | (refine' Exists.intro _ (And.intro (show V.bl _ = V.bl _ from rfl) ?_))
  | (refine' Exists.intro _ (And.intro (show V.int _ = V.int _ from rfl) ?_))
  | ((with_reducible refine' rw_ixL (v := ?_) (xs := ?_) (by assumption) ?obl ?oba ?_); (case obl => walk_at "ob_sq"); (case oba => first | exact rfl | exact at_zero))
  | ((with_reducible refine' rw_ixT (v := ?_) (xs := ?_) (by assumption) ?obl ?oba ?_); (case obl => walk_at "ob_sq"); (case oba => first | exact rfl | exact at_zero))
  | ((with_reducible refine' ew_lst (by assumption) ?_))
  | ((with_reducible refine' ew_tup (by assumption) ?_)))
local macro_rules | `(tactic| walk_at "ob_len") => `(tactic| first | exact Nat.le_of_ble_eq_true rfl | (simp; done) | omega)
local macro_rules | `(tactic| walk_at "ob") => `(tactic| repeat walk_at "ob1")

def figB (c : Nat) : Bool := decide (c ∈ figS.cps.toList)
theorem fig_rng (c : Nat) : figB c = (decide (48 ≤ c) && decide (c ≤ 57)) := by
  unfold figB
  rw [figs]
  by_cases h : 48 ≤ c ∧ c ≤ 57
  · rw [decide_eq_true h.1, decide_eq_true h.2, decide_eq_true]
    · rfl
    · have : c = 48 ∨ c = 49 ∨ c = 50 ∨ c = 51 ∨ c = 52 ∨ c = 53 ∨ c = 54 ∨ c = 55 ∨ c = 56 ∨ c = 57 := by omega
      simpa using this
  · rw [decide_eq_false (fun z => h (by simp at z; omega))]
    by_cases h1 : 48 ≤ c
    · rw [decide_eq_false (fun z => h ⟨h1, z⟩), Bool.and_false]
    · rw [decide_eq_false h1, Bool.false_and]
theorem lt_one (a b : Nat) : (([a] : List Nat) < [b]) ↔ a < b := by
  constructor
  · intro h
    cases h with
    | rel h => exact h
    | cons h => cases h
  · exact fun h => .rel h
theorem sign0 : ("0" : Str).cps.toList = [48] := by decide +kernel
theorem sign9 : ("9" : Str).cps.toList = [57] := by decide +kernel
theorem num_bad {y : Str} (h : ¬ (1 ≤ y.length ∧ y.length ≤ 2) ∨ (y.cps.toList.filter figB).length < y.length ∨ (y ≠ "0" ∧ y.cps.toList.head? = some 48)) : isNumB y = false := by
  have hl : y.length = y.cps.toList.length := by simp [Str.length]
  by_cases c : isNumB y = true
  · exfalso
    obtain ⟨n, hn, rfl⟩ := isNum_is c
    unfold isNumB at c
    rw [Bool.and_eq_true, List.all_eq_true] at c
    obtain ⟨c1, c2⟩ := c
    rcases h with h | h | ⟨h1, h2⟩
    · have t : Two (n : Int) := ⟨by omega, by omega⟩
      have := (numS_is t).2.2.1
      rw [Bool.or_eq_true] at c2
      rcases c2 with c2 | c2
      · have := of_decide_eq_true c2; omega
      · rw [Bool.and_eq_true] at c2
        have := of_decide_eq_true c2.1; omega
    · rw [hl, show (List.filter figB (numS (n : Int)).cps.toList).length = _ from List.length_filter_eq_length_iff.mpr c1] at h
      omega
    · rw [Bool.or_eq_true] at c2
      rcases c2 with c2 | c2
      · have c3 := of_decide_eq_true c2
        refine h1 (ext_tl ?_)
        rw [hl] at c3
        show (numS (n : Int)).cps.toList = ("0" : Str).cps.toList
        rw [sign0]
        match e : (numS (n : Int)).cps.toList, c3 with
        | [x], _ => rw [e] at h2; cases h2; rfl
      · rw [Bool.and_eq_true, h2] at c2
        exact absurd c2.2 (by decide)
  · simpa using c
theorem num_good {y : Str} (h1 : 1 ≤ y.length ∧ y.length ≤ 2) (h2 : ¬ (y.cps.toList.filter figB).length < y.length) (h3 : ¬ (y ≠ "0" ∧ y.cps.toList.head? = some 48)) : isNumB y = true := by
  have hl : y.length = y.cps.toList.length := by simp [Str.length]
  have hle := List.length_filter_le figB y.cps.toList
  have hall := List.length_filter_eq_length_iff.mp (show (y.cps.toList.filter figB).length = y.cps.toList.length by omega)
  unfold isNumB
  rw [Bool.and_eq_true, List.all_eq_true]
  refine ⟨hall, ?_⟩
  rw [Bool.or_eq_true]
  by_cases c : y.length = 1
  · exact .inl (decide_eq_true c)
  · right
    have c2 : y.length = 2 := by omega
    rw [decide_eq_true c2, Bool.true_and, Bool.not_eq_true']
    refine decide_eq_false fun z => h3 ⟨fun e => ?_, z⟩
    rw [e] at c2
    exact absurd c2 (by decide +kernel)
def numsD : Option (List Int) → PyData
  | some l => .tuple (l.map PyData.int)
  | none => .none
def aNums (K : PySem.W.Frag) : List V → Hp → VK → Prop := fun vs F R => ∃ (a : Addr) (ys : List Str), vs = [.ref a] ∧ SqL K F a (ys.map V.str) ∧ ys.length ≤ 20000 ∧ (∀ y ∈ ys, y.length ≤ 20000) ∧ ∀ v F', Ex F F' → Dp K F' v (numsD (wordsNum ys)) → R v F'
section
variable {S : Type} {J : S → Hp → Hp → Prop} {σ : L2.St} {s : S} {F : Hp} {R : V → S → Hp → Prop}
theorem rw_leS {x y : Str} (h : R (.bl (!decide (y.cps.toList < x.cps.toList))) s F) : RW J (fun x y H Q => ∃ i j, x = .str i ∧ y = .str j ∧ Q (.bl (!decide (j.cps.toList < i.cps.toList))) H) (.str x) (.str y) s F R := fun H j Q q => ⟨x, y, rfl, rfl, q _ _ _ _ j h⟩
theorem ew_rngW {ta tb tc : TE} {a b c : Int} (h1 : EW J ta σ s F fun x s1 F1 => x = .int a ∧ s1 = s ∧ F1 = F) (h2 : EW J tb σ s F fun x s1 F1 => x = .int b ∧ s1 = s ∧ F1 = F) (h3 : EW J tc σ s F fun x s1 F1 => x = .int c ∧ s1 = s ∧ F1 = F) (k : R (.bl (decide (a ≤ b) && decide (b ≤ c))) s F) :
    EW J (tChain (rI0 fun i j => .bl (decide (i ≤ j))) (rI0 fun i j => .bl (decide (i ≤ j))) ta tb tc) σ s F R :=
  ew_chain (h1.imp fun x s1 F1 ⟨ex, es, eF⟩ => by
    subst ex es eF
    exact h2.imp fun y s2 F2 ⟨ey, es, eF⟩ => by
      subst ey es eF
      refine rw_I0 ⟨_, rfl, fun hb => h3.imp fun z s3 F3 ⟨ez, es, eF⟩ => ?_, fun hb => ?_⟩
      · subst ez es eF
        rw [hb, Bool.true_and] at k
        exact rw_I0 k
      · rw [hb, Bool.false_and] at k
        exact k)
end
theorem dec_strY (a b : Str) : decide (V.str a = V.str b) = decide (a = b) := by
  by_cases h : a = b
  · rw [h]; simp
  · rw [decide_eq_false h, decide_eq_false (fun e => h (by injection e))]
theorem dec_intY (a b : Int) : decide (V.int a = V.int b) = decide (a = b) := by
  by_cases h : a = b
  · rw [h]; simp
  · rw [decide_eq_false h, decide_eq_false (fun e => h (by injection e))]
section
variable {P : Program} {w : World} {K : PySem.W.Frag} {mg : Str → Option Value} {base : Heap}

abbrev s__law_numbers : Stmt := top 37
def N__law_numbers : List Str := ["_law_words", "_law_word", "_law_good", "_law_sign"]
theorem sc__law_numbers : FnScope N__law_numbers ["_law_words"] (defScope s__law_numbers) := ⟨rfl, rfl, rfl, by decide +kernel, rfl, by decide +kernel, by decide +kernel⟩
theorem ok__law_numbers {f : Addr} {fd : FuncData}  (Fn : Fun K "_law_numbers" "_law_numbers" s__law_numbers f fd) (B : Blt mg)  : FnOk P w K mg base CX0 1 f fd ["_law_words"] (LS (aNums K)) := by
  refine Fn.ok sc__law_numbers (fun vs H Q E h => ?_) (fun cdv A outer s H vs Q E hr h => ?_)
  · obtain ⟨J, F, R, hd, j, h, _⟩ := h
    obtain ⟨a, ys, rfl, _⟩ := h
    rfl
  · have nd := sc__law_numbers.nd
    obtain ⟨J, F, R, hd, j, h, q⟩ := h
    obtain ⟨a, ys, rfl, l, hl, hy, k⟩ := h
    refine ⟨_, (pss_cons (ps_for PassesOwn.never rfl (pi_list (pv 0)) (pg_name (i := 1) nd rfl (Or.inl rfl)) (pss_cons (ps_setLc (i := 2) rfl nd rfl rfl (sw_true rfl rfl rfl (by decide +kernel)) (own := [("_law_sign", 3)]) (te := (tVar 3)) (tt := (tTest (tChain (fun x y H Q => ∃ i j, x = .str i ∧ y = .str j ∧ Q (.bl (!decide (j.cps.toList < i.cps.toList))) H) (fun x y H Q => ∃ i j, x = .str i ∧ y = .str j ∧ Q (.bl (!decide (j.cps.toList < i.cps.toList))) H) (tC (.str "0")) (tVar 3) (tC (.str "9"))))) (pi_str (pv 1)) (blkOk_by (own := [("_law_sign", 3)]) (N := N__law_numbers) (sc := defScope s__law_numbers) (by decide +kernel)) (fun _ _ _ _ _ => (pg_name (i := 3) nd rfl (Or.inl rfl))) (fun _ _ _ _ _ => pts_one (pt_chain op_le_str op_le_str pe_str (pv 3) pe_str)) (fun _ _ _ _ _ => (pv 3)))
      (pss_one (ps_if (PW.pt (pw_or (pt_not (pt_chain op_le op_le pe_int (pe_callB call_len_str (by rfl) B.len (by decide +kernel) (pa_cons (pv 1) pa_nil)) pe_int)) (pw_or (pt_cmpR op_lt (pe_callB call_len_seq (by rfl) B.len (by decide +kernel) (pa_cons (pv 2) pa_nil)) (pe_callB call_len_str (by rfl) B.len (by decide +kernel) (pa_cons (pv 1) pa_nil)) (nomark _)) (pw_or1 (PW.pt (pw_and (pt_cmpR op_ne (pv 1) pe_str (nomark _)) (pw_and1 (pt_cmpR op_eq (pe_ix ix_str (pv 1) pe_int (fun _ _ => rfl)) pe_str (nomark _))))))))) (pss_one (ps_ret pe_non)) pss_nil))))
      (pss_one (ps_ret (pe_ifExp (pt_cmpR op_eq (pe_callB call_len_seq (by rfl) B.len (by decide +kernel) (pa_cons (pv 0) pa_nil)) pe_int (nomark _)) (pe_callTy call_tuple_of (by rfl) B.tuple (by decide +kernel) (pa_cons (pe_lc (own := [("_law_word", 1)]) (te := (tCB (fun xs H Q => ∃ a n, xs = [.str a] ∧ PySem.intText? a = some n ∧ a.length ≤ 640 ∧ Q (.int n) H) (tCons (tVar 1) tNil))) (tt := tYes) (by rfl) nd (pi_list (pv 0)) (blkOk_by (own := [("_law_word", 1)]) (N := N__law_numbers) (sc := defScope s__law_numbers) (by decide +kernel)) (fun _ _ _ _ _ => (pg_name (i := 1) nd rfl (Or.inl rfl))) (fun _ _ _ _ _ => pts_nil) (fun _ _ _ _ _ => (pe_callTy call_int_str (by rfl) B.int (by decide +kernel) (pa_cons (pv 1) pa_nil)))) pa_nil)) pe_non)))), ?_⟩
    refine LS.body j q ?_
    refine sw_seq (sw_mid (fun σ _ G => ∃ y1 y2 y3 : Option V, σ = [some (.ref a), y1, y2, y3] ∧ Ex F G ∧ ∀ y ∈ ys, isNumB y = true) ?_ ?_)
    · refine sw_forL hd (ew_var rfl ⟨a, ys.map V.str, fun i σ _ G => ∃ y1 y2 y3 : Option V, σ = [some (.ref a), y1, y2, y3] ∧ Ex F G ∧ ∀ y ∈ ys.take i, isNumB y = true, rfl, l, ⟨none, none, none, rfl, .refl _, (fun y hy => by cases hy)⟩, ?_, ?_, ?_⟩)
      · rintro i σ _ G hi ⟨y1, y2, y3, rfl, g, hg⟩
        exact g.sqL l
      · rintro i x σ _ G hx ⟨y1, y2, y3, rfl, g, hg⟩
        rw [List.getElem?_map] at hx
        obtain ⟨z, hz, rfl⟩ := Option.map_eq_some_iff.mp hx
        have hmem := List.mem_of_getElem? hz
        have hzl := hy z hmem
        have hzz : z.length = z.cps.toList.length := by simp [Str.length]
        have hzs : z.cps.size = z.cps.toList.length := by simp
        have hsz : z.length ≤ sizeLine := by rw [sizeLine_eq]; omega
        have bad : ∀ G', Ex F G' → isNumB z = false → R .non G' := fun G' g' hb => by
          have e : wordsNum ys = none := by
            unfold wordsNum
            rw [if_neg]
            intro c
            unfold threeB at c
            rw [Bool.and_eq_true, List.all_eq_true] at c
            rw [c.2 z hmem] at hb
            cases hb
          refine k .non G' g' ?_
          rw [e]
          exact .non
        refine gw_name (sw_seq (sw_asg (ew_lcS hd (ew_var rfl ⟨z, rfl, by omega, fun Dl hDl => ⟨fun i acc _ G2 => G = G2 ∧ acc = ((z.cps.toList.take i).filter figB).map fun c => V.str ⟨#[c]⟩, ⟨rfl, rfl⟩, ?_, ?_, ?_⟩⟩))))
        · rintro i acc _ G2 hi hg2 ⟨rfl, rfl⟩
          rw [List.length_map]
          exact Nat.le_trans (List.length_filter_le _ _) (List.length_take_le _ _)
        · rintro i acc c _ G2 hc hg2 ⟨rfl, rfl⟩
          have hc2 : z.cps.toList[i]? = some c := by rw [← hc]; simp
          have hstep : ((z.cps.toList.take (i + 1)).filter figB).map (fun c => V.str ⟨#[c]⟩) = ((z.cps.toList.take i).filter figB).map (fun c => V.str ⟨#[c]⟩) ++ (if figB c = true then [V.str ⟨#[c]⟩] else []) := by
            rw [List.take_succ, hc2, List.filter_append, List.map_append]
            congr 1
            by_cases hb : figB c = true
            · rw [if_pos hb]
              show ([c].filter figB).map _ = _
              rw [List.filter_cons, if_pos hb]
              rfl
            · rw [if_neg hb]
              show ([c].filter figB).map _ = _
              rw [List.filter_cons, if_neg hb]
              rfl
          have f1 : (!decide (([c] : List Nat) < ("0" : Str).cps.toList)) = decide (48 ≤ c) := by
            rw [sign0]
            by_cases hb : 48 ≤ c
            · rw [decide_eq_true hb, decide_eq_false (fun y => by have := (lt_one c 48).mp y; omega)]; rfl
            · rw [decide_eq_false hb, decide_eq_true ((lt_one c 48).mpr (by omega))]; rfl
          have f2 : (!decide (("9" : Str).cps.toList < ([c] : List Nat))) = decide (c ≤ 57) := by
            rw [sign9]
            by_cases hb : c ≤ 57
            · rw [decide_eq_true hb, decide_eq_false (fun y => by have := (lt_one 57 c).mp y; omega)]; rfl
            · rw [decide_eq_false hb, decide_eq_true ((lt_one 57 c).mpr (by omega))]; rfl
          have fr := fig_rng c
          refine gw_name ⟨rfl, tw_test (ew_chain (ew_c (ew_var rfl (rw_leS ⟨_, rfl, fun h1 => ew_c (rw_leS ⟨_, rfl, fun h2 => ew_var rfl ⟨rfl, ?_⟩, fun h2 => ⟨rfl, ?_⟩⟩), fun h1 => ⟨_, rfl, (fun y => by cases y), fun _ => ⟨rfl, ?_⟩⟩⟩))))⟩
          · rw [hstep, if_pos (by rw [fr, ← f1, ← f2]; exact (Bool.and_eq_true _ _).mpr ⟨h1, h2⟩)]
          · rw [hstep, if_neg (by rw [fr, ← f1, ← f2]; intro y; rw [Bool.and_eq_true] at y; rw [show (!decide (("9" : Str).cps.toList < ([c] : List Nat))) = false from h2] at y; cases y.2), List.append_nil]
          · rw [hstep, if_neg (by rw [fr, ← f1, ← f2]; intro y; rw [Bool.and_eq_true] at y; rw [show (!decide (([c] : List Nat) < ("0" : Str).cps.toList)) = false from h1] at y; cases y.1), List.append_nil]
        rintro acc _ G2 hg2 ⟨rfl, rfl⟩
        rw [hzs, List.take_length]
        have gD := Ex.new g hg2 (u := .lst ((z.cps.toList.filter figB).map fun c => V.str ⟨#[c]⟩))
        have eD : (upd G Dl (.lst ((z.cps.toList.filter figB).map fun c => V.str ⟨#[c]⟩))) Dl = some (.lst ((z.cps.toList.filter figB).map fun c => V.str ⟨#[c]⟩)) := upd_same
        generalize upd G Dl (.lst ((z.cps.toList.filter figB).map fun c => V.str ⟨#[c]⟩)) = G3 at gD eD
        refine gw_name (sw_if (tw_or (tw_not (tw_test (ew_rngW (ew_c ⟨rfl, rfl, rfl⟩) (ew_cb (aw_cons (ew_var rfl (aw_nil (cw_lenStr hsz ⟨rfl, rfl, rfl⟩))))) (ew_c ⟨rfl, rfl, rfl⟩) ⟨_, rfl, fun h1 => ?_, fun h1 => ?_⟩)))))
        · rw [Bool.not_eq_true'] at h1
          refine ⟨fun _ => sw_ret (ew_c (bad G3 gD (num_bad (.inl fun y => ?_)))), (fun y => by cases y)⟩
          rw [decide_eq_true (show (1 : Int) ≤ (z.length : Int) by omega), decide_eq_true (show (z.length : Int) ≤ 2 by omega)] at h1
          cases h1
        rw [Bool.not_eq_false', Bool.and_eq_true] at h1
        have l1 := of_decide_eq_true h1.1
        have l2 := of_decide_eq_true h1.2
        refine tw_or (tw_test (ew_op (ew_cb (aw_cons (ew_var rfl (aw_nil (cw_lenS hd (.inl (SqL.of eD)) (ew_cb (aw_cons (ew_var rfl (aw_nil (cw_lenStr hsz (rw_I0 ⟨_, rfl, fun h2 => ?_, fun h2 => ?_⟩)))))))))))))
        · have h2 := of_decide_eq_true h2
          rw [List.length_map] at h2
          exact ⟨fun _ => sw_ret (ew_c (bad G3 gD (num_bad (.inr (.inl (by omega)))))), (fun y => by cases y)⟩
        have h2 := of_decide_eq_false h2
        rw [List.length_map] at h2
        have good : isNumB z = true → ∀ y ∈ ys.take (i + 1), isNumB y = true := fun hb y hy2 => by
          rw [List.take_succ, hz] at hy2
          rcases List.mem_append.mp hy2 with q | q
          · exact hg y q
          · rw [List.mem_singleton.mp q]; exact hb
        obtain ⟨c0, r0, e0⟩ : ∃ c0 r0, z.cps.toList = c0 :: r0 := by
          cases e : z.cps.toList with
          | nil => rw [e] at hzz; simp at hzz; omega
          | cons a l => exact ⟨a, l, rfl⟩
        refine tw_and (tw_test (ew_op (ew_var rfl (ew_c (rw_ne rfl ⟨_, rfl, fun h3 => ?_, fun h3 => ?_⟩)))))
        · rw [dec_strY, Bool.not_eq_true'] at h3
          have h3 := of_decide_eq_false h3
          refine tw_test (ew_op (ew_op (ew_var rfl (ew_c (rw_ixS hsz (c := c0) (by rw [e0]; exact atI_nat (j := 0) rfl) (ew_c (rw_eq rfl ⟨_, rfl, fun h4 => ?_, fun h4 => ?_⟩)))))))
          · rw [dec_strY] at h4
            have h4 := of_decide_eq_true h4
            have hh : z.cps.toList.head? = some 48 := by
              rw [e0]
              have := congrArg (fun x : Str => x.cps.toList) h4
              rw [sign0] at this
              simp at this
              rw [this]
              rfl
            exact sw_ret (ew_c (bad G3 gD (num_bad (.inr (.inr ⟨h3, hh⟩)))))
          · rw [dec_strY] at h4
            have h4 := of_decide_eq_false h4
            refine sw_next ⟨_, _, _, rfl, gD, good (num_good ⟨by omega, by omega⟩ (by omega) fun y => h4 ?_)⟩
            have := y.2
            rw [e0] at this
            have e48 : c0 = 48 := by simpa using this
            rw [e48]
            exact ext_tl sign0.symm
        · rw [dec_strY, Bool.not_eq_false'] at h3
          have h3 := of_decide_eq_true h3
          exact ⟨(fun y => by cases y), fun _ => sw_next ⟨_, _, _, rfl, gD, good (num_good ⟨by omega, by omega⟩ (by omega) fun y => y.1 h3)⟩⟩
      · rintro σ _ G ⟨y1, y2, y3, rfl, g, hg⟩
        rw [List.length_map, List.take_length] at hg
        exact ⟨_, _, _, rfl, g, hg⟩
    · rintro σ _ G ⟨y1, y2, y3, rfl, g, hg⟩
      refine sw_ret (ew_if (tw_test (ew_op (ew_cb (aw_cons (ew_var rfl (aw_nil (cw_lenS hd (.inl (g.sqL l)) (ew_c (rw_eq rfl ⟨_, rfl, fun h1 => ?_, fun h1 => ?_⟩))))))))))
      · rw [dec_intY, List.length_map] at h1
        have h3 : ys.length = 3 := by have := of_decide_eq_true h1; omega
        have ht : threeB ys = true := by
          unfold threeB
          rw [decide_eq_true h3, Bool.true_and, List.all_eq_true]
          exact hg
        have e : wordsNum ys = some (ys.map numOf) := if_pos ht
        refine ew_cb (aw_cons (ew_lcLd hd ((ys.map numOf).map PyData.int) (by rw [List.length_map, List.length_map, List.length_map]) (ew_var rfl ⟨rfl, rfl, rfl⟩) (g.sqL l) (by rw [List.length_map]; omega) (fun i x Dl acc G2 hx g2 hD => ?_) fun Dl G2 acc g2 e2 dps => ?_))
        · rw [List.getElem?_map] at hx
          obtain ⟨y, hy2, rfl⟩ := Option.map_eq_some_iff.mp hx
          obtain ⟨_, v2, v3⟩ := num_of (hg y (List.mem_of_getElem? hy2))
          exact gw_name ⟨rfl, tw_yes ⟨fun _ => ew_cb (aw_cons (ew_var rfl (aw_nil (cw_intS v2 (by omega) ⟨rfl, .refl _, _, PyData.int (numOf y), by rw [List.getElem?_map, List.getElem?_map, hy2]; rfl, rfl, .int _⟩)))), (fun z => by cases z)⟩⟩
        · refine aw_nil (cw_tuple hd (SqL.of e2) fun q hq => k (.ref q) _ (g.trans (Ex.new g2 hq)) ?_)
          rw [e]
          exact .tup (SqT.of upd_same) (dps_ex (Ex.new (.refl _) hq) dps)
      · rw [dec_intY, List.length_map] at h1
        have h3 : ¬ ys.length = 3 := fun c => by have := of_decide_eq_false h1; omega
        have e : wordsNum ys = none := by
          unfold wordsNum threeB
          rw [decide_eq_false h3, Bool.false_and]
          rfl
        refine ew_c (k .non _ g ?_)
        rw [e]
        exact .non

def vdD : Vd → PyData
  | .text k => .tuple [.str "text", .int (k : Int)]
  | .store => .tuple [.str "store", .int 0]
  | .step k j => .tuple [.str "step", .tuple [.int (k : Int), .int (j : Int)]]
  | .told w => .tuple [.str "told", wldD w]
def rowD (q : Str) : PyData := .list ((Txt.split q " ").map PyData.str)
def aDue (K : PySem.W.Frag) : List V → Hp → VK → Prop := fun vs F R => ∃ z : Str, vs = [.str z] ∧ z.length ≤ 10000 ∧ ∀ v F', Ex F F' → Dp K F' v (vdD (verdict z)) → R v F'
theorem sw_forR2 {S : Type} {J : S → Hp → Hp → Prop} {σ : L2.St} {s : S} {F : Hp} {D : En S} {t : TS} {g : TG} {ta : TA} (h : AW J ta σ s F fun vs s1 F1 => ∃ (a n : Int) (Pv : Nat → L2.St → S → Hp → Prop), vs = [.int a, .int n] ∧ (0 ≤ a ∧ a ≤ 1000000 ∧ 0 ≤ n ∧ n ≤ 1000000) ∧ Pv 0 σ s1 F1 ∧
      (∀ (i : Nat) σ s F, a + (i : Int) < n → Pv i σ s F → GW J g (.int (a + (i : Int))) σ s F fun σ s F => SW J t { D with nx := Pv (i + 1), ct := Pv (i + 1), bk := D.nx } σ s F) ∧ (∀ σ s F, Pv (n - a).toNat σ s F → D.nx σ s F)) :
    SW J (tFor (iRng2 ta) g t) D σ s F := fun H j D' l =>
  h H j _ fun vs s1 F1 H1 j1 ⟨a, n, Pv, e, ⟨b1, b2, b3, b4⟩, h0, hs, hdn⟩ => ⟨a, n, e, ⟨by omega, by omega, by omega, by omega⟩, for_range (lo := a) (n := (n - a).toNat) (fun i σ H => ∃ s F, J s F H ∧ Pv i σ s F) ⟨s1, F1, j1, h0⟩
    (fun i σ' H' hi ⟨s', F', j', p⟩ => hs i σ' s' F' (by omega) p H' j' _ fun σ2 s2 F2 H2 j2 k => k H2 j2 _ ⟨fun σ3 s3 F3 H3 j3 k3 => ⟨s3, F3, j3, k3⟩, l.rt, l.nx, fun σ3 s3 F3 H3 j3 k3 => ⟨s3, F3, j3, k3⟩⟩)
    (fun σ' H' ⟨s', F', j', p⟩ => l.nx _ _ _ _ j' (hdn σ' s' F' p))⟩
theorem rw_inD {S : Type} {J : S → Hp → Hp → Prop} {s : S} {F : Hp} {R : V → S → Hp → Prop} {K : PySem.W.Frag} (hd : Hid J) {x y : V} {d : PyData} {ds : List PyData} (h1 : Dp K F x d) (h2 : Dp K F y (.list ds)) (s1 : SeqAt.shaped d = true) (s2 : SeqAt.shaped (.list ds) = true) (h : R (.bl (ds.any fun z => PyData.eqv z d)) s F) : RW J (rInD K) x y s F R := fun H j Q q =>
  ⟨d, ds, dp_ex (hd.ex j) h1, dp_ex (hd.ex j) h2, s1, s2, q _ _ _ _ j h⟩
def stW (x : Str) : PyData := numsD (wordsNum (Txt.split x ","))
theorem stW_any : ∀ {ws : List Str}, ((ws.map stW).any fun z => PyData.eqv z PyData.none) = ws.any fun x => !threeB (Txt.split x ",")
  | [] => rfl
  | x :: r => by
    rw [List.map_cons, List.any_cons, List.any_cons, stW_any]
    congr 1
    unfold stW wordsNum
    by_cases h : threeB (Txt.split x ",") = true
    · rw [if_pos h, h]; rfl
    · rw [if_neg h]
      have : threeB (Txt.split x ",") = false := by simpa using h
      rw [this]
      rfl
theorem stW_shaped {ws : List Str} : SeqAt.shaped (.list (ws.map stW)) = true := by
  refine shaped_low (n := 2) ?_
  show (ws.map stW).all (lowD 1) = true
  rw [List.all_eq_true]
  intro d hd
  obtain ⟨x, _, rfl⟩ := List.mem_map.mp hd
  unfold stW
  cases wordsNum (Txt.split x ",") with
  | none => rfl
  | some l =>
    show (l.map PyData.int).all (lowD 0) = true
    rw [List.all_eq_true]
    intro d hd
    obtain ⟨i, _, rfl⟩ := List.mem_map.mp hd
    rfl
theorem stW_some : ∀ {ws : List Str} {ss : List Stp}, stepsW ws = some ss → ws.map stW = ss.map stpD
  | [], ss, h => by cases h; rfl
  | x :: r, ss, h => by
    have h' : (match stepW x, stepsW r with | some st, some l => some (st :: l) | _, _ => none) = some ss := h
    cases e1 : stepW x with
    | none => rw [e1] at h'; cases h'
    | some st =>
      cases e2 : stepsW r with
      | none => rw [e1, e2] at h'; cases h'
      | some l =>
        rw [e1, e2] at h'
        cases h'
        rw [List.map_cons, List.map_cons, stW_some e2]
        congr 1
        unfold stepW at e1
        unfold stW
        split at e1
        · rename_i a b c hw
          rw [hw]
          cases e1
          rfl
        · cases e1
theorem mach_len {z : Str} {ss : List Stp} (h : machRow z = some ss) : ss.length ≤ z.length := by
  obtain ⟨_, h2⟩ := split_len (x := z) sp_ok.1 sp_ok.2
  unfold machRow at h
  split at h
  · cases h
  · rename_i w ys e
    rw [e, List.length_cons] at h2
    split at h
    · by_cases c : ∀ x ∈ ys, threeB (Txt.split x ",") = true
      · obtain ⟨ss', g1, g2, _, _⟩ := steps_some c
        rw [g1] at h
        cases h
        omega
      · rw [steps_none c] at h
        cases h
    · cases h
theorem store_dec {c s f : Int} (hc : Two c) (hs : Two s) (hf : Two f) : storeB c s f = !(decide (c < 1) || (decide (c < s) || decide (9 < f))) := by
  unfold storeB
  have := hc.1; have := hc.2; have := hs.1; have := hs.2; have := hf.1; have := hf.2
  by_cases h1 : c < 1 <;> by_cases h2 : c < s <;> by_cases h3 : 9 < f <;> simp [h1, h2, h3] <;> omega

abbrev s__law_due : Stmt := top 38
def N__law_due : List Str := ["_law_text_here", "_law_lines", "_law_machines", "_law_store", "_law_k", "_law_steps", "_law_cap", "_law_start", "_law_refill", "_law_j", "_law_draw", "_law_long", "_law_back", "_law_row", "_law_word"]
theorem sc__law_due : FnScope N__law_due ["_law_text_here"] (defScope s__law_due) := ⟨rfl, rfl, rfl, by decide +kernel, rfl, by decide +kernel, by decide +kernel⟩
theorem ok__law_due {f : Addr} {fd : FuncData} {f1 : Addr} {fd1 : FuncData} (Fn : Fun K "_law_due" "_law_due" s__law_due f fd) (B : Blt mg) (C_law_numbers : Cal K mg "_law_numbers" f1 fd1 ["_law_words"]) (G_law_numbers : FnOk P w K mg base CX0 1 f1 fd1 ["_law_words"] (LS (aNums K))) : FnOk P w K mg base CX0 2 f fd ["_law_text_here"] (LS (aDue K)) := by
  refine Fn.ok sc__law_due (fun vs H Q E h => ?_) (fun cdv A outer s H vs Q E hr h => ?_)
  · obtain ⟨J, F, R, hd, j, h, _⟩ := h
    obtain ⟨z, rfl, _⟩ := h
    rfl
  · have nd := sc__law_due.nd
    obtain ⟨J, F, R, hd, j, h, q⟩ := h
    obtain ⟨z, rfl, hz, k⟩ := h
    refine ⟨_, (pss_cons (ps_par (i := 1) (j := 2) rfl nd rfl rfl (by decide) rfl rfl (pa_cons (pe_lc (own := [("_law_row", 13)]) (te := (tM1 (fun x xs H Q => ∃ a b, x = .str a ∧ xs = [.str b] ∧ (b.length == 0) = false ∧ a.length + 2 ≤ sizeLine ∧ rNewStrs (Txt.split a b) H Q) (tVar 13) (tC (.str " ")))) (tt := tYes) (by rfl) nd (pi_list (pe_split (pv 0) pe_str)) (blkOk_by (own := [("_law_row", 13)]) (N := N__law_due) (sc := defScope s__law_due) (by decide +kernel)) (fun _ _ _ _ _ => (pg_name (i := 13) nd rfl (Or.inl rfl))) (fun _ _ _ _ _ => pts_nil) (fun _ _ _ _ _ => (pe_split (pv 13) pe_str))) (pa_cons (pe_lst pa_nil) pa_nil)) (by rfl))
      (pss_cons (ps_set (i := 3) nd rfl (Or.inl rfl) (pe_call G_law_numbers (by exact hr.mono (by decide)) (by rfl) C_law_numbers.g C_law_numbers.k C_law_numbers.a .nil pass0 (pa_cons (pe_slice sl_list (pe_ix ix_list (pv 1) pe_int (fun _ _ => rfl)) (po_some pe_int) po_none) pa_nil)))
      (pss_cons (ps_if (PW.pt (pw_or (pt_cmpR op_ne (pe_ix ix_list (pe_ix ix_list (pv 1) pe_int (fun _ _ => rfl)) pe_int (fun _ _ => rfl)) pe_str (nomark _)) (pw_or1 (pt_cmpR op_isN (pv 3) pe_non (nomark _))))) (pss_one (ps_ret (pe_tup (pa_cons pe_str (pa_cons pe_int pa_nil))))) pss_nil)
      (pss_cons (ps_for PassesOwn.never rfl (pi_range2 rfl B.range (pa_cons pe_int (pa_cons (pe_callB call_len_seq (by rfl) B.len (by decide +kernel) (pa_cons (pv 1) pa_nil)) pa_nil))) (pg_name (i := 4) nd rfl (Or.inl rfl)) (pss_cons (ps_setLc (i := 5) rfl nd rfl rfl (sw_true rfl rfl rfl (by decide +kernel)) (own := [("_law_word", 14)]) (te := (tCall (LS (aNums K)) [] E0 (tCons (tM1 (fun x xs H Q => ∃ a b, x = .str a ∧ xs = [.str b] ∧ (b.length == 0) = false ∧ a.length + 2 ≤ sizeLine ∧ rNewStrs (Txt.split a b) H Q) (tVar 14) (tC (.str ","))) tNil))) (tt := tYes) (pi_list (pe_slice sl_list (pe_ix ix_list (pv 1) (pv 4) (fun _ _ => rfl)) (po_some pe_int) po_none)) (blkOk_by (own := [("_law_word", 14)]) (N := N__law_due) (sc := defScope s__law_due) (by decide +kernel)) (fun _ _ _ _ _ => (pg_name (i := 14) nd rfl (Or.inl rfl))) (fun _ _ _ _ _ => pts_nil) (fun _ _ _ _ _ => (pe_call G_law_numbers (by exact hr.mono (by decide)) (by rfl) C_law_numbers.g C_law_numbers.k C_law_numbers.a .nil pass0 (pa_cons (pe_split (pv 14) pe_str) pa_nil))))
      (pss_cons (ps_if (PW.pt (pw_or (pt_cmpR op_ne (pe_ix ix_list (pe_ix ix_list (pv 1) (pv 4) (fun _ _ => rfl)) pe_int (fun _ _ => rfl)) pe_str (nomark _)) (pw_or1 (pt_cmpR (op_inD (by exact hr.u65)) pe_non (pv 5) (by rfl))))) (pss_one (ps_ret (pe_tup (pa_cons pe_str (pa_cons (pv 4) pa_nil))))) pss_nil)
      (pss_one (ps_expr (pe_bm PySem.F.plainAttrs_list PySem.F.slot_list_append PySem.F.type_list_append mt_append (pv 2) (pa_cons (pe_callTy call_tuple_of (by rfl) B.tuple (by decide +kernel) (pa_cons (pv 5) pa_nil)) pa_nil)))))))
      (pss_cons (ps_asg (pv 3) (pg_tup rfl (pgs_cons (pg_name (i := 6) nd rfl (Or.inl rfl)) (pgs_cons (pg_name (i := 7) nd rfl (Or.inl rfl)) (pgs_cons (pg_name (i := 8) nd rfl (Or.inl rfl)) pgs_nil)))))
      (pss_cons (ps_if (PW.pt (pw_or (pt_cmpR op_lt (pv 6) pe_int (nomark _)) (pw_or (pt_cmpR op_gt (pv 7) (pv 6) (nomark _)) (pw_or1 (pt_cmpR op_gt (pv 8) pe_int (nomark _)))))) (pss_one (ps_ret (pe_tup (pa_cons pe_str (pa_cons pe_int pa_nil))))) pss_nil)
      (pss_cons (ps_for PassesOwn.never rfl (pi_range1 rfl B.range (pa_cons (pe_callB call_len_seq (by rfl) B.len (by decide +kernel) (pa_cons (pv 2) pa_nil)) pa_nil)) (pg_name (i := 4) nd rfl (Or.inl rfl)) (pss_cons (ps_if (pt_cmpR op_eq (pv 4) pe_int (nomark _)) (pss_one (ps_ret (pe_tup (pa_cons pe_str (pa_cons (pe_tup (pa_cons pe_int (pa_cons pe_int pa_nil))) pa_nil))))) pss_nil)
      (pss_one (ps_for PassesOwn.never rfl (pi_range1 rfl B.range (pa_cons (pe_callB call_len_seq (by rfl) B.len (by decide +kernel) (pa_cons (pe_ix ix_list (pv 2) (pv 4) (fun _ _ => rfl)) pa_nil)) pa_nil)) (pg_name (i := 9) nd rfl (Or.inl rfl)) (pss_cons (ps_asg (pe_ix ix_tup (pe_ix ix_list (pv 2) (pv 4) (fun _ _ => rfl)) (pv 9) (fun _ _ => rfl)) (pg_tup rfl (pgs_cons (pg_name (i := 10) nd rfl (Or.inl rfl)) (pgs_cons (pg_name (i := 11) nd rfl (Or.inl rfl)) (pgs_cons (pg_name (i := 12) nd rfl (Or.inl rfl)) pgs_nil)))))
      (pss_one (ps_if (PW.pt (pw_or (pt_cmpR op_eq (pv 9) pe_int (nomark _)) (pw_or (pt_cmpR op_gt (pv 10) (pv 6) (nomark _)) (pw_or (pt_not (pt_chain op_le op_le pe_int (pv 11) pe_int)) (pw_or1 (pt_cmpR op_gt (pv 12) (pv 10) (nomark _))))))) (pss_one (ps_ret (pe_tup (pa_cons pe_str (pa_cons (pe_tup (pa_cons (pv 4) (pa_cons (pv 9) pa_nil))) pa_nil))))) pss_nil)))))))
      (pss_one (ps_ret (pe_tup (pa_cons pe_str (pa_cons (pe_tup (pa_cons (pv 3) (pa_cons (pe_callTy call_tuple_of (by rfl) B.tuple (by decide +kernel) (pa_cons (pv 2) pa_nil)) pa_nil))) pa_nil)))))))))))), ?_⟩
    refine LS.body j q ?_
    obtain ⟨hlp, hlw⟩ := split_len (x := z) nl_ok.1 nl_ok.2
    obtain ⟨r, rs, es⟩ := split_ne (x := z) nl_ok.1 nl_ok.2
    rw [es] at hlp hlw
    rw [List.length_cons] at hlw
    have hv0 : storeRow r = none → verdict z = .text 0 := fun h => by
      unfold verdict
      rw [es]
      show (match storeRow r with | some [c, s, f] => _ | _ => Vd.text 0) = _
      rw [h]
    have hv1 : ∀ c s f, storeRow r = some [c, s, f] → verdict z = (match machRows 1 rs with | .inl k => Vd.text k | .inr ms => worldV ⟨c, s, f, ms⟩) := fun c s f h => by
      unfold verdict
      rw [es]
      show (match storeRow r with | some [c, s, f] => (match machRows 1 rs with | .inl k => Vd.text k | .inr ms => worldV ⟨c, s, f, ms⟩) | _ => Vd.text 0) = _
      rw [h]
    refine sw_seq (sw_par (aw_cons (ew_lcLe hd (ew_split hd (ew_var rfl ⟨z, rfl, ew_c ⟨_, rfl, by decide +kernel, by rw [sizeLine_eq]; omega, fun q hq => ?_⟩⟩)))))
    rw [es]
    refine ⟨q, (r :: rs).map V.str, (r :: rs).map rowD, rfl, by rw [List.length_map, List.length_map], SqL.of upd_same, by rw [List.length_map, List.length_cons]; omega, fun i x Dl acc G hx g3 hD => ?_, fun L G1 acc g1 eL dps => aw_cons (ew_lst hd (aw_nil ⟨by walk_at "ob_len", fun p hp => aw_nil ⟨_, _, rfl, ?_⟩⟩))⟩
    · rw [List.getElem?_map] at hx
      obtain ⟨y, hy, rfl⟩ := Option.map_eq_some_iff.mp hx
      have := hlp y (List.mem_of_getElem? hy)
      exact gw_name ⟨rfl, tw_yes ⟨fun _ => ew_split hd.jd (ew_var rfl ⟨y, rfl, ew_c ⟨_, rfl, by decide +kernel, by rw [sizeLine_eq]; omega, fun r2 hr2 => ⟨rfl, Ex.new (.refl _) hr2, _, rowD y, by rw [List.getElem?_map, hy]; rfl, rfl, .lst (SqL.of upd_same) dps_strs⟩⟩⟩), (fun z => by cases z)⟩⟩
    have gF : Ex F G1 := (Ex.new (.refl F) hq).trans g1
    clear g1 hq
    have hO := (own_nil (F := G1)).more (o := .lst []) hp
    generalize upd G1 p (.lst []) = G2 at hO
    clear hp
    have hal := dps_len dps
    rw [List.length_map, List.length_cons] at hal
    obtain ⟨a0, accr, rfl⟩ : ∃ a0 accr, acc = a0 :: accr := by
      cases acc with
      | nil => simp at hal
      | cons a l => exact ⟨a, l, rfl⟩
    rw [List.length_cons] at hal
    have d0 : Dp K G1 a0 (rowD r) := by cases dps with | cons h1 h2 => exact h1
    have dr : DpAll K G1 accr (rs.map rowD) := by cases dps with | cons h1 h2 => exact h2
    clear dps
    obtain ⟨r0, xs0, rfl, l0, dx0⟩ := dp_lst d0
    rw [dps_strs_iff dx0] at l0
    obtain ⟨hrp, hrw⟩ := split_len (x := r) sp_ok.1 sp_ok.2
    obtain ⟨w0, ys, er⟩ := split_ne (x := r) sp_ok.1 sp_ok.2
    rw [er] at l0 hrp hrw
    rw [List.length_cons] at hrw
    rw [List.map_cons] at l0
    have hr := hlp r (.head _)
    -- the store
    refine sw_seq (sw_asg (ew_aside hd hO (ew_call hd.jp (aw_cons (ew_slL hd.jp (ew_op (ew_var rfl (ew_c (rw_ixL hd.jp (SqL.of (drop_ex hO _ _ eL)) at_zero (ow_some (ew_c ⟨1, rfl, ow_none ⟨r0, _, rfl, (drop_ex hO).sqL l0, fun q2 hq2 => aw_nil ?_⟩⟩)))))))))))
    rw [cutV_one]
    refine ⟨q2, ys, rfl, SqL.of upd_same, by omega, fun y hy => by have := hrp y (.tail _ hy); omega, fun sv B1 gB1 dsv F2 hO2 => gw_name ?_⟩
    have gB : Ex G1 B1 := (drop_ex hO).trans ((Ex.new (.refl _) hq2).trans gB1)
    clear hq2 gB1 hO
    -- its look
    have tell : ∀ {G : Hp} {q3 : Addr} {n : Nat}, Ex F G → G q3 = none → verdict z = .text n → R (.ref q3) (upd G q3 (.tup [.str "text", .int (n : Int)])) := fun {G q3 n} g hq3 hv => k _ _ (Ex.new g hq3) (by rw [hv]; exact .tup (SqT.of upd_same) (.cons (.str _) (.cons (.int _) .nil)))
    have row0 : storeRow r = if w0 = ("store" : Str) then wordsNum ys else none := by unfold storeRow; rw [er]
    refine sw_seq (sw_if (tw_or (tw_test (ew_op (ew_op (ew_op (ew_var rfl (ew_c (rw_ixL hd (SqL.of ((gB.trans hO2.ex) _ _ eL)) at_zero (ew_c (rw_ixL hd ((gB.trans hO2.ex).sqL l0) at_zero (ew_c (rw_ne rfl ⟨_, rfl, fun h1 => ?_, fun h1 => ?_⟩)))))))))))))
    · rw [dec_strY, Bool.not_eq_true'] at h1
      exact ⟨fun _ => sw_ret (ew_tup hd (aw_cons (ew_c (aw_cons (ew_c (aw_nil ⟨by walk_at "ob_len", fun q3 hq3 => tell (n := 0) (gF.trans (gB.trans hO2.ex)) hq3 (hv0 (row0.trans (if_neg (of_decide_eq_false h1))))⟩)))))), (fun y => by cases y)⟩
    rw [dec_strY, Bool.not_eq_false'] at h1
    rw [if_pos (of_decide_eq_true h1)] at row0
    refine tw_test (ew_op (ew_var rfl (ew_c (rw_isN ⟨_, rfl, fun h2 => ?_, fun h2 => sw_next ?_⟩))))
    · have h2 := of_decide_eq_true h2
      have hno : wordsNum ys = none := by
        cases e : wordsNum ys with
        | none => rfl
        | some l =>
          rw [e] at dsv
          obtain ⟨_, _, ex, _⟩ := dp_tup dsv
          rw [h2] at ex
          cases ex
      exact sw_ret (ew_tup hd (aw_cons (ew_c (aw_cons (ew_c (aw_nil ⟨by walk_at "ob_len", fun q3 hq3 => tell (n := 0) (gF.trans (gB.trans hO2.ex)) hq3 (hv0 (row0.trans hno))⟩))))))
    have h2 := of_decide_eq_false h2
    obtain ⟨l3, hl3⟩ : ∃ l, wordsNum ys = some l := by
      cases e : wordsNum ys with
      | none => rw [e] at dsv; exact absurd (dp_non dsv) h2
      | some l => exact ⟨l, rfl⟩
    rw [hl3] at dsv
    obtain ⟨c, s0, f0, rfl, t1, t2, t3⟩ := store_row (row0.trans hl3)
    have hv := hv1 c s0 f0 (row0.trans hl3)
    obtain ⟨sa, vs3, rfl, lsv, dv3⟩ := dp_tup dsv
    have dv3 : DpAll K B1 vs3 [.int c, .int s0, .int f0] := dv3
    obtain ⟨v1, v2, v3, rfl, d1, d2, d3⟩ := dps3 dv3
    cases dp_int d1
    cases dp_int d2
    cases dp_int d3
    refine sw_seq (sw_mid (fun σ _ G => ∃ (y4 y5 y6 y7 y8 y9 y10 y11 y12 y13 y14 : Option V) (B : Hp) (acc2 : List V) (ms : List (List Stp)), σ = [some (.str z), some (.ref L), some (.ref p), some (.ref sa), y4, y5, y6, y7, y8, y9, y10, y11, y12, y13, y14] ∧ Own B G [(p, .lst acc2)] ∧ Ex B1 B ∧ DpAll K B acc2 (ms.map macD) ∧ ms.length = rs.length ∧ ∀ (j : Nat) (q : Str), j < rs.length → rs[j]? = some q → ∃ ss, ms[j]? = some ss ∧ machRow q = some ss) ?_ ?_)
    · refine sw_forR2 (aw_cons (ew_c (aw_cons (ew_cb (aw_cons (ew_var rfl (aw_nil (cw_lenS hd (.inl (SqL.of ((gB.trans hO2.ex) _ _ eL))) (aw_nil ⟨1, _, fun i σ _ G => ∃ (y4 y5 y6 y7 y8 y9 y10 y11 y12 y13 y14 : Option V) (B : Hp) (acc2 : List V) (ms : List (List Stp)), σ = [some (.str z), some (.ref L), some (.ref p), some (.ref sa), y4, y5, y6, y7, y8, y9, y10, y11, y12, y13, y14] ∧ Own B G [(p, .lst acc2)] ∧ Ex B1 B ∧ DpAll K B acc2 (ms.map macD) ∧ ms.length = i ∧ ∀ (j : Nat) (q : Str), j < i → rs[j]? = some q → ∃ ss, ms[j]? = some ss ∧ machRow q = some ss, rfl, ⟨by decide, by decide, by omega, by rw [List.length_cons]; omega⟩, ⟨_, _, _, _, _, _, _, _, _, _, _, B1, [], [], rfl, hO2, .refl _, .nil, rfl, fun j q hj => absurd hj (by omega)⟩, ?_, ?_⟩)))))))))
      · rintro i σ _ G hi ⟨y4, y5, y6, y7, y8, y9, y10, y11, y12, y13, y14, B, acc2, ms, rfl, hOi, gBi, dms, hml, hmr⟩
        rw [List.length_cons] at hi
        have hir : i < rs.length := by omega
        have hq := List.getElem?_eq_getElem hir
        generalize rs[i] = q at hq
        have hlq := hlp q (.tail _ (List.mem_of_getElem? hq))
        obtain ⟨ai, hai, dai⟩ := dps_get dr (show (rs.map rowD)[i]? = some (rowD q) by rw [List.getElem?_map, hq]; rfl)
        obtain ⟨rk, xsk, rfl, lk, dxk⟩ := dp_lst dai
        rw [dps_strs_iff dxk] at lk
        obtain ⟨hqp, hqw⟩ := split_len (x := q) sp_ok.1 sp_ok.2
        obtain ⟨w1, ws, eq⟩ := split_ne (x := q) sp_ok.1 sp_ok.2
        rw [eq] at lk hqp hqw
        rw [List.length_cons] at hqw
        rw [List.map_cons] at lk
        have hk : (1 : Int) + (i : Int) = ((i + 1 : Nat) : Int) := by omega
        have hat : atI (V.ref r0 :: accr) ((i + 1 : Nat) : Int) = some (.ref rk) := atI_nat (j := i + 1) hai
        rw [hk]
        have gO := drop_ex hOi
        refine gw_name (sw_seq (sw_asg (ew_aside hd hOi (ew_lcLe hd.jp (ew_slL hd.jp (ew_op (ew_var rfl (ew_var rfl (rw_ixL hd.jp (SqL.of ((gB.trans (gBi.trans gO)) _ _ eL)) hat (ow_some (ew_c ⟨1, rfl, ow_none ⟨rk, _, rfl, (gB.trans (gBi.trans gO)).sqL lk, fun q2 hq2 => ?_⟩⟩)))))))))))
        rw [cutV_one]
        refine ⟨q2, ws.map V.str, ws.map stW, rfl, by rw [List.length_map, List.length_map], SqL.of upd_same, by rw [List.length_map]; omega, fun i2 x Dl acc G3 hx g3 hD => ?_, fun Ds B3 acc3 g3 e3 dps3 F3 hO3 => gw_name ?_⟩
        · rw [List.getElem?_map] at hx
          obtain ⟨y, hy, rfl⟩ := Option.map_eq_some_iff.mp hx
          have hly := hqp y (.tail _ (List.mem_of_getElem? hy))
          obtain ⟨c1, c2⟩ := split_len (x := y) co_ok.1 co_ok.2
          exact gw_name ⟨rfl, tw_yes ⟨fun _ => ew_call hd.jp.jd (aw_cons (ew_split hd.jp.jd (ew_var rfl ⟨y, rfl, ew_c ⟨_, rfl, by decide +kernel, by rw [sizeLine_eq]; omega, fun r2 hr2 => aw_nil ⟨r2, Txt.split y ",", rfl, SqL.of upd_same, by omega, fun y2 hy2 => by have := c1 y2 hy2; omega, fun v F4 g4 dv => ⟨rfl, (Ex.new (.refl _) hr2).trans g4, v, stW y, by rw [List.getElem?_map, hy]; rfl, rfl, dv⟩⟩⟩⟩))), (fun z => by cases z)⟩⟩
        have gB3 : Ex B B3 := gO.trans ((Ex.new (.refl _) hq2).trans g3)
        clear hq2 g3 gO hOi
        have gF3 : Ex G1 F3 := gB.trans (gBi.trans (gB3.trans hO3.ex))
        have row1 : machRow q = if w1 = ("machine" : Str) then stepsW ws else none := by unfold machRow; rw [eq]
        have bad : machRow q = none → verdict z = .text (i + 1) := fun hno => by
          rw [hv, rows_bad (k := 1) hq (fun j q' hj e => by obtain ⟨ss, _, h⟩ := hmr j q' hj e; rw [h]; exact nofun) hno]
          show Vd.text (1 + i) = _
          rw [Nat.add_comm]
        refine sw_seq (sw_if (tw_or (tw_test (ew_op (ew_op (ew_op (ew_var rfl (ew_var rfl (rw_ixL hd (SqL.of (gF3 _ _ eL)) hat (ew_c (rw_ixL hd (gF3.sqL lk) at_zero (ew_c (rw_ne rfl ⟨_, rfl, fun h1 => ?_, fun h1 => ?_⟩)))))))))))))
        · rw [dec_strY, Bool.not_eq_true'] at h1
          exact ⟨fun _ => sw_ret (ew_tup hd (aw_cons (ew_c (aw_cons (ew_var rfl (aw_nil ⟨by walk_at "ob_len", fun q3 hq3 => tell (n := i + 1) (gF.trans gF3) hq3 (bad (row1.trans (if_neg (of_decide_eq_false h1))))⟩)))))), (fun y => by cases y)⟩
        rw [dec_strY, Bool.not_eq_false'] at h1
        rw [if_pos (of_decide_eq_true h1)] at row1
        refine tw_test (ew_op (ew_c (ew_var rfl (rw_inD hd .non (.lst (SqL.of (hO3.ex _ _ e3)) (dps_ex hO3.ex dps3)) (shaped_low (n := 1) rfl) stW_shaped ⟨_, rfl, fun h2 => ?_, fun h2 => sw_next ?_⟩))))
        · rw [stW_any, List.any_eq_true] at h2
          obtain ⟨x, hx, hxb⟩ := h2
          exact sw_ret (ew_tup hd (aw_cons (ew_c (aw_cons (ew_var rfl (aw_nil ⟨by walk_at "ob_len", fun q3 hq3 => tell (n := i + 1) (gF.trans gF3) hq3 (bad (row1.trans (steps_none fun hall => by rw [hall x hx] at hxb; cases hxb)))⟩))))))
        rw [stW_any, List.any_eq_false] at h2
        obtain ⟨ss, s1, s2, s3, _⟩ := steps_some (ys := ws) fun x hx => by simpa using h2 x hx
        have hlm := dps_len dms
        rw [List.length_map] at hlm
        refine sw_drop (ew_bmL hd (ew_var rfl ⟨p, _, rfl, SqL.of (hO3.get (i := 0) rfl), aw_cons (ew_aside hd hO3 (ew_cb (aw_cons (ew_var rfl (aw_nil (cw_tuple hd.jp (SqL.of (drop_ex hO3 _ _ e3)) fun t ht F5 hO5 => aw_nil (mw_append hd (hO5.get (i := 0) rfl) (by omega) ?_)))))))⟩))
        have gT := drop_ex hO3
        have gU := Ex.new gT ht (u := .tup acc3)
        refine ⟨_, _, _, _, _, _, _, _, _, _, _, _, acc2 ++ [.ref t], ms ++ [ss], rfl, hO5.set (i := 0) (a := p) rfl, gBi.trans (gB3.trans gU), ?_, by rw [List.length_append, hml]; rfl, fun j q' hj hq' => ?_⟩
        · rw [List.map_append]
          refine dps_snoc (dps_ex (gB3.trans gU) dms) (.tup (SqT.of upd_same) ?_)
          rw [← stW_some s1]
          exact dps_ex gU dps3
        · by_cases cj : j = i
          · rw [cj, hq] at hq'
            cases hq'
            refine ⟨ss, ?_, row1.trans s1⟩
            rw [cj, List.getElem?_append_right (by omega), hml, Nat.sub_self]
            rfl
          · obtain ⟨ss', e1, e2⟩ := hmr j q' (by omega) hq'
            refine ⟨ss', ?_, e2⟩
            rw [List.getElem?_append_left (by omega)]
            exact e1
      · rintro σ _ G hh
        rw [show ((((V.ref r0 :: accr).length : Nat) : Int) - 1).toNat = rs.length by rw [List.length_cons]; omega] at hh
        exact hh
    rintro σ _ G ⟨y4, y5, y6, y7, y8, y9, y10, y11, y12, y13, y14, B, acc2, ms, rfl, hOe, gBe, dms, hml, hmr⟩
    have gG : Ex B1 G := gBe.trans hOe.ex
    have eP := hOe.get (i := 0) rfl
    have dG := dps_ex hOe.ex dms
    have hvw : verdict z = worldV ⟨c, s0, f0, ms⟩ := by
      obtain ⟨ms', em, hml', hm'⟩ := rows_good (rs := rs) (k := 1) fun j q' e => by
        obtain ⟨ss, _, h⟩ := hmr j q' (List.getElem?_eq_some_iff.mp e).1 e
        rw [h]
        exact nofun
      have : ms' = ms := by
        refine List.ext_getElem? fun j => ?_
        cases e : rs[j]? with
        | none =>
          have h1 : ms[j]? = none := by rw [List.getElem?_eq_none_iff] at e ⊢; omega
          have h2 : ms'[j]? = none := by rw [List.getElem?_eq_none_iff] at e ⊢; omega
          rw [h1, h2]
        | some q =>
          obtain ⟨ss, h1, h2⟩ := hmr j q (List.getElem?_eq_some_iff.mp e).1 e
          obtain ⟨ss', h3, h4⟩ := hm' j q e
          rw [h2] at h4
          cases h4
          rw [h1, h3]
      rw [hv, em, this]
    have gFG : Ex F G := gF.trans (gB.trans gG)
    have htwo : ∀ ss ∈ ms, (∀ st ∈ ss, StpTwo st) ∧ ss.length ≤ 10000 := fun ss hss => by
      obtain ⟨j, hj, rfl⟩ := List.mem_iff_getElem.mp hss
      obtain ⟨ss', h1, h2⟩ := hmr j rs[j] (by omega) (List.getElem?_eq_getElem (by omega))
      rw [List.getElem?_eq_getElem hj] at h1
      cases h1
      have q1 := mach_len h2
      have q2 := hlp rs[j] (.tail _ (List.getElem_mem _))
      exact ⟨mach_two h2, by omega⟩
    clear hmr hv hO2 dms hOe gBe
    unfold worldV at hvw
    refine sw_seq (sw_asg (ew_var rfl (gw_tup hd ⟨sa, _, rfl, gG.sqT lsv, rfl, gsw_cons (gw_name (gsw_cons (gw_name (gsw_cons (gw_name (gsw_nil ?_))))))⟩)))
    have hsd := store_dec t1 t2 t3
    have noSt : storeB c s0 f0 = false → verdict z = .store := fun h => by
      rw [hvw, if_neg]
      show ¬ storeB c s0 f0 = true
      rw [h]
      decide
    have tellS : ∀ {q3 : Addr}, G q3 = none → storeB c s0 f0 = false → R (.ref q3) (upd G q3 (.tup [.str "store", .int 0])) := fun {q3} hq3 h => k _ _ (Ex.new gFG hq3) (by rw [noSt h]; exact .tup (SqT.of upd_same) (.cons (.str _) (.cons (.int _) .nil)))
    refine sw_seq (sw_if (tw_or (tw_test (ew_op (ew_var rfl (ew_c (rw_I0 ⟨_, rfl, fun h1 => ?_, fun h1 => ?_⟩)))))))
    · exact ⟨fun _ => sw_ret (ew_tup hd (aw_cons (ew_c (aw_cons (ew_c (aw_nil ⟨by walk_at "ob_len", fun q3 hq3 => tellS hq3 (by rw [hsd, show decide (c < 1) = true from h1]; rfl)⟩)))))), (fun y => by cases y)⟩
    refine tw_or (tw_test (ew_op (ew_var rfl (ew_var rfl (rw_I0 ⟨_, rfl, fun h2 => ?_, fun h2 => ?_⟩)))))
    · exact ⟨fun _ => sw_ret (ew_tup hd (aw_cons (ew_c (aw_cons (ew_c (aw_nil ⟨by walk_at "ob_len", fun q3 hq3 => tellS hq3 (by rw [hsd, show decide (c < s0) = true from h2, Bool.true_or, Bool.or_true]; rfl)⟩)))))), (fun y => by cases y)⟩
    refine tw_test (ew_op (ew_var rfl (ew_c (rw_I0 ⟨_, rfl, fun h3 => ?_, fun h3 => sw_next ?_⟩))))
    · exact sw_ret (ew_tup hd (aw_cons (ew_c (aw_cons (ew_c (aw_nil ⟨by walk_at "ob_len", fun q3 hq3 => tellS hq3 (by rw [hsd, show decide (9 < f0) = true from h3, Bool.or_true, Bool.or_true]; rfl)⟩))))))
    have hst : storeB c s0 f0 = true := by
      rw [hsd, show decide (c < 1) = false from h1, show decide (c < s0) = false from h2, show decide (9 < f0) = false from h3]
      rfl
    rw [if_pos hst] at hvw
    have hla := dps_len dG
    rw [List.length_map] at hla
    have tellP : ∀ {q4 q3 : Addr} {kk j : Nat}, G q4 = none → (upd G q4 (.tup [.int (kk : Int), .int (j : Int)])) q3 = none → badMs c 0 ms = some (kk, j) → R (.ref q3) (upd (upd G q4 (.tup [.int (kk : Int), .int (j : Int)])) q3 (.tup [.str "step", .ref q4])) := fun {q4 q3 kk j} h4 h3 hb => by
      have hvp : verdict z = .step kk j := by rw [hvw, hb]
      refine k _ _ (Ex.new (Ex.new gFG h4) h3) ?_
      rw [hvp]
      exact .tup (SqT.of upd_same) (.cons (.str _) (.cons (.tup (SqT.of ((Ex.new (.refl _) h3) _ _ upd_same)) (.cons (.int _) (.cons (.int _) .nil))) .nil))
    refine sw_seq (sw_mid (fun σ _ G' => G = G' ∧ ∃ (y4 y5 y9 y10 y11 y12 y13 y14 : Option V), σ = [some (.str z), some (.ref L), some (.ref p), some (.ref sa), y4, y5, some (.int c), some (.int s0), some (.int f0), y9, y10, y11, y12, y13, y14] ∧ badMs c 0 ms = none) ?_ ?_)
    · refine sw_forR1 (aw_cons (ew_cb (aw_cons (ew_var rfl (aw_nil (cw_lenS hd (.inl (SqL.of eP)) (aw_nil ⟨_, fun i σ _ G' => G = G' ∧ ∃ (y4 y5 y9 y10 y11 y12 y13 y14 : Option V), σ = [some (.str z), some (.ref L), some (.ref p), some (.ref sa), y4, y5, some (.int c), some (.int s0), some (.int f0), y9, y10, y11, y12, y13, y14] ∧ i ≤ 5 ∧ ∀ ss ∈ ms.take i, badAt c 0 ss = none, rfl, by omega, by omega, ⟨rfl, _, _, _, _, _, _, _, _, rfl, by decide, (fun ss h => by cases h)⟩, ?_, ?_⟩)))))))
      · rintro i σ _ _ hi ⟨rfl, y4, y5, y9, y10, y11, y12, y13, y14, rfl, h5, hg⟩
        have him : i < ms.length := by omega
        refine gw_name (sw_seq (sw_if (tw_test (ew_op (ew_var rfl (ew_c (rw_eq rfl ⟨_, rfl, fun h1 => ?_, fun h1 => ?_⟩)))))))
        · rw [dec_intY] at h1
          have e5 : i = 5 := by have := of_decide_eq_true h1; omega
          subst e5
          exact sw_ret (ew_tup hd (aw_cons (ew_c (aw_cons (ew_tup hd (aw_cons (ew_c (aw_cons (ew_c (aw_nil ⟨by walk_at "ob_len", fun q4 hq4 => aw_nil ⟨by walk_at "ob_len", fun q3 hq3 => tellP (kk := 5) (j := 0) hq4 hq3 (ms_five him hg)⟩⟩))))))))))
        rw [dec_intY] at h1
        have h5' : i < 5 := by have := of_decide_eq_false h1; omega
        have hss := List.getElem?_eq_getElem him
        generalize ms[i] = ss at hss
        have hmem := List.mem_of_getElem? hss
        obtain ⟨vk, hvk, dvk⟩ := dps_get dG (show (ms.map macD)[i]? = some (macD ss) by rw [List.getElem?_map, hss]; rfl)
        obtain ⟨mk, xk, rfl, lk, dxk⟩ := dp_tup dvk
        have hlk := dps_len dxk
        rw [List.length_map] at hlk
        have hatk : atI acc2 (i : Int) = some (.ref mk) := atI_nat hvk
        have hb6 : ss.length ≤ 10000000 ∨ True := .inr trivial
        refine sw_next (sw_forR1 (aw_cons (ew_cb (aw_cons (ew_op (ew_var rfl (ew_var rfl (rw_ixL hd (SqL.of eP) hatk (aw_nil (cw_lenS hd (.inr lk) (aw_nil ⟨_, fun j σ _ G' => G = G' ∧ ∃ (y5 y9 y10 y11 y12 y13 y14 : Option V), σ = [some (.str z), some (.ref L), some (.ref p), some (.ref sa), some (.int (i : Int)), y5, some (.int c), some (.int s0), some (.int f0), y9, y10, y11, y12, y13, y14] ∧ j ≤ 6 ∧ ∀ st ∈ ss.take j, stepB c st = true, rfl, by omega, ?_, ⟨rfl, _, _, _, _, _, _, _, rfl, by decide, (fun ss h => by cases h)⟩, ?_, ?_⟩)))))))))))
        · have := (htwo ss hmem).2
          omega
        · rintro j σ _ _ hj ⟨rfl, y5, y9, y10, y11, y12, y13, y14, rfl, h6, hgs⟩
          have hjs : j < ss.length := by omega
          have hst := List.getElem?_eq_getElem hjs
          generalize ss[j] = st at hst
          obtain ⟨vj, hvj, dvj⟩ := dps_get dxk (show (ss.map stpD)[j]? = some (stpD st) by rw [List.getElem?_map, hst]; rfl)
          obtain ⟨mj, xj, rfl, lj, dxj⟩ := dp_tup dvj
          obtain ⟨v1, v2, v3, rfl, d1, d2, d3⟩ := dps3 dxj
          cases dp_int d1
          cases dp_int d2
          cases dp_int d3
          have hatj : atI xk (j : Int) = some (.ref mj) := atI_nat hvj
          obtain ⟨u1, u2, u3⟩ := (htwo ss hmem).1 st (List.mem_of_getElem? hst)
          have bad : badAt c 0 ss = some j → badMs c 0 ms = some (i, j) := fun h => ms_at h5' hss hg h
          have sb : stepB c st = ((decide (st.draw ≤ c) && (decide (1 ≤ st.long) && decide (st.long ≤ 9))) && decide (st.back ≤ st.draw)) := by
            unfold stepB
            rw [decide_eq_true u1.1, decide_eq_true u3.1, Bool.true_and, Bool.true_and]
            simp only [Bool.and_assoc]
          refine gw_name (sw_seq (sw_asg (ew_op (ew_op (ew_var rfl (ew_var rfl (rw_ixL hd (SqL.of eP) hatk (ew_var rfl (rw_ixT hd lk hatj (gw_tup hd ⟨mj, _, rfl, lj, rfl, gsw_cons (gw_name (gsw_cons (gw_name (gsw_cons (gw_name (gsw_nil ?_))))))⟩))))))))))
          refine sw_if (tw_or (tw_test (ew_op (ew_var rfl (ew_c (rw_eq rfl ⟨_, rfl, fun h1 => ?_, fun h1 => ?_⟩))))))
          · rw [dec_intY] at h1
            have e6 : j = 6 := by have := of_decide_eq_true h1; omega
            exact ⟨fun _ => sw_ret (ew_tup hd (aw_cons (ew_c (aw_cons (ew_tup hd (aw_cons (ew_var rfl (aw_cons (ew_var rfl (aw_nil ⟨by walk_at "ob_len", fun q4 hq4 => aw_nil ⟨by walk_at "ob_len", fun q3 hq3 => tellP (kk := i) (j := j) hq4 hq3 (bad (by rw [e6] at hjs hgs ⊢; exact bad_six hjs hgs))⟩⟩)))))))))), (fun y => by cases y)⟩
          rw [dec_intY] at h1
          have h6' : j < 6 := by have := of_decide_eq_false h1; omega
          refine tw_or (tw_test (ew_op (ew_var rfl (ew_var rfl (rw_I0 ⟨_, rfl, fun h2 => ?_, fun h2 => ?_⟩)))))
          · have h2 := of_decide_eq_true h2
            exact ⟨fun _ => sw_ret (ew_tup hd (aw_cons (ew_c (aw_cons (ew_tup hd (aw_cons (ew_var rfl (aw_cons (ew_var rfl (aw_nil ⟨by walk_at "ob_len", fun q4 hq4 => aw_nil ⟨by walk_at "ob_len", fun q3 hq3 => tellP (kk := i) (j := j) hq4 hq3 (bad (bad_at h6' hst hgs (by rw [sb, decide_eq_false (by omega : ¬ st.draw ≤ c)]; rfl)))⟩⟩)))))))))), (fun y => by cases y)⟩
          have h2 := of_decide_eq_false h2
          refine tw_or (tw_not (tw_test (ew_rngW (ew_c ⟨rfl, rfl, rfl⟩) (ew_var rfl ⟨rfl, rfl, rfl⟩) (ew_c ⟨rfl, rfl, rfl⟩) ⟨_, rfl, fun h3 => ?_, fun h3 => ?_⟩)))
          · rw [Bool.not_eq_true'] at h3
            exact ⟨fun _ => sw_ret (ew_tup hd (aw_cons (ew_c (aw_cons (ew_tup hd (aw_cons (ew_var rfl (aw_cons (ew_var rfl (aw_nil ⟨by walk_at "ob_len", fun q4 hq4 => aw_nil ⟨by walk_at "ob_len", fun q3 hq3 => tellP (kk := i) (j := j) hq4 hq3 (bad (bad_at h6' hst hgs (by rw [sb, h3, Bool.and_false, Bool.false_and])))⟩⟩)))))))))), (fun y => by cases y)⟩
          rw [Bool.not_eq_false'] at h3
          refine tw_test (ew_op (ew_var rfl (ew_var rfl (rw_I0 ⟨_, rfl, fun h4 => ?_, fun h4 => sw_next ?_⟩))))
          · have h4 := of_decide_eq_true h4
            exact sw_ret (ew_tup hd (aw_cons (ew_c (aw_cons (ew_tup hd (aw_cons (ew_var rfl (aw_cons (ew_var rfl (aw_nil ⟨by walk_at "ob_len", fun q4 hq4 => aw_nil ⟨by walk_at "ob_len", fun q3 hq3 => tellP (kk := i) (j := j) hq4 hq3 (bad (bad_at h6' hst hgs (by rw [sb, decide_eq_false (by omega : ¬ st.back ≤ st.draw), Bool.and_false])))⟩⟩))))))))))
          have h4 := of_decide_eq_false h4
          refine ⟨rfl, _, _, _, _, _, _, _, rfl, by omega, fun x hx => ?_⟩
          rw [List.take_succ, hst] at hx
          rcases List.mem_append.mp hx with q | q
          · exact hgs x q
          · rw [List.mem_singleton.mp q, sb, h3, decide_eq_true (by omega : st.draw ≤ c), decide_eq_true (by omega : st.back ≤ st.draw)]
            rfl
        · rintro σ _ _ ⟨rfl, y5, y9, y10, y11, y12, y13, y14, rfl, h6, hgs⟩
          have e : ((xk.length : Nat) : Int).toNat = ss.length := by omega
          rw [e] at h6 hgs
          refine ⟨rfl, _, _, _, _, _, _, _, _, rfl, by omega, fun x hx => ?_⟩
          rw [List.take_succ, hss] at hx
          rcases List.mem_append.mp hx with q | q
          · exact hg x q
          · rw [List.mem_singleton.mp q]
            exact bad_not h6 fun y hy => hgs y (by rw [List.take_length]; exact List.mem_of_mem_take hy)
      · rintro σ _ _ ⟨rfl, y4, y5, y9, y10, y11, y12, y13, y14, rfl, h5, hg⟩
        have e : ((acc2.length : Nat) : Int).toNat = ms.length := by omega
        rw [e] at h5 hg
        exact ⟨rfl, _, _, _, _, _, _, _, _, rfl, ms_not h5 fun x hx => hg x (by rw [List.take_length]; exact List.mem_of_mem_take hx)⟩
    · rintro σ _ _ ⟨rfl, y4, y5, y9, y10, y11, y12, y13, y14, rfl, hno⟩
      rw [hno] at hvw
      refine sw_ret (ew_tup hd (aw_cons (ew_c (aw_cons (ew_tup hd (aw_cons (ew_var rfl (aw_cons (ew_cb (aw_cons (ew_var rfl (aw_nil (cw_tuple hd (SqL.of eP) fun t ht => aw_nil ⟨by walk_at "ob_len", fun q4 hq4 => aw_nil ⟨by walk_at "ob_len", fun q3 hq3 => ?_⟩⟩)))))))))))))
      have x1 := Ex.new (.refl _) ht (u := .tup acc2)
      have x2 := Ex.new (.refl _) hq4 (u := .tup [V.ref sa, V.ref t])
      have x3 := Ex.new (.refl _) hq3 (u := .tup [V.str "told", V.ref q4])
      refine k _ _ (gFG.trans (x1.trans (x2.trans x3))) ?_
      rw [hvw]
      exact .tup (SqT.of upd_same) (.cons (.str _) (.cons (.tup (SqT.of (x3 _ _ upd_same)) (.cons (.tup ((gG.trans (x1.trans (x2.trans x3))).sqT lsv) (.cons (.int _) (.cons (.int _) (.cons (.int _) .nil)))) (.cons (.tup (SqT.of ((x2.trans x3) _ _ upd_same)) (dps_ex (x1.trans (x2.trans x3)) dG)) .nil))) .nil))
end
end Obr
namespace Obr
open PySem L2 PySem.Spec PyProof.Rows TL
local macro_rules | `(tactic| walk_at "ob_at") => `(tactic| first
  | assumption
  | exact upd_same
  | (refine Eq.trans (upd_ne ?obn) ?obr; (case obn => walk_at "ob_ne"); (case obr => walk_at "ob_at")))
local macro_rules | `(tactic| walk_at "ob_ne") => `(tactic| first
  | assumption
  | (refine Ne.symm ?obs; (case obs => assumption))
  | (refine' ne_of_none (H := ?_) ?obe ?obh; (case obh => assumption); (case obe => walk_at "ob_at"))
  | (refine Ne.symm ?obs; (case obs => (refine' ne_of_none (H := ?_) ?obe ?obh; (case obh => assumption); (case obe => walk_at "ob_at")))))
local macro_rules | `(tactic| walk_at "ob_fr") => `(tactic| first
  | assumption
  | (refine Eq.trans (upd_ne ?obn) ?obr; (case obn => walk_at "ob_ne"); (case obr => walk_at "ob_fr"))
  | (refine Ex.free (G := ?_) (by assumption) ?obh; (case obh => walk_at "ob_fr")))
local macro_rules | `(tactic| walk_at "ob_ex") => `(tactic| first
  | assumption
  | exact Ex.refl _
  | (refine Ex.out ?obg ?obh; (case obh => assumption); (case obg => walk_at "ob_ex"))
  | (refine Ex.new ?obg ?obh; (case obh => assumption); (case obg => walk_at "ob_ex"))
  | (refine Ex.new ?obg ?obh; (case obh => walk_at "ob_fr"); (case obg => walk_at "ob_ex")))
local macro_rules | `(tactic| walk_at "ob_sq") => `(tactic| first
  | assumption
  | (refine SqL.of ?oba; (case oba => walk_at "ob_at"))
  | (refine Ex.sqT (F := ?_) ?obg ?obh; (case obh => assumption); (case obg => walk_at "ob_ex"))
  | (refine Ex.sqL (F := ?_) ?obg ?obh; (case obh => assumption); (case obg => walk_at "ob_ex"))
  | (refine SqT.of ?oba; (case oba => walk_at "ob_at")))
local macro_rules | `(tactic| walk_at "ob_side") => `(tactic| first | exact rfl | assumption | decide | omega | exact ⟨by decide, by decide, by decide⟩ | exact Or.inr ⟨by decide, by decide⟩ | exact Or.inl ⟨by decide, by decide⟩ | exact wide_div (b := 60) (by first | decide | omega) (by first | decide | omega) (by decide) (by decide))
local macro_rules | `(tactic| walk_at "ob1") => `(tactic| first
  | with_reducible refine sw_seq ?_
  | with_reducible refine sw_asg ?_
  | with_reducible refine sw_ret ?_
  | with_reducible refine sw_par ?_
  | with_reducible refine ⟨_, _, rfl, ?_⟩
  | with_reducible refine sw_drop ?_
  | with_reducible refine sw_if ?_
  | with_reducible refine sw_next ?_
  | with_reducible refine gw_name ?_
  | with_reducible refine gw_subL (by assumption) ?_
  | with_reducible refine gsw_cons ?_
  | with_reducible refine gsw_nil ?_
  | with_reducible refine ew_c ?_
  | ((with_reducible refine' ew_var (v := ?_) ?obv ?_); (case obv => exact rfl))
  | ((with_reducible refine ew_next (by assumption) ?obv ?_); (case obv => exact rfl))
  | ((with_reducible refine ew_world (by assumption) ?obv ?_); (case obv => exact rfl))
  | ((with_reducible refine ew_rule (by assumption) ?obv ?_); (case obv => exact rfl))
  | with_reducible refine ew_op ?_
  | with_reducible refine ew_un ?_
  | with_reducible refine ew_dget (by assumption) ?_
  | with_reducible refine uw_I ?_
  | with_reducible refine ppw_nil ?_
  | with_reducible refine ppw_cons ?_
  | with_reducible refine sw_dput (by assumption) ?_
  | with_reducible refine ew_cb ?_
  | with_reducible refine ew_if ?_
  | with_reducible refine ew_slL (by assumption) ?_
  | with_reducible refine ow_some ?_
  | with_reducible refine ow_none ?_
  | with_reducible refine aw_nil ?_
  | with_reducible refine aw_cons ?_
  | with_reducible refine rw_I0 ?_
  | ((with_reducible refine rw_I ?obc ?_); (case obc => walk_at "ob_side"))
  | with_reducible refine rw_isN ?_
  | with_reducible refine rw_notN ?_
  | ((with_reducible refine rw_eq ?obc ?_); (case obc => exact rfl))
  | ((with_reducible refine rw_ne ?obc ?_); (case obc => exact rfl))
  | with_reducible refine cw_max2 ?_
  | with_reducible refine cw_min2 ?_
  | with_reducible refine tw_test ?_
  | with_reducible refine tw_B ?_
  | with_reducible refine tw_not ?_
  | with_reducible refine tw_truB ?_
  | with_reducible refine tw_and ?_
  | with_reducible refine tw_or ?_
  | with_reducible refine ew_and ?_
  | (refine' Exists.intro _ (And.intro (show V.bl _ = V.bl _ from rfl) ?_))
  | (refine' Exists.intro _ (And.intro (show V.int _ = V.int _ from rfl) ?_))
  | ((with_reducible refine' rw_ixL (v := ?_) (xs := ?_) (by assumption) ?obl ?oba ?_); (case obl => walk_at "ob_sq"); (case oba => first | exact rfl | exact at_zero))
  | ((with_reducible refine' rw_ixT (v := ?_) (xs := ?_) (by assumption) ?obl ?oba ?_); (case obl => walk_at "ob_sq"); (case oba => first | exact rfl | exact at_zero))
  | ((with_reducible refine' ew_lst (by assumption) ?_))
  | ((with_reducible refine' ew_tup (by assumption) ?_)))
local macro_rules | `(tactic| walk_at "ob_len") => `(tactic| first | exact Nat.le_of_ble_eq_true rfl | (simp; done) | omega)
local macro_rules | `(tactic| walk_at "ob") => `(tactic| repeat walk_at "ob1")

def aLText (K : PySem.W.Frag) : List V → Hp → VK → Prop := fun vs F R => ∃ (v : V) (w : Wld), vs = [v] ∧ Dp K F v (wldD w) ∧ WldOk w ∧ ∀ F', Ex F F' → R (.str (textT w)) F'
section
variable {P : Program} {w : World} {K : PySem.W.Frag} {mg : Str → Option Value} {base : Heap} {tF : Tok}
theorem log_two9 {i : Int} (h : Two i) : i.natAbs.log2 < 1920 := by
  have h1 : i.natAbs ≤ 99 := by have := h.1; have := h.2; omega
  have : i.natAbs < 2 ^ 1920 := Nat.lt_of_le_of_lt h1 (by decide +kernel)
  by_cases c : i.natAbs = 0
  · rw [c]; decide +kernel
  · exact (Nat.log2_lt c).mpr this
/-- [str(x) for x in numbers] -/
theorem strs_of {S : Type} {J : S → Hp → Hp → Prop} {σ : L2.St} {s : S} {F : Hp} {R : V → S → Hp → Prop} {tl : TE} {j : Nat} (hd : Hid J) {a : Addr} {ns : List Int} (hs1 : ∀ v, wipe ((wipe σ [j]).set j (some v)) [j] = wipe σ [j]) (hs2 : ∀ v, ((wipe σ [j]).set j (some v))[j]? = some (some v)) (h : EW J tl σ s F fun v s1 F1 => v = .ref a ∧ s1 = s ∧ F1 = F) (row : SqT K F a (ns.map V.int)) (hl : ns.length ≤ 1000) (h2 : ∀ n ∈ ns, Two n)
    (k : ∀ Dl G, Ex F G → G Dl = some (.lst ((ns.map numS).map V.str)) → R (.ref Dl) s G) : EW J (tLc (iTup K tl) (gName j) tYes (tCB (fun xs H Q => ∃ i : Int, xs = [.int i] ∧ i.natAbs.log2 < 1920 ∧ Q (.str (toString i)) H) (tCons (tVar j) tNil)) [j]) σ s F R := by
  refine ew_lcTd hd (ns.map fun n => PyData.str (numS n)) (by rw [List.length_map, List.length_map]) h row (by rw [List.length_map]; omega) (fun i x Dl acc G hx g1 hD => ?_) fun Dl G acc g1 e dps => ?_
  · rw [List.getElem?_map] at hx
    obtain ⟨n, hn, rfl⟩ := Option.map_eq_some_iff.mp hx
    have hm := List.mem_of_getElem? hn
    exact gw_name ⟨hs1 _, tw_yes ⟨fun _ => ew_cb (aw_cons (ew_var (hs2 _) (aw_nil (cw_strI (log_two9 (h2 n hm)) ⟨rfl, .refl _, _, PyData.str (numS n), by rw [List.getElem?_map, hn]; rfl, rfl, .str _⟩)))), (fun z => by cases z)⟩⟩
  · have e2 : acc = (ns.map numS).map V.str := dps_strs_iff (by rw [List.map_map]; exact dps)
    subst e2
    exact k Dl G g1 e

abbrev s__law_text : Stmt := top 35
def N__law_text : List Str := ["_law_world_here", "_law_rows", "_law_steps", "_law_part", "_law_step"]
theorem sc__law_text : FnScope N__law_text ["_law_world_here"] (defScope s__law_text) := ⟨rfl, rfl, rfl, by decide +kernel, rfl, by decide +kernel, by decide +kernel⟩
theorem ok__law_text {f : Addr} {fd : FuncData}  (Fn : Fun K "_law_text" "_law_text" s__law_text f fd) (B : Blt mg)  : FnOk P w K mg base CX0 1 f fd ["_law_world_here"] (LS (aLText K)) := by
  refine Fn.ok sc__law_text (fun vs H Q E h => ?_) (fun cdv A outer s H vs Q E hr h => ?_)
  · obtain ⟨J, F, R, hd, j, h, _⟩ := h
    obtain ⟨v, wd, rfl, _⟩ := h
    rfl
  · have nd := sc__law_text.nd
    obtain ⟨J, F, R, hd, j, h, q⟩ := h
    obtain ⟨v, wd, rfl, dv, hw, k⟩ := h
    refine ⟨_, (pss_cons (ps_set (i := 1) nd rfl (Or.inl rfl) (pe_lst (pa_cons (pe_op op_add_str pe_str (pe_join pe_str (pe_lc (own := [("_law_part", 3)]) (te := (tCB (fun xs H Q => ∃ i : Int, xs = [.int i] ∧ i.natAbs.log2 < 1920 ∧ Q (.str (toString i)) H) (tCons (tVar 3) tNil))) (tt := tYes) (by rfl) nd (pi_tup (pe_ix ix_tup (pv 0) pe_int (fun _ _ => rfl))) (blkOk_by (own := [("_law_part", 3)]) (N := N__law_text) (sc := defScope s__law_text) (by decide +kernel)) (fun _ _ _ _ _ => (pg_name (i := 3) nd rfl (Or.inl rfl))) (fun _ _ _ _ _ => pts_nil) (fun _ _ _ _ _ => (pe_callTy call_str_int (by rfl) B.str (by decide +kernel) (pa_cons (pv 3) pa_nil)))))) pa_nil)))
      (pss_cons (ps_for PassesOwn.never rfl (pi_tup (pe_ix ix_tup (pv 0) pe_int (fun _ _ => rfl))) (pg_name (i := 2) nd rfl (Or.inl rfl)) (pss_one (ps_expr (pe_bm PySem.F.plainAttrs_list PySem.F.slot_list_append PySem.F.type_list_append mt_append (pv 1) (pa_cons (pe_join pe_str (pe_op op_cat (pe_lst (pa_cons pe_str pa_nil)) (pe_lc (own := [("_law_step", 4)]) (te := (tM1 (fun x xs H Q => ∃ a p, ∃ ys : List Str, x = .str a ∧ xs = [.ref p] ∧ (SqL K H p (ys.map V.str) ∨ SqT K H p (ys.map V.str)) ∧ (ys.map (·.length)).sum + ys.length * a.length ≤ 16777216 ∧ Q (.str (Txt.join a ys)) H) (tC (.str ",")) (tLc (iTup K (tVar 4)) (gName 3) tYes (tCB (fun xs H Q => ∃ i : Int, xs = [.int i] ∧ i.natAbs.log2 < 1920 ∧ Q (.str (toString i)) H) (tCons (tVar 3) tNil)) [3]))) (tt := tYes) (by rfl) nd (pi_tup (pv 2)) (blkOk_by (own := [("_law_step", 4)]) (N := N__law_text) (sc := defScope s__law_text) (by decide +kernel)) (fun _ _ _ _ _ => (pg_name (i := 4) nd rfl (Or.inl rfl))) (fun _ _ _ _ _ => pts_nil) (fun _ _ _ _ _ => (pe_join pe_str (pe_lc (own := [("_law_part", 3)]) (te := (tCB (fun xs H Q => ∃ i : Int, xs = [.int i] ∧ i.natAbs.log2 < 1920 ∧ Q (.str (toString i)) H) (tCons (tVar 3) tNil))) (tt := tYes) (by rfl) nd (pi_tup (pv 4)) (blkOk_by (own := [("_law_part", 3)]) (N := N__law_text) (sc := relS _ (defScope s__law_text)) (by decide +kernel)) (fun _ _ _ _ _ => (pg_name (i := 3) nd rfl (Or.inl rfl))) (fun _ _ _ _ _ => pts_nil) (fun _ _ _ _ _ => (pe_callTy call_str_int (by rfl) B.str (by decide +kernel) (pa_cons (pv 3) pa_nil))))))))) pa_nil)))))
      (pss_one (ps_ret (pe_join pe_str (pv 1)))))), ?_⟩
    refine LS.body j q ?_
    obtain ⟨t1, t2, t3, t4⟩ := world_two hw
    obtain ⟨wa, wxs, rfl, lx, dxs⟩ := dp_tup dv
    obtain ⟨sv, mv, rfl, dsv, dmv⟩ := dps2 dxs
    obtain ⟨sa, ys, rfl, ly, dys⟩ := dp_tup dsv
    obtain ⟨v1, v2, v3, rfl, d1, d2, d3⟩ := dps3 dys
    cases dp_int d1
    cases dp_int d2
    cases dp_int d3
    obtain ⟨ma, zs, rfl, lz, dzs⟩ := dp_tup dmv
    have hzl : zs.length = wd.ms.length := by have := dps_len dzs; simpa using this
    have hm5 := hw.m
    have two3 : ∀ {c s f : Int}, Two c → Two s → Two f → ∀ n ∈ [c, s, f], Two n := fun h1 h2 h3 n hn => by
      rcases List.mem_cons.mp hn with rfl | hn
      · exact h1
      · rcases List.mem_cons.mp hn with rfl | hn
        · exact h2
        · rw [List.mem_singleton.mp hn]; exact h3
    have sum3 : ∀ {c s f : Int}, Two c → Two s → Two f → ((([c, s, f].map numS).map (·.length)).sum ≤ 6) := fun {c s f} h1 h2 h3 => by
      have z := sum_le (l := ([c, s, f].map numS).map (·.length)) (k := 2) fun x hx => by
        obtain ⟨y, hy, rfl⟩ := List.mem_map.mp hx
        obtain ⟨n, hn, rfl⟩ := List.mem_map.mp hy
        exact (numS_is (two3 h1 h2 h3 n hn)).2.2.1
      exact z
    have l1 : (" " : Str).length = 1 := by decide +kernel
    have l2 : ("," : Str).length = 1 := by decide +kernel
    have hlen : ("store " : Str).length + (Txt.join " " [numS wd.cap, numS wd.start, numS wd.refill]).length ≤ sizeLine := by
      have z := (store_is t1 t2 t3).2.2
      rw [← store_law, len_tl, tl_append, List.length_append, ← len_tl, ← len_tl] at z
      rw [sizeLine_eq]
      omega
    refine sw_seq (sw_asg (ew_lst hd (aw_cons (ew_op (ew_c (ew_join hd (ew_c ⟨_, rfl, strs_of hd (ns := [wd.cap, wd.start, wd.refill]) (fun _ => rfl) (fun _ => rfl) (ew_op (ew_var rfl (ew_c (rw_ixT hd lx at_zero ⟨rfl, rfl, rfl⟩)))) ly (by show 3 ≤ 1000; decide) (two3 t1 t2 t3) fun Dl G g e => ⟨Dl, [numS wd.cap, numS wd.start, numS wd.refill], rfl, SqL.of e, ?_, rw_addS hlen (aw_nil ⟨by walk_at "ob_len", fun p hp => gw_name ?_⟩)⟩⟩)))))))
    · have z := sum3 t1 t2 t3
      rw [l1]
      show (([wd.cap, wd.start, wd.refill].map numS).map (·.length)).sum + 3 * 1 ≤ 16777216
      omega
    rw [store_law]
    have h0 : (upd G p (.lst [V.str (storeT wd.cap wd.start wd.refill)])) p = some (.lst ((storeT wd.cap wd.start wd.refill :: (wd.ms.take 0).map rowT).map V.str)) := upd_same
    have gx : Ex F (upd G p (.lst [V.str (storeT wd.cap wd.start wd.refill)])) := Ex.new g hp
    have hpF : F p = none := Ex.free g hp
    generalize upd G p (.lst [V.str (storeT wd.cap wd.start wd.refill)]) = G1 at h0 gx
    refine sw_seq (sw_mid (fun σ _ G => ∃ y2 y3 y4 : Option V, σ = [some (.ref wa), some (.ref p), y2, y3, y4] ∧ Ex F G ∧ G p = some (.lst ((storeT wd.cap wd.start wd.refill :: wd.ms.map rowT).map V.str))) ?_ ?_)
    · refine sw_forT hd (ew_op (ew_var rfl (ew_c (rw_ixT hd (gx.sqT lx) (v := .ref ma) rfl ⟨ma, zs, fun i σ _ G => ∃ y2 y3 y4 : Option V, σ = [some (.ref wa), some (.ref p), y2, y3, y4] ∧ Ex F G ∧ G p = some (.lst ((storeT wd.cap wd.start wd.refill :: (wd.ms.take i).map rowT).map V.str)), rfl, gx.sqT lz, ⟨_, _, _, rfl, gx, h0⟩, ?_, ?_, ?_⟩))))
      · rintro i σ s2 G hi ⟨y2, y3, y4, rfl, g2, h2⟩
        exact g2.sqT lz
      · rintro i x σ s2 G hx ⟨y2, y3, y4, rfl, g2, h2⟩
        obtain ⟨d, hd1, hd2⟩ := dps_get' dzs hx
        rw [List.getElem?_map] at hd1
        obtain ⟨ss, hss, rfl⟩ := Option.map_eq_some_iff.mp hd1
        have hmem := List.mem_of_getElem? hss
        have hs6 := hw.n ss hmem
        have h4 := t4 ss hmem
        obtain ⟨xa, xs, rfl, l3, d3⟩ := dp_tup (dp_ex g2 hd2)
        have hxl : xs.length = ss.length := by have := dps_len d3; simpa using this
        refine gw_name (sw_drop (ew_bmL hd (ew_var rfl ⟨p, _, rfl, SqL.of h2, aw_cons (ew_join hd (ew_c ⟨_, rfl, ew_op (ew_lst hd (aw_cons (ew_c (aw_nil ⟨by walk_at "ob_len", fun q hq => ?_⟩))))⟩))⟩)))
        have g3 := Ex.new (.refl G) hq (u := .lst [V.str "machine"])
        have eq1 : (upd G q (.lst [V.str "machine"])) q = some (.lst [V.str "machine"]) := upd_same
        generalize upd G q (.lst [V.str "machine"]) = G2 at g3 eq1
        refine ew_lcTd hd (ss.map fun st => PyData.str (stepT st)) (by rw [List.length_map, hxl]) (ew_var rfl ⟨rfl, rfl, rfl⟩) (g3.sqT l3) (by omega) (fun i9 x9 Dl acc G9 hx9 g5 hD => ?_) fun Dl G3 acc g5 e3 dps => ?_
        · obtain ⟨d9, hd3, hd4⟩ := dps_get' d3 hx9
          rw [List.getElem?_map] at hd3
          obtain ⟨st, hst, rfl⟩ := Option.map_eq_some_iff.mp hd3
          have hs2 := h4 st (List.mem_of_getElem? hst)
          obtain ⟨ta, txs, rfl, l5, d5⟩ := dp_tup (dp_ex (g3.trans g5) hd4)
          obtain ⟨v1, v2, v3, rfl, d1, d2, d3⟩ := dps3 d5
          cases dp_int d1
          cases dp_int d2
          cases dp_int d3
          refine gw_name ⟨rfl, tw_yes ⟨fun _ => ew_join hd.jd (ew_c ⟨_, rfl, strs_of hd.jd (ns := [st.draw, st.long, st.back]) (fun _ => rfl) (fun _ => rfl) (ew_var rfl ⟨rfl, rfl, rfl⟩) l5 (by show 3 ≤ 1000; decide) (two3 hs2.1 hs2.2.1 hs2.2.2) fun Dl2 G7 g7 e7 => ⟨Dl2, [numS st.draw, numS st.long, numS st.back], rfl, SqL.of e7, ?_, rfl, g7, _, PyData.str (stepT st), by rw [List.getElem?_map, hst]; rfl, rfl, .str _⟩⟩), (fun z => by cases z)⟩⟩
          have z := sum3 hs2.1 hs2.2.1 hs2.2.2
          rw [l2]
          show (([st.draw, st.long, st.back].map numS).map (·.length)).sum + 3 * 1 ≤ 16777216
          omega
        · have e5 : acc = (ss.map stepT).map V.str := dps_strs_iff (by rw [List.map_map]; exact dps)
          subst e5
          refine rw_cat hd (g5 _ _ eq1) e3 (by rw [List.length_map, List.length_map, List.length_singleton]; omega) fun q2 hq2 => ⟨q2, ("machine" : Str) :: ss.map stepT, rfl, SqL.of upd_same, ?_, aw_nil (mw_append hd ((Ex.new (.refl _) hq2) _ _ ((g3.trans g5) _ _ h2)) ?_ ?_)⟩
          · have z := sum_le (l := (("machine" : Str) :: ss.map stepT).map (·.length)) (k := 9) fun x9 hx9 => by
              obtain ⟨y, hy, rfl⟩ := List.mem_map.mp hx9
              rcases List.mem_cons.mp hy with rfl | hy
              · exact (by decide +kernel : ("machine" : Str).length ≤ 9)
              · obtain ⟨st, hs, rfl⟩ := List.mem_map.mp hy
                exact step_len (h4 st hs)
            rw [l1]
            rw [List.length_map, List.length_cons, List.length_map] at z
            rw [List.length_cons, List.length_map]
            omega
          · rw [List.length_map, List.length_cons, List.length_map, List.length_take]
            omega
          · refine ⟨_, _, _, rfl, Ex.out (g2.trans (g3.trans (g5.trans (Ex.new (.refl _) hq2)))) hpF, ?_⟩
            rw [upd_same, List.take_succ, hss, List.map_append, ← List.cons_append, List.map_append]
            rfl
      · rintro σ s2 G ⟨y2, y3, y4, rfl, g2, h2⟩
        rw [hzl, List.take_length] at h2
        exact ⟨_, _, _, rfl, g2, h2⟩
    · rintro σ s2 G ⟨y2, y3, y4, rfl, g2, h2⟩
      refine sw_ret (ew_join hd (ew_c ⟨_, rfl, ew_var rfl ⟨p, _, rfl, SqL.of h2, ?_, k _ g2⟩⟩))
      have z := sum_le (l := (storeT wd.cap wd.start wd.refill :: wd.ms.map rowT).map (·.length)) (k := 70) fun x9 hx9 => by
        obtain ⟨y, hy, rfl⟩ := List.mem_map.mp hx9
        exact rows_len hw y hy
      have e1 : ("\n" : Str).length = 1 := by decide +kernel
      rw [e1]
      rw [List.length_map, List.length_cons, List.length_map] at z
      rw [List.length_cons, List.length_map]
      omega
end
end Obr
namespace Obr
open PySem PySem.Spec PyProof.Rows L2 LamX
/-- the def x, its code object, its table, still empty -/
def TabAt (x : Str) (mg : Str → Option Value) (h : Heap) : Prop := ∃ (a : Addr) (o : Obj) (fd : FuncData) (c P : Addr), mg x = some (.ref a) ∧ h.get? a = some o ∧ o.data = .func fd ∧ fd.code = .ref c ∧ PySem.W.CodeHd h c P ∧ h.get? P = some { cls := .none, data := .fields #[] }
theorem walk_ofTsG {l : PySem.W.OpenLaw} {n k : Nat} {q : Program} {loose : List Str} {XP : (Str → Option Value) → Heap → Prop} {YP : World → Heap → Prop} {d : DefRec} {CX : World → CXT} {x : Str}
    (hn : l.most = some n) (hn2 : n ≤ sizeLine) (hdf : d.params.defaults = []) (hr : Room k callerA) (hrec : ((recsOf q).any fun e => e.name == d.name) = true)
    (F : ∀ (w : World) (mg : Str → Option Value) (fa : Addr) (h : Heap), YP w h → h.Ns mainGlobals mg → mg d.name = some (.ref fa) → TabAt d.name mg h → ∃ K : PySem.W.Frag, K.In h ∧ LawAtS l w K (CX w) k n x mg fa h)
    (hCX : ∀ (w : World) (H : Hp) (s : Shared) (e : Value) (s' : Shared), CX w [] H s (fun _ _ _ => False) e s' → False) :
    PySem.W.WalkO q loose XP YP l.row.toRowW d [] (fun f vs => PySem.call f vs) := by
  refine Att.attach_callB hn hdf fun w s₀ s₁ mg mb fa o pm cd doc a vs ns G Y ho hd hcd hmg hobj hints hlen hbits hg => ?_
  have hT : TabAt d.name mg s₁.heap := by
    obtain ⟨dL, hm, hn1⟩ := List.any_eq_true.mp hrec
    have hn2 : dL.name = d.name := beq_iff_eq.mp hn1
    obtain ⟨a', o', fd', c', P', h1, h2, h3, h4, h5, h6⟩ := G.T.tab dL hm
    rw [hn2] at h1
    exact ⟨a', o', fd', c', P', h1, h2, h3, h4, PySem.W.CodeHd.of h5 h6, h6.2⟩
  obtain ⟨K, KX, fd, cs, sp, hT, nT, C, hb, hsp, hF⟩ := F w mg fa _ Y G.T.g hmg hT
  exact law_callTs KX G.T.g G.T.b G.T.builtins G.T.nolimit hg hT nT C G.T.bmain hobj hints (Nat.le_trans hlen hn2) hr hF hb (fun H hH hS => hsp H a ns hlen hbits hH hS) fun H e s' => hCX w H s₁ e s'
end Obr
namespace Obr
open PySem L2 PyProof.Rows
local macro_rules | `(tactic| walk_at "ob_at") => `(tactic| first
  | assumption
  | exact upd_same
  | (refine Eq.trans (upd_ne ?obn) ?obr; (case obn => walk_at "ob_ne"); (case obr => walk_at "ob_at")))
local macro_rules | `(tactic| walk_at "ob_ne") => `(tactic| first
  | assumption
  | (refine Ne.symm ?obs; (case obs => assumption))
  | (refine' ne_of_none (H := ?_) ?obe ?obh; (case obh => assumption); (case obe => walk_at "ob_at"))
  | (refine Ne.symm ?obs; (case obs => (refine' ne_of_none (H := ?_) ?obe ?obh; (case obh => assumption); (case obe => walk_at "ob_at")))))
local macro_rules | `(tactic| walk_at "ob_fr") => `(tactic| first
  | assumption
  | (refine Eq.trans (upd_ne ?obn) ?obr; (case obn => walk_at "ob_ne"); (case obr => walk_at "ob_fr"))
  | (refine Ex.free (G := ?_) (by assumption) ?obh; (case obh => walk_at "ob_fr")))
local macro_rules | `(tactic| walk_at "ob_ex") => `(tactic| first
  | assumption
  | exact Ex.refl _
  | (refine Ex.out ?obg ?obh; (case obh => assumption); (case obg => walk_at "ob_ex"))
  | (refine Ex.new ?obg ?obh; (case obh => assumption); (case obg => walk_at "ob_ex"))
  | (refine Ex.new ?obg ?obh; (case obh => walk_at "ob_fr"); (case obg => walk_at "ob_ex")))
local macro_rules | `(tactic| walk_at "ob_sq") => `(tactic| first
  | assumption
  | (refine SqL.of ?oba; (case oba => walk_at "ob_at"))
  | (refine Ex.sqT (F := ?_) ?obg ?obh; (case obh => assumption); (case obg => walk_at "ob_ex"))
  | (refine Ex.sqL (F := ?_) ?obg ?obh; (case obh => assumption); (case obg => walk_at "ob_ex"))
  | (refine SqT.of ?oba; (case oba => walk_at "ob_at")))
local macro_rules | `(tactic| walk_at "ob_side") => `(tactic| first | exact rfl | assumption | decide | omega | exact ⟨by decide, by decide, by decide⟩ | exact Or.inr ⟨by decide, by decide⟩ | exact Or.inl ⟨by decide, by decide⟩ | exact wide_div (b := 60) (by first | decide | omega) (by first | decide | omega) (by decide) (by decide))
local macro_rules | `(tactic| walk_at "ob1") => `(tactic| first
  | with_reducible refine sw_seq ?_
  | with_reducible refine sw_asg ?_
  | with_reducible refine sw_ret ?_
  | with_reducible refine sw_par ?_
  | with_reducible refine ⟨_, _, rfl, ?_⟩
  | with_reducible refine sw_drop ?_
  | with_reducible refine sw_if ?_
  | with_reducible refine sw_next ?_
  | with_reducible refine gw_name ?_
  | with_reducible refine gw_subL (by assumption) ?_
  | with_reducible refine gsw_cons ?_
  | with_reducible refine gsw_nil ?_
  | with_reducible refine ew_c ?_
  | ((with_reducible refine' ew_var (v := ?_) ?obv ?_); (case obv => exact rfl))
  | ((with_reducible refine ew_next (by assumption) ?obv ?_); (case obv => exact rfl))
  | ((with_reducible refine ew_world (by assumption) ?obv ?_); (case obv => exact rfl))
  | ((with_reducible refine ew_rule (by assumption) ?obv ?_); (case obv => exact rfl))
  | with_reducible refine ew_op ?_
  | with_reducible refine ew_un ?_
  | with_reducible refine ew_dget (by assumption) ?_
  | with_reducible refine uw_I ?_
  | with_reducible refine ppw_nil ?_
  | with_reducible refine ppw_cons ?_
  | with_reducible refine sw_dput (by assumption) ?_
  | with_reducible refine ew_cb ?_
  | with_reducible refine ew_if ?_
  | with_reducible refine ew_slL (by assumption) ?_
  | with_reducible refine ow_some ?_
  | with_reducible refine ow_none ?_
  | with_reducible refine aw_nil ?_
  | with_reducible refine aw_cons ?_
  | with_reducible refine rw_I0 ?_
  | ((with_reducible refine rw_I ?obc ?_); (case obc => walk_at "ob_side"))
  | with_reducible refine rw_isN ?_
  | with_reducible refine rw_notN ?_
  | ((with_reducible refine rw_eq ?obc ?_); (case obc => exact rfl))
  | ((with_reducible refine rw_ne ?obc ?_); (case obc => exact rfl))
  | with_reducible refine cw_max2 ?_
  | with_reducible refine cw_min2 ?_
  | with_reducible refine tw_test ?_
  | with_reducible refine tw_B ?_
  | with_reducible refine tw_not ?_
  | with_reducible refine tw_truB ?_
  | with_reducible refine tw_and ?_
  | with_reducible refine tw_or ?_
  | with_reducible refine ew_and ?_
  | (refine' Exists.intro _ (And.intro (show V.bl _ = V.bl _ from rfl) ?_))
  | (refine' Exists.intro _ (And.intro (show V.int _ = V.int _ from rfl) ?_))
  | ((with_reducible refine' rw_ixL (v := ?_) (xs := ?_) (by assumption) ?obl ?oba ?_); (case obl => walk_at "ob_sq"); (case oba => first | exact rfl | exact at_zero))
  | ((with_reducible refine' rw_ixT (v := ?_) (xs := ?_) (by assumption) ?obl ?oba ?_); (case obl => walk_at "ob_sq"); (case oba => first | exact rfl | exact at_zero))
  | ((with_reducible refine' ew_lst (by assumption) ?_))
  | ((with_reducible refine' ew_tup (by assumption) ?_)))
local macro_rules | `(tactic| walk_at "ob_len") => `(tactic| first | exact Nat.le_of_ble_eq_true rfl | (simp; done) | omega)
local macro_rules | `(tactic| walk_at "ob") => `(tactic| repeat walk_at "ob1")
/-! ### _law_alike of the same data -/
def tyD : PyData → String
  | .none => "NoneType"
  | .bool _ => "bool"
  | .int _ => "int"
  | .str _ => "str"
  | .list _ => "list"
  | .tuple _ => "tuple"
  | .dict _ => "dict"
theorem dp_ty {K : PySem.W.Frag} {H : Hp} {v : V} {d : PyData} (h : Dp K H v d) : TyX K H v (.type (tyD d)) := by
  cases h with
  | non => exact .base .non
  | bl b => exact .base (.bl b)
  | int i => exact .base (.int i)
  | str x => exact .base (.str x)
  | lst hs ha =>
    rcases hs with (h | ⟨o, h⟩) | ⟨o, its, n, h1, h2, _⟩
    · exact .base (.lst h)
    · exact .base (.frz h)
    · exact .kList h1 h2
  | tup hs ha =>
    rcases hs with (h | ⟨o, h⟩) | ⟨o, its, n, h1, h2, _⟩
    · exact .base (.tup h)
    · exact .fTuple h
    · exact .kTuple h1 h2
section
variable {S : Type} {J : S → Hp → Hp → Prop} {K : PySem.W.Frag} {s : S} {F : Hp} {R : V → S → Hp → Prop}
theorem cw_isi (hd : Hid J) {v : V} {d : PyData} {n : String} {b : Bool} (h : Dp K F v d) (e : kitB (tyD d) n = some b) (k : R (.bl b) s F) : CW J (rIsi K) [v, .ty n] s F R := fun H j Q q =>
  ⟨v, .ty n, _, _, b, rfl, .ty n, dp_ty (dp_ex (hd.ex j) h), kit_ty e, q _ _ _ _ j k⟩
theorem cw_isi2 (hd : Hid J) {v : V} {d : PyData} {n1 n2 : String} {b1 b2 : Bool} {tp : Addr} (ht : F tp = some (.tup [.ty n1, .ty n2])) (h : Dp K F v d) (e1 : kitB (tyD d) n1 = some b1) (e2 : kitB (tyD d) n2 = some b2) (k : R (.bl (b1 || b2)) s F) : CW J (rIsiT K) [v, .ref tp] s F R := fun H j Q q =>
  ⟨v, tp, [.ty n1, .ty n2], _, [.type n1, .type n2], b1 || b2, rfl, hd.ex j _ _ ht, .cons (.ty n1) (.cons (.ty n2) .nil), dp_ty (dp_ex (hd.ex j) h),
    kitAny_cons (kit_ty e1) (fun hb => by rw [hb]; exact kitAny_cons (kit_ty e2) (fun hb2 => by rw [hb2]; exact kitAny_nil) (fun hb2 => by rw [hb2]; rfl)) (fun hb => by rw [hb]; rfl), q _ _ _ _ j k⟩
theorem rw_ixD (hd : Hid J) {p : Addr} {xs : List V} {i : Nat} {v : V} (l : SqL K F p xs ∨ SqT K F p xs) (a : xs[i]? = some v) (h : R v s F) : RW J (rIx K) (.ref p) (.int (i : Int)) s F R := fun H j Q q => by
  rcases l with l | l
  · exact .inl ⟨p, xs, i, v, rfl, rfl, hd.sqL j l, atI_nat a, q _ _ _ _ j h⟩
  · exact .inr (.inl ⟨p, xs, i, v, rfl, rfl, hd.sqT j l, atI_nat a, q _ _ _ _ j h⟩)
end
/-- data of depth n at most, none longer than a thousand -/
def szD : Nat → PyData → Bool
  | _, .none => true
  | _, .bool _ => true
  | _, .int _ => true
  | _, .str x => PyData.strOk x
  | n + 1, .list ds => decide (ds.length ≤ 1000) && ds.all (szD n)
  | n + 1, .tuple ds => decide (ds.length ≤ 1000) && ds.all (szD n)
  | _, _ => false
/-- two that hold the same -/
def aAlike (K : PySem.W.Frag) : Nat → List V → Hp → VK → Prop
  | 0 => fun _ _ _ => False
  | n + 1 => fun vs F R => ∃ (x y : V) (d : PyData), vs = [x, y] ∧ Dp K F x d ∧ Dp K F y d ∧ szD n d = true ∧ ∀ F', Ex F F' → R (.bl true) F'
abbrev sAlike : Stmt := top 32
def N_alike : List Str := ["_law_found", "_law_due_here", "_law_k"]
theorem sc_alike : FnScope N_alike ["_law_found", "_law_due_here"] (defScope sAlike) := ⟨rfl, rfl, rfl, by decide +kernel, rfl, by decide +kernel, by decide +kernel⟩
section
variable {P : Program} {w : World} {K : PySem.W.Frag} {mg : Str → Option Value} {base : Heap}
theorem ok_alike {f : Addr} {fd : FuncData} (Fn : Fun K "_law_alike" "_law_alike" sAlike f fd) (B : Blt mg) (C_law_alike : Cal K mg "_law_alike" f fd ["_law_found", "_law_due_here"]) :
    ∀ n, FnOk P w K mg base CX0 n f fd ["_law_found", "_law_due_here"] (LS (aAlike K n))
  | 0 => ⟨fun _ _ _ _ ⟨_, _, _, _, _, h, _⟩ => h.elim, fun _ _ _ _ _ _ _ _ _ _ _ _ _ ⟨_, _, _, _, _, h, _⟩ => h.elim⟩
  | n + 1 => by
    have ih := ok_alike Fn B C_law_alike n
    refine Fn.ok sc_alike (fun vs H Q E h => ?_) (fun cdv A outer s H vs Q E hr h => ?_)
    · obtain ⟨J, F, R, hd, j, ⟨x, y, d, rfl, _⟩, _⟩ := h
      rfl
    have nd := sc_alike.nd
    obtain ⟨J, F, R, hd, j, ⟨x, y, d, rfl, hx, hy, hz, k⟩, q⟩ := h
    refine ⟨_, (pss_cons (ps_if (pt_val (pe_callB call_isiT (by rfl) B.isinstance (by decide +kernel) (pa_cons (pv 1) (pa_cons (pe_tup (pa_cons (pe_bltn (v := .ty "tuple") (by rfl) B.tuple (by decide +kernel) rfl) (pa_cons (pe_bltn (v := .ty "list") (by rfl) B.list (by decide +kernel) rfl) pa_nil))) pa_nil)))) (pss_cons (ps_if (PW.pt (pw_or (pt_not (pt_val (pe_callB call_isiT (by rfl) B.isinstance (by decide +kernel) (pa_cons (pv 0) (pa_cons (pe_tup (pa_cons (pe_bltn (v := .ty "tuple") (by rfl) B.tuple (by decide +kernel) rfl) (pa_cons (pe_bltn (v := .ty "list") (by rfl) B.list (by decide +kernel) rfl) pa_nil))) pa_nil))))) (pw_or1 (pt_cmpR op_ne (pe_callB call_isi (by rfl) B.isinstance (by decide +kernel) (pa_cons (pv 0) (pa_cons (pe_bltn (v := .ty "list") (by rfl) B.list (by decide +kernel) rfl) pa_nil))) (pe_callB call_isi (by rfl) B.isinstance (by decide +kernel) (pa_cons (pv 1) (pa_cons (pe_bltn (v := .ty "list") (by rfl) B.list (by decide +kernel) rfl) pa_nil))) (nomark _))))) (pss_one (ps_ret pe_bl)) pss_nil)
      (pss_cons (ps_if (pt_cmpR op_ne (pe_callB call_len_seq (by rfl) B.len (by decide +kernel) (pa_cons (pv 0) pa_nil)) (pe_callB call_len_seq (by rfl) B.len (by decide +kernel) (pa_cons (pv 1) pa_nil)) (nomark _)) (pss_one (ps_ret pe_bl)) pss_nil)
      (pss_one (ps_ret (pe_cmpR (op_eqD (by exact hr.units)) (pe_lc (own := [("_law_k", 2)]) (te := (tVar 2)) (tt := (tNot (tB (tCall (LS (aAlike K n)) [] E0 (tCons (tOp (rIx K) (tVar 0) (tVar 2)) (tCons (tOp (rIx K) (tVar 1) (tVar 2)) tNil)))))) (by rfl) nd (pi_range1 rfl B.range (pa_cons (pe_callB call_len_seq (by rfl) B.len (by decide +kernel) (pa_cons (pv 1) pa_nil)) pa_nil)) (blkOk_by (own := [("_law_k", 2)]) (N := N_alike) (sc := defScope sAlike) (by decide +kernel)) (fun _ _ _ _ _ => (pg_name (i := 2) nd rfl (Or.inl rfl))) (fun _ _ _ _ _ => pts_one (pt_not (pt_val (pe_call ih (by exact hr) (by rfl) C_law_alike.g C_law_alike.k C_law_alike.a .nil pass0 (pa_cons (pe_ix ix_seq (pv 0) (pv 2) (fun _ _ => rfl)) (pa_cons (pe_ix ix_seq (pv 1) (pv 2) (fun _ _ => rfl)) pa_nil)))))) (fun _ _ _ _ _ => (pv 2))) (pe_lst pa_nil) (nomark _)))))) pss_nil)
      (pss_cons (ps_if (PW.pt (pw_or (pt_cmpR op_isN (pv 1) pe_non (nomark _)) (pw_or1 (pt_val (pe_callB call_isi (by rfl) B.isinstance (by decide +kernel) (pa_cons (pv 1) (pa_cons (pe_bltn (v := .ty "str") (by rfl) B.str (by decide +kernel) rfl) pa_nil))))))) (pss_one (ps_ret (pe_and (pe_cmpR op_eq (pv 0) (pv 1) (nomark _)) (pe_one (pe_cmpR op_eq (pe_callB call_isi (by rfl) B.isinstance (by decide +kernel) (pa_cons (pv 0) (pa_cons (pe_bltn (v := .ty "str") (by rfl) B.str (by decide +kernel) rfl) pa_nil))) (pe_callB call_isi (by rfl) B.isinstance (by decide +kernel) (pa_cons (pv 1) (pa_cons (pe_bltn (v := .ty "str") (by rfl) B.str (by decide +kernel) rfl) pa_nil))) (nomark _)))))) pss_nil)
      (pss_one (ps_ret (pe_and (pe_callB call_isi (by rfl) B.isinstance (by decide +kernel) (pa_cons (pv 0) (pa_cons (pe_bltn (v := .ty "int") (by rfl) B.int (by decide +kernel) rfl) pa_nil))) (pe_and (pe_cmpR op_eq (pe_callB call_isi (by rfl) B.isinstance (by decide +kernel) (pa_cons (pv 0) (pa_cons (pe_bltn (v := .ty "bool") (by rfl) B.bool (by decide +kernel) rfl) pa_nil))) (pe_callB call_isi (by rfl) B.isinstance (by decide +kernel) (pa_cons (pv 1) (pa_cons (pe_bltn (v := .ty "bool") (by rfl) B.bool (by decide +kernel) rfl) pa_nil))) (nomark _)) (pe_one (pe_cmpR op_eq (pv 0) (pv 1) (nomark _))))))))), ?_⟩
    refine LS.body j q ?_
    walk_at "ob"
    refine ⟨by walk_at "ob_len", fun t1 ht1 => ?_⟩
    walk_at "ob"
    have g1 : Ex F (upd F t1 (.tup [.ty "tuple", .ty "list"])) := by walk_at "ob_ex"
    have fin : ∀ b, b = true → R (.bl b) (upd F t1 (.tup [.ty "tuple", .ty "list"])) := fun b e => by rw [e]; exact k _ g1
    cases d with
    | none =>
      cases dp_non hx
      refine cw_isi2 hd (b1 := false) (b2 := false) upd_same (dp_ex g1 hy) (by simp only [tyD]; decide +kernel) (by simp only [tyD]; decide +kernel) ?_
      walk_at "ob"
      refine ⟨(fun h => by cases h), fun _ => ?_⟩
      cases dp_non hy
      walk_at "ob"
      refine ⟨fun _ => ⟨fun _ => ?_, fun h => by cases h⟩, fun h => absurd h (by decide)⟩
      walk_at "ob"
      refine ⟨fun _ => ?_, fun h => absurd h (by decide)⟩
      walk_at "ob"
      refine cw_isi hd (n := "str") (b := false) (dp_ex g1 hx) (by simp only [tyD]; decide +kernel) ?_
      walk_at "ob"
      refine cw_isi hd (n := "str") (b := false) (dp_ex g1 hy) (by simp only [tyD]; decide +kernel) ?_
      walk_at "ob"
      exact fin _ (by decide)
    | str z =>
      cases dp_str hx
      refine cw_isi2 hd (b1 := false) (b2 := false) upd_same (dp_ex g1 hy) (by simp only [tyD]; decide +kernel) (by simp only [tyD]; decide +kernel) ?_
      walk_at "ob"
      refine ⟨(fun h => by cases h), fun _ => ?_⟩
      cases dp_str hy
      walk_at "ob"
      refine ⟨fun h => by simp at h, fun _ => ?_⟩
      walk_at "ob"
      refine cw_isi hd (n := "str") (b := true) (dp_ex g1 hy) (by simp only [tyD]; decide +kernel) ?_
      walk_at "ob"
      refine ⟨fun _ => ?_, (fun h => by cases h)⟩
      walk_at "ob"
      refine ⟨fun _ => ?_, fun h => by simp at h⟩
      walk_at "ob"
      refine cw_isi hd (n := "str") (b := true) (dp_ex g1 hx) (by simp only [tyD]; decide +kernel) ?_
      walk_at "ob"
      refine cw_isi hd (n := "str") (b := true) (dp_ex g1 hy) (by simp only [tyD]; decide +kernel) ?_
      walk_at "ob"
      exact fin _ (by decide)
    | bool b =>
      cases dp_bl hx
      refine cw_isi2 hd (b1 := false) (b2 := false) upd_same (dp_ex g1 hy) (by simp only [tyD]; decide +kernel) (by simp only [tyD]; decide +kernel) ?_
      walk_at "ob"
      refine ⟨(fun h => by cases h), fun _ => ?_⟩
      cases dp_bl hy
      walk_at "ob"
      refine ⟨fun h => by simp at h, fun _ => ?_⟩
      walk_at "ob"
      refine cw_isi hd (n := "str") (b := false) (dp_ex g1 hy) (by simp only [tyD]; decide +kernel) ?_
      walk_at "ob"
      refine ⟨(fun h => by cases h), fun _ => ?_⟩
      walk_at "ob"
      refine cw_isi hd (n := "int") (b := true) (dp_ex g1 hx) (by simp only [tyD]; decide +kernel) ?_
      walk_at "ob"
      refine ⟨fun _ => ?_, (fun h => by cases h)⟩
      walk_at "ob"
      refine cw_isi hd (n := "bool") (b := true) (dp_ex g1 hx) (by simp only [tyD]; decide +kernel) ?_
      walk_at "ob"
      refine cw_isi hd (n := "bool") (b := true) (dp_ex g1 hy) (by simp only [tyD]; decide +kernel) ?_
      walk_at "ob"
      refine ⟨fun _ => ?_, fun h => absurd h (by decide)⟩
      walk_at "ob"
      exact fin _ (by simp)
    | int i =>
      cases dp_int hx
      refine cw_isi2 hd (b1 := false) (b2 := false) upd_same (dp_ex g1 hy) (by simp only [tyD]; decide +kernel) (by simp only [tyD]; decide +kernel) ?_
      walk_at "ob"
      refine ⟨(fun h => by cases h), fun _ => ?_⟩
      cases dp_int hy
      walk_at "ob"
      refine ⟨fun h => by simp at h, fun _ => ?_⟩
      walk_at "ob"
      refine cw_isi hd (n := "str") (b := false) (dp_ex g1 hy) (by simp only [tyD]; decide +kernel) ?_
      walk_at "ob"
      refine ⟨(fun h => by cases h), fun _ => ?_⟩
      walk_at "ob"
      refine cw_isi hd (n := "int") (b := true) (dp_ex g1 hx) (by simp only [tyD]; decide +kernel) ?_
      walk_at "ob"
      refine ⟨fun _ => ?_, (fun h => by cases h)⟩
      walk_at "ob"
      refine cw_isi hd (n := "bool") (b := false) (dp_ex g1 hx) (by simp only [tyD]; decide +kernel) ?_
      walk_at "ob"
      refine cw_isi hd (n := "bool") (b := false) (dp_ex g1 hy) (by simp only [tyD]; decide +kernel) ?_
      walk_at "ob"
      refine ⟨fun _ => ?_, fun h => absurd h (by decide)⟩
      walk_at "ob"
      exact fin _ (by simp)
    | list ds =>
      have hz2 : ds.length ≤ 1000 ∧ ∃ n', n = n' + 1 ∧ ds.all (szD n') = true := by
        cases n with
        | zero => simp [szD] at hz
        | succ n' => simp only [szD, Bool.and_eq_true, decide_eq_true_eq] at hz; exact ⟨hz.1, n', rfl, hz.2⟩
      obtain ⟨hlen, n', rfl, hall⟩ := hz2
      refine cw_isi2 hd (b1 := false) (b2 := true) upd_same (dp_ex g1 hy) (by simp only [tyD]; decide +kernel) (by simp only [tyD]; decide +kernel) ?_
      walk_at "ob"
      refine ⟨fun _ => ?_, (fun h => by cases h)⟩
      walk_at "ob"
      refine ⟨by walk_at "ob_len", fun t2 ht2 => ?_⟩
      have g2 : Ex F (upd (upd F t1 (.tup [.ty "tuple", .ty "list"])) t2 (.tup [.ty "tuple", .ty "list"])) := by walk_at "ob_ex"
      walk_at "ob"
      refine cw_isi2 hd (b1 := false) (b2 := true) upd_same (dp_ex g2 hx) (by simp only [tyD]; decide +kernel) (by simp only [tyD]; decide +kernel) ?_
      walk_at "ob"
      refine ⟨(fun h => by cases h), fun _ => ?_⟩
      walk_at "ob"
      refine cw_isi hd (n := "list") (b := true) (dp_ex g2 hx) (by simp only [tyD]; decide +kernel) ?_
      walk_at "ob"
      refine cw_isi hd (n := "list") (b := true) (dp_ex g2 hy) (by simp only [tyD]; decide +kernel) ?_
      walk_at "ob"
      refine ⟨fun h => by simp at h, fun _ => ?_⟩
      obtain ⟨xa, xs, rfl, hxs, hxd⟩ := dp_lst hx
      obtain ⟨ya, ys, rfl, hys, hyd⟩ := dp_lst hy
      have lx : xs.length = ds.length := dps_len hxd
      have ly : ys.length = ds.length := dps_len hyd
      walk_at "ob"
      refine cw_lenS hd (ys := xs) (Or.inl (g2.sqL hxs)) ?_
      walk_at "ob"
      refine cw_lenS hd (ys := ys) (Or.inl (g2.sqL hys)) ?_
      rw [lx, ly]
      walk_at "ob"
      refine ⟨fun h => by simp at h, fun _ => ?_⟩
      walk_at "ob"
      refine ew_lcR hd ?_
      walk_at "ob"
      refine cw_lenS hd (ys := ys) (Or.inl (g2.sqL hys)) ?_
      rw [ly]
      walk_at "ob"
      refine ⟨(ds.length : Int), rfl, by omega, by omega, fun Dl hDl => ?_⟩
      refine ⟨fun i acc _ G => acc = [] ∧ Ex (upd (upd F t1 (.tup [.ty "tuple", .ty "list"])) t2 (.tup [.ty "tuple", .ty "list"])) G, ⟨rfl, .refl _⟩, ?_, ?_, ?_⟩
      · rintro i acc _ G hi hg ⟨rfl, g⟩
        exact Nat.zero_le _
      · rintro i acc _ G hi hg ⟨rfl, g⟩
        have hd' := hd.jd (D := Dl) (acc := [])
        have hil : i < ds.length := by omega
        obtain ⟨vx, ex1, dx⟩ := dps_get hxd (List.getElem?_eq_getElem hil)
        obtain ⟨vy, ey1, dy⟩ := dps_get hyd (List.getElem?_eq_getElem hil)
        have hgx := g2.trans g
        refine gw_name ⟨rfl, ?_⟩
        walk_at "ob"
        refine ew_call hd' ?_
        walk_at "ob"
        refine rw_ixD hd' (Or.inl (hgx.sqL hxs)) ex1 ?_
        walk_at "ob"
        refine rw_ixD hd' (Or.inl (hgx.sqL hys)) ey1 ?_
        walk_at "ob"
        refine ⟨vx, vy, ds[i], rfl, dp_ex hgx dx, dp_ex hgx dy, List.all_eq_true.mp hall _ (List.getElem_mem hil), fun G2 gG => ?_⟩
        walk_at "ob"
        exact ⟨(fun h => by cases h), fun _ => ⟨rfl, g.trans gG⟩⟩
      · rintro acc _ G hg ⟨rfl, g⟩
        walk_at "ob"
        refine ⟨by walk_at "ob_len", fun e1 he1 => ?_⟩
        refine rw_eqD hd (d := .list []) (e := .list []) (.lst (SqL.of (by walk_at "ob_at")) .nil) (.lst (SqL.of upd_same) .nil) (shaped_low (n := 1) rfl) (shaped_low (n := 1) rfl) ?_
        have he2 : G e1 = none := (Ex.out (F := G) (.refl _) hg).free he1
        exact k _ ((g2.trans g).trans (Ex.new (Ex.out (.refl _) hg) he1))
    | tuple ds =>
      have hz2 : ds.length ≤ 1000 ∧ ∃ n', n = n' + 1 ∧ ds.all (szD n') = true := by
        cases n with
        | zero => simp [szD] at hz
        | succ n' => simp only [szD, Bool.and_eq_true, decide_eq_true_eq] at hz; exact ⟨hz.1, n', rfl, hz.2⟩
      obtain ⟨hlen, n', rfl, hall⟩ := hz2
      refine cw_isi2 hd (b1 := true) (b2 := false) upd_same (dp_ex g1 hy) (by simp only [tyD]; decide +kernel) (by simp only [tyD]; decide +kernel) ?_
      walk_at "ob"
      refine ⟨fun _ => ?_, (fun h => by cases h)⟩
      walk_at "ob"
      refine ⟨by walk_at "ob_len", fun t2 ht2 => ?_⟩
      have g2 : Ex F (upd (upd F t1 (.tup [.ty "tuple", .ty "list"])) t2 (.tup [.ty "tuple", .ty "list"])) := by walk_at "ob_ex"
      walk_at "ob"
      refine cw_isi2 hd (b1 := true) (b2 := false) upd_same (dp_ex g2 hx) (by simp only [tyD]; decide +kernel) (by simp only [tyD]; decide +kernel) ?_
      walk_at "ob"
      refine ⟨(fun h => by cases h), fun _ => ?_⟩
      walk_at "ob"
      refine cw_isi hd (n := "list") (b := false) (dp_ex g2 hx) (by simp only [tyD]; decide +kernel) ?_
      walk_at "ob"
      refine cw_isi hd (n := "list") (b := false) (dp_ex g2 hy) (by simp only [tyD]; decide +kernel) ?_
      walk_at "ob"
      refine ⟨fun h => by simp at h, fun _ => ?_⟩
      obtain ⟨xa, xs, rfl, hxs, hxd⟩ := dp_tup hx
      obtain ⟨ya, ys, rfl, hys, hyd⟩ := dp_tup hy
      have lx : xs.length = ds.length := dps_len hxd
      have ly : ys.length = ds.length := dps_len hyd
      walk_at "ob"
      refine cw_lenS hd (ys := xs) (Or.inr (g2.sqT hxs)) ?_
      walk_at "ob"
      refine cw_lenS hd (ys := ys) (Or.inr (g2.sqT hys)) ?_
      rw [lx, ly]
      walk_at "ob"
      refine ⟨fun h => by simp at h, fun _ => ?_⟩
      walk_at "ob"
      refine ew_lcR hd ?_
      walk_at "ob"
      refine cw_lenS hd (ys := ys) (Or.inr (g2.sqT hys)) ?_
      rw [ly]
      walk_at "ob"
      refine ⟨(ds.length : Int), rfl, by omega, by omega, fun Dl hDl => ?_⟩
      refine ⟨fun i acc _ G => acc = [] ∧ Ex (upd (upd F t1 (.tup [.ty "tuple", .ty "list"])) t2 (.tup [.ty "tuple", .ty "list"])) G, ⟨rfl, .refl _⟩, ?_, ?_, ?_⟩
      · rintro i acc _ G hi hg ⟨rfl, g⟩
        exact Nat.zero_le _
      · rintro i acc _ G hi hg ⟨rfl, g⟩
        have hd' := hd.jd (D := Dl) (acc := [])
        have hil : i < ds.length := by omega
        obtain ⟨vx, ex1, dx⟩ := dps_get hxd (List.getElem?_eq_getElem hil)
        obtain ⟨vy, ey1, dy⟩ := dps_get hyd (List.getElem?_eq_getElem hil)
        have hgx := g2.trans g
        refine gw_name ⟨rfl, ?_⟩
        walk_at "ob"
        refine ew_call hd' ?_
        walk_at "ob"
        refine rw_ixD hd' (Or.inr (hgx.sqT hxs)) ex1 ?_
        walk_at "ob"
        refine rw_ixD hd' (Or.inr (hgx.sqT hys)) ey1 ?_
        walk_at "ob"
        refine ⟨vx, vy, ds[i], rfl, dp_ex hgx dx, dp_ex hgx dy, List.all_eq_true.mp hall _ (List.getElem_mem hil), fun G2 gG => ?_⟩
        walk_at "ob"
        exact ⟨(fun h => by cases h), fun _ => ⟨rfl, g.trans gG⟩⟩
      · rintro acc _ G hg ⟨rfl, g⟩
        walk_at "ob"
        refine ⟨by walk_at "ob_len", fun e1 he1 => ?_⟩
        refine rw_eqD hd (d := .list []) (e := .list []) (.lst (SqL.of (by walk_at "ob_at")) .nil) (.lst (SqL.of upd_same) .nil) (shaped_low (n := 1) rfl) (shaped_low (n := 1) rfl) ?_
        have he2 : G e1 = none := (Ex.out (F := G) (.refl _) hg).free he1
        exact k _ ((g2.trans g).trans (Ex.new (Ex.out (.refl _) hg) he1))
    | dict kv => cases hx
end
end Obr
namespace Obr
open PySem L2 PyProof.Rows
section
variable {S : Type} {J : S → Hp → Hp → Prop} {K : PySem.W.Frag} {σ : L2.St} {s : S} {F : Hp} {R : V → S → Hp → Prop} {tn : TE}
end
end Obr
namespace Obr
open PySem PySem.Spec L2 LamX NdefX PyProof.Rows
local macro_rules | `(tactic| walk_at "ob_wat") => `(tactic| first
  | with_reducible refine WAt.g_store (by assumption) ?_
  | with_reducible refine WAt.g_machines (by assumption) ?_
  | with_reducible refine WAt.g_rule (by assumption) ?_
  | with_reducible refine WAt.g_level (by assumption) ?_
  | with_reducible refine WAt.g_at (by assumption) ?_
  | with_reducible refine WAt.g_over (by assumption) ?_
  | with_reducible refine WAt.g_since (by assumption) ?_
  | with_reducible refine WAt.g_last (by assumption) ?_
  | with_reducible refine WAt.g_beat (by assumption) ?_
  | with_reducible refine WAt.g_done (by assumption) ?_
  | with_reducible refine WAt.g_waits (by assumption) ?_
  | with_reducible refine WAt.g_ends (by assumption) ?_
  | ((with_reducible refine' WAt.r_at_ (t := ?_) (m := ?_) ?obw ?obd ?obm ?_); (case obw => assumption); (case obd => assumption); (case obm => assumption))
  | ((with_reducible refine' WAt.r_over (t := ?_) (m := ?_) ?obw ?obd ?obm ?_); (case obw => assumption); (case obd => assumption); (case obm => assumption))
  | ((with_reducible refine' WAt.r_since (t := ?_) (m := ?_) ?obw ?obd ?obm ?_); (case obw => assumption); (case obd => assumption); (case obm => assumption))
  | ((with_reducible refine' WAt.r_done (t := ?_) (m := ?_) ?obw ?obd ?obm ?_); (case obw => assumption); (case obd => assumption); (case obm => assumption))
  | ((with_reducible refine' WAt.r_waits (t := ?_) (m := ?_) ?obw ?obd ?obm ?_); (case obw => assumption); (case obd => assumption); (case obm => assumption))
  | ((with_reducible refine' WAt.r_right ?obw ?obd ?_); (case obw => assumption); (case obd => assumption))
  | ((with_reducible refine' WAt.r_pass ?obw ?obd ?_); (case obw => assumption); (case obd => assumption)))
local macro_rules | `(tactic| walk_at "ob_at") => `(tactic| first
  | assumption
  | exact upd_same
  | (refine Eq.trans (upd_ne ?obn) ?obr; (case obn => walk_at "ob_ne"); (case obr => walk_at "ob_at")))
local macro_rules | `(tactic| walk_at "ob_ne") => `(tactic| first
  | assumption
  | (refine Ne.symm ?obs; (case obs => assumption))
  | (refine' ne_of_none (H := ?_) ?obe ?obh; (case obh => assumption); (case obe => walk_at "ob_at"))
  | (refine Ne.symm ?obs; (case obs => (refine' ne_of_none (H := ?_) ?obe ?obh; (case obh => assumption); (case obe => walk_at "ob_at")))))
local macro_rules | `(tactic| walk_at "ob_fr") => `(tactic| first
  | assumption
  | (refine Eq.trans (upd_ne ?obn) ?obr; (case obn => walk_at "ob_ne"); (case obr => walk_at "ob_fr"))
  | (refine Ex.free (G := ?_) (by assumption) ?obh; (case obh => walk_at "ob_fr")))
local macro_rules | `(tactic| walk_at "ob_ex") => `(tactic| first
  | assumption
  | exact Ex.refl _
  | (refine Ex.out ?obg ?obh; (case obh => assumption); (case obg => walk_at "ob_ex"))
  | (refine Ex.new ?obg ?obh; (case obh => assumption); (case obg => walk_at "ob_ex"))
  | (refine Ex.new ?obg ?obh; (case obh => walk_at "ob_fr"); (case obg => walk_at "ob_ex")))
local macro_rules | `(tactic| walk_at "ob_sq") => `(tactic| first
  | assumption
  | (refine SqL.of ?oba; (case oba => walk_at "ob_at"))
  | (refine Ex.sqT (F := ?_) ?obg ?obh; (case obh => assumption); (case obg => walk_at "ob_ex"))
  | (refine Ex.sqL (F := ?_) ?obg ?obh; (case obh => assumption); (case obg => walk_at "ob_ex"))
  | (refine SqT.of ?oba; (case oba => walk_at "ob_at")))
local macro_rules | `(tactic| walk_at "ob_side") => `(tactic| first | exact rfl | assumption | decide | omega | exact ⟨by decide, by decide, by decide⟩ | exact Or.inr ⟨by decide, by decide⟩ | exact Or.inl ⟨by decide, by decide⟩ | exact wide_div (b := 60) (by first | decide | omega) (by first | decide | omega) (by decide) (by decide))
local macro_rules | `(tactic| walk_at "ob1") => `(tactic| first
  | walk_at "ob_wat"
  | with_reducible refine sw_seq ?_
  | with_reducible refine sw_asg ?_
  | with_reducible refine sw_ret ?_
  | with_reducible refine sw_par ?_
  | with_reducible refine ⟨_, _, rfl, ?_⟩
  | with_reducible refine sw_drop ?_
  | with_reducible refine sw_if ?_
  | with_reducible refine sw_next ?_
  | with_reducible refine gw_name ?_
  | with_reducible refine gw_subL (by assumption) ?_
  | with_reducible refine gsw_cons ?_
  | with_reducible refine gsw_nil ?_
  | with_reducible refine ew_c ?_
  | ((with_reducible refine' ew_var (v := ?_) ?obv ?_); (case obv => exact rfl))
  | ((with_reducible refine ew_next (by assumption) ?obv ?_); (case obv => exact rfl))
  | ((with_reducible refine ew_world (by assumption) ?obv ?_); (case obv => exact rfl))
  | ((with_reducible refine ew_rule (by assumption) ?obv ?_); (case obv => exact rfl))
  | with_reducible refine ew_op ?_
  | with_reducible refine ew_un ?_
  | with_reducible refine ew_dget (by assumption) ?_
  | with_reducible refine uw_I ?_
  | with_reducible refine ppw_nil ?_
  | with_reducible refine ppw_cons ?_
  | with_reducible refine sw_dput (by assumption) ?_
  | with_reducible refine ew_cb ?_
  | with_reducible refine ew_if ?_
  | with_reducible refine ew_slL (by assumption) ?_
  | with_reducible refine ow_some ?_
  | with_reducible refine ow_none ?_
  | with_reducible refine aw_nil ?_
  | with_reducible refine aw_cons ?_
  | with_reducible refine rw_I0 ?_
  | ((with_reducible refine rw_I ?obc ?_); (case obc => walk_at "ob_side"))
  | with_reducible refine rw_isN ?_
  | with_reducible refine rw_notN ?_
  | ((with_reducible refine rw_eq ?obc ?_); (case obc => exact rfl))
  | ((with_reducible refine rw_ne ?obc ?_); (case obc => exact rfl))
  | with_reducible refine cw_max2 ?_
  | with_reducible refine cw_min2 ?_
  | with_reducible refine tw_test ?_
  | with_reducible refine tw_B ?_
  | with_reducible refine tw_not ?_
  | with_reducible refine tw_truB ?_
  | with_reducible refine tw_and ?_
  | with_reducible refine tw_or ?_
  | with_reducible refine ew_and ?_
  | (refine' Exists.intro _ (And.intro (show V.bl _ = V.bl _ from rfl) ?_))
  | (refine' Exists.intro _ (And.intro (show V.int _ = V.int _ from rfl) ?_))
  | ((with_reducible refine' rw_ixL (v := ?_) (xs := ?_) (by assumption) ?obl ?oba ?_); (case obl => walk_at "ob_sq"); (case oba => first | exact rfl | exact at_zero))
  | ((with_reducible refine' rw_ixT (v := ?_) (xs := ?_) (by assumption) ?obl ?oba ?_); (case obl => walk_at "ob_sq"); (case oba => first | exact rfl | exact at_zero))
  | ((with_reducible refine' ew_lst (by assumption) ?_))
  | ((with_reducible refine' ew_tup (by assumption) ?_)))
local macro_rules | `(tactic| walk_at "ob_len") => `(tactic| first | exact Nat.le_of_ble_eq_true rfl | (simp; done) | omega)
local macro_rules | `(tactic| walk_at "ob") => `(tactic| repeat walk_at "ob1")
section
variable {S : Type} {J : S → Hp → Hp → Prop} {K : PySem.W.Frag} {σ : L2.St} {s : S} {F : Hp} {R : V → S → Hp → Prop} {te : TE}
/-- z[lo:hi] of a text -/
theorem ew_slS {tl th : TO} (h : EW J te σ s F fun x s1 F1 => OW J tl σ s1 F1 fun lo s2 F2 => OW J th σ s2 F2 fun hi s3 F3 => ∃ z : Str, x = .str z ∧ z.length ≤ sizeLine ∧ R (.str (cutS z lo hi)) s3 F3) : EW J (tSl rSlS te tl th) σ s F R := fun H j Q q =>
  h H j _ fun x s1 F1 H1 j1 h1 => h1 H1 j1 _ fun lo s2 F2 H2 j2 h2 => h2 H2 j2 _ fun hi s3 F3 H3 j3 ⟨z, e, hz, k⟩ => ⟨z, e, hz, q _ _ _ _ j3 k⟩
end
theorem cut_strs (ys : List Str) (lo hi : Option Int) : ∃ zs : List Str, cutV (ys.map V.str) lo hi = zs.map V.str ∧ zs.length ≤ ys.length ∧ ∀ z ∈ zs, z ∈ ys := by
  unfold cutV
  rw [← List.map_drop, ← List.map_take]
  refine ⟨_, rfl, ?_, fun z hz => List.mem_of_mem_drop (List.mem_of_mem_take hz)⟩
  rw [List.length_take, List.length_drop]
  omega
/-- a list of short texts -/
def TxL (K : PySem.W.Frag) (n : Nat) (F : Hp) (v : V) : Prop := ∃ (a : Addr) (ys : List Str), v = .ref a ∧ SqL K F a (ys.map V.str) ∧ ys.length ≤ n ∧ ∀ y ∈ ys, y.length ≤ 70
theorem TxL.ex {K : PySem.W.Frag} {n : Nat} {F G : Hp} {v : V} (h : TxL K n F v) (g : Ex F G) : TxL K n G v := by
  obtain ⟨a, ys, e, l, h1, h2⟩ := h
  exact ⟨a, ys, e, g.sqL l, h1, h2⟩
section
variable {S : Type} {J : S → Hp → Hp → Prop} {K : PySem.W.Frag} {σ : L2.St} {s : S} {F : Hp} {R : V → S → Hp → Prop} {te : TE}
theorem ew_revL (hd : Hid J) (h : EW J te σ s F fun x s1 F1 => ∃ a xs, x = .ref a ∧ SqL K F1 a xs ∧ ∀ p, F1 p = none → R (.ref p) s1 (upd F1 p (.lst xs.reverse))) : EW J (tRevL K te) σ s F R := fun H j Q q =>
  h H j _ fun x s1 F1 H1 j1 ⟨a, xs, e, l, k⟩ => ⟨a, xs, e, hd.sqL j1 l, fun p hp => q _ _ _ _ (hd.al j1 hp) (k p (hd.fresh j1 hp))⟩
end
theorem cutS_len (z : Str) (lo hi : Option Int) : (cutS z lo hi).length ≤ z.length := by
  rw [TL.len_tl, TL.len_tl z]
  show ((TL.tl z).drop _ |>.take _).length ≤ _
  rw [List.length_take, List.length_drop]
  omega
def odds : List Str := ["", "store", "store 1 2", "store 1  2 3", "store 01 0 1", "store 100 0 1", "store 0 0 0", "store 5 6 0", "store 5 5 10", "machine 1,1", "machine 1,1,1,1", "machine 1,0,0", "machine 1,1,2", "machine x,1,0", "machine 1,1,0 ", "Machine", "machine 99,1,0", " machine", "machine 1,10,0", "machine 00,1,0", "machine 0,1,0 0,1,0 0,1,0 0,1,0 0,1,0 0,1,0 0,1,0"]
theorem odds_ok : odds.length = 21 ∧ ∀ y ∈ odds, y.length ≤ 70 := ⟨rfl, by decide +kernel⟩
theorem bad_none {c : Int} : ∀ {l : List Stp} {i : Nat}, i ≤ 6 → badAt c i l = none → i + l.length ≤ 6
  | [], i, h, _ => h
  | st :: r, i, h, e => by
    have e' : (if i = 6 ∨ stepB c st = false then some i else badAt c (i + 1) r) = none := e
    by_cases hb : i = 6 ∨ stepB c st = false
    · rw [if_pos hb] at e'; cases e'
    · rw [if_neg hb] at e'
      have := bad_none (l := r) (i := i + 1) (by have : i ≠ 6 := fun z => hb (.inl z); omega) e'
      rw [List.length_cons]
      omega
theorem ms_none {c : Int} : ∀ {l : List (List Stp)} {i : Nat}, i ≤ 5 → badMs c i l = none → i + l.length ≤ 5 ∧ ∀ ss ∈ l, ss.length ≤ 6
  | [], i, h, _ => ⟨h, fun _ z => by cases z⟩
  | ss :: r, i, h, e => by
    have e' : (if i = 5 then some (5, 0) else match badAt c 0 ss with | some j => some (i, j) | none => badMs c (i + 1) r) = none := e
    by_cases hb : i = 5
    · rw [if_pos hb] at e'; cases e'
    · rw [if_neg hb] at e'
      cases q : badAt c 0 ss with
      | some j => rw [q] at e'; cases e'
      | none =>
        rw [q] at e'
        obtain ⟨z1, z2⟩ := ms_none (l := r) (i := i + 1) (by omega) e'
        refine ⟨by rw [List.length_cons]; omega, fun x hx => ?_⟩
        rcases List.mem_cons.mp hx with rfl | hx
        · have := bad_none (by omega) q; omega
        · exact z2 x hx
theorem told_small {z : Str} {w : Wld} (h : verdict z = .told w) : w.ms.length ≤ 5 ∧ ∀ ss ∈ w.ms, ss.length ≤ 6 := by
  have key : ∀ w', worldV w' = .told w → w.ms.length ≤ 5 ∧ ∀ ss ∈ w.ms, ss.length ≤ 6 := fun w' h => by
    unfold worldV at h
    split at h
    · split at h
      · cases h
      · rename_i e
        cases h
        obtain ⟨z1, z2⟩ := ms_none (by omega) e
        exact ⟨by omega, z2⟩
    · cases h
  unfold verdict at h
  split at h
  · cases h
  · split at h
    · split at h
      · cases h
      · exact key _ h
    · cases h
theorem sz_vd {z : Str} : szD 6 (vdD (verdict z)) = true := by
  have s1 : szD 5 (.str "text") = true := by decide +kernel
  have s2 : szD 5 (.str "step") = true := by decide +kernel
  have s3 : szD 5 (.str "told") = true := by decide +kernel
  cases hv : verdict z with
  | text k =>
    show (true && (szD 5 (.str "text") && (true && true))) = true
    rw [s1]
    rfl
  | store => decide +kernel
  | step k j =>
    show (true && (szD 5 (.str "step") && (true && true))) = true
    rw [s2]
    rfl
  | told w =>
    obtain ⟨h1, h2⟩ := told_small hv
    have hm : szD 4 (.tuple (w.ms.map macD)) = true := by
      show (decide ((w.ms.map macD).length ≤ 1000) && (w.ms.map macD).all (szD 3)) = true
      rw [decide_eq_true (by rw [List.length_map]; omega), Bool.true_and, List.all_eq_true]
      intro x hx
      obtain ⟨ss, hs, rfl⟩ := List.mem_map.mp hx
      have := h2 ss hs
      show (decide ((ss.map stpD).length ≤ 1000) && (ss.map stpD).all (szD 2)) = true
      rw [decide_eq_true (by rw [List.length_map]; omega), Bool.true_and, List.all_eq_true]
      intro y hy
      obtain ⟨st, _, rfl⟩ := List.mem_map.mp hy
      rfl
    have h3 : szD 4 (.tuple [.int w.cap, .int w.start, .int w.refill]) = true := rfl
    have h5 : szD 5 (wldD w) = true := by
      show (true && (szD 4 (.tuple [.int w.cap, .int w.start, .int w.refill]) && (szD 4 (.tuple (w.ms.map macD)) && true))) = true
      rw [h3, hm]
      rfl
    show (true && (szD 5 (.str "told") && (szD 5 (wldD w) && true))) = true
    rw [h5, s3]
    rfl
section
variable {S : Type} {J : S → Hp → Hp → Prop} {K : PySem.W.Frag} {σ : L2.St} {s : S} {F : Hp} {R : V → S → Hp → Prop} {te : TE}
theorem ew_slX (hd : Hid J) {tl th : TO} {rows : List Str} {la : Addr} (h : EW J te σ s F fun x s1 F1 => OW J tl σ s1 F1 fun lo s2 F2 => OW J th σ s2 F2 fun hi s3 F3 => x = .ref la ∧ SqL K F3 la (rows.map V.str) ∧ ∀ (q : Addr) (G' : Hp) (zs : List Str), Ex F3 G' → G' q = some (.lst (zs.map V.str)) → zs.length ≤ rows.length → (∀ z ∈ zs, z ∈ rows) → R (.ref q) s3 G') : EW J (tSl (rSlL K) te tl th) σ s F R :=
  fun H j Q q => h H j _ fun x s1 F1 H1 j1 h1 => h1 H1 j1 _ fun lo s2 F2 H2 j2 h2 => h2 H2 j2 _ fun hi s3 F3 H3 j3 ⟨ex, l, k⟩ => ⟨la, _, ex, hd.sqL j3 l, fun p hp => by
    obtain ⟨zs, e, h1, h2⟩ := cut_strs rows lo hi
    rw [e]
    exact q _ _ _ _ (hd.al j3 hp) (k p _ zs (Ex.new (.refl _) (hd.fresh j3 hp)) upd_same h1 h2)⟩
theorem rw_catX (hd : Hid J) {l b : Addr} {xs zs : List Str} (h1 : F l = some (.lst (xs.map V.str))) (h2 : F b = some (.lst (zs.map V.str))) (hl : xs.length + zs.length ≤ 1000) (h : ∀ (q : Addr) (G' : Hp), Ex F G' → G' q = some (.lst ((xs ++ zs).map V.str)) → R (.ref q) s G') : RW J rCat (.ref l) (.ref b) s F R :=
  rw_cat hd h1 h2 (by rw [List.length_map, List.length_map]; omega) fun p hp => h p _ (Ex.new (.refl _) hp) (by rw [upd_same, List.map_append])
end
theorem TxL.put {K : PySem.W.Frag} {n : Nat} {G : Hp} {v x : V} {ps : Addr} {t : List V} {o : HO} (h : TxL K n G v) (e : G ps = some (.lst (x :: t))) (hx : ∃ a, x = .ref a) : TxL K n (upd G ps o) v := by
  obtain ⟨a, ys, ev, l, h1, h2⟩ := h
  refine ⟨a, ys, ev, ?_, h1, h2⟩
  obtain ⟨b, rfl⟩ := hx
  rcases l with (l | ⟨o', l⟩) | l
  · by_cases c : a = ps
    · rw [c, e] at l
      exfalso
      injection l with l
      injection l with l
      cases ys with
      | nil => cases l
      | cons y r => injection l with l _; cases l
    · exact .inl (.inl (by rw [upd_ne c]; exact l))
  · by_cases c : a = ps
    · rw [c, e] at l
      cases l
    · exact .inl (.inr ⟨o', by rw [upd_ne c]; exact l⟩)
  · exact .inr l
theorem low_si {x : Str} {i : Int} (h : PyData.strOk x = true) : lowD 2 (.tuple [.str x, .int i]) = true := by
  show (PyData.strOk x && (true && true)) = true
  rw [h]
  rfl
theorem low_st {x : Str} {i j : Int} (h : PyData.strOk x = true) : lowD 2 (.tuple [.str x, .tuple [.int i, .int j]]) = true := by
  show (PyData.strOk x && (true && true)) = true
  rw [h]
  rfl
theorem ok_words : PyData.strOk ("text" : Str) = true ∧ PyData.strOk ("store" : Str) = true ∧ PyData.strOk ("step" : Str) = true ∧ PyData.strOk ("" : Str) = true := by decide +kernel
theorem eqv_head {x y : PyData} {s : Str} (h : PyData.eqv (.str s) (.str "") = false) : PyData.eqv (.tuple [.str s, x]) (.tuple [.str "", y]) = false := by
  show (PyData.eqv (.str s) (.str "") && _) = false
  rw [h]
  rfl
theorem ne_words : PyData.eqv (.str "text") (.str "") = false ∧ PyData.eqv (.str "store") (.str "") = false ∧ PyData.eqv (.str "step") (.str "") = false ∧ PyData.eqv (.tuple [.str "", .int 0]) (.tuple [.str "", .int 0]) = true := by decide +kernel

/-! ### the law -/
def aLaw (K : PySem.W.Frag) (Pt : Addr) : List V → Hp → VK → Prop := fun vs F R => ∃ (a : Addr) (ns : List Int), vs = [.ref a] ∧ SqL K F a (ns.map V.int) ∧ ns.length ≤ 63 ∧ F Pt = some (.tbl #[]) ∧ ∀ F', R (.bl true) F'
section
variable {P : Program} {w : World} {K : PySem.W.Frag} {mg : Str → Option Value} {base : Heap}

def N_law : List Str := ["_law_script", "_law_h", "_law_odd", "_law_turn", "_law_lines", "_law_at", "_law_wish", "_law_some", "_law_text_here", "_law_spot", "_law_bent", "_law_one", "_law_found", "_law_kind_here", "_law_told"]
theorem sc_law : FnScope N_law ["_law_script"] (defScope s_law) := ⟨rfl, rfl, rfl, by decide +kernel, rfl, by decide +kernel, by decide +kernel⟩
theorem ok_law {f : Addr} {fd : FuncData} {f1 f2 f3 f4 f5 f6 f7 f8 : Addr} {fd1 fd2 fd3 fd4 fd5 fd6 fd7 fd8 : FuncData} {cBadText cBadStore cBadStep cLaw Pt : Addr} (Fn : Fun K "law" "law" s_law f fd) (B : Blt mg) (C_law_mix : Cal K mg "_law_mix" f1 fd1 ["_law_script", "_law_seed"]) (G_law_mix : FnOk P w K mg base CX0 1 f1 fd1 ["_law_script", "_law_seed"] (LS (aMix K))) (C_law_world : Cal K mg "_law_world" f2 fd2 ["_law_h", "_law_most", "_law_cap"]) (G_law_world : FnOk P w K mg base CX0 2 f2 fd2 ["_law_h", "_law_most", "_law_cap"] (LN (aWorld K))) (C_law_next : Cal K mg "_law_next" f3 fd3 ["_law_h", "_law_many"]) (G_law_next : FnOk P w K mg base CX0 1 f3 fd3 ["_law_h", "_law_many"] (LN aNext)) (C_law_alike : Cal K mg "_law_alike" f4 fd4 ["_law_found", "_law_due_here"]) (G_law_alike : FnOk P w K mg base CX0 7 f4 fd4 ["_law_found", "_law_due_here"] (LS (aAlike K 7))) (C_law_text : Cal K mg "_law_text" f5 fd5 ["_law_world_here"]) (G_law_text : FnOk P w K mg base CX0 1 f5 fd5 ["_law_world_here"] (LS (aLText K))) (C_law_due : Cal K mg "_law_due" f6 fd6 ["_law_text_here"]) (G_law_due : FnOk P w K mg base CX0 2 f6 fd6 ["_law_text_here"] (LS (aDue K))) (Cread : Cal K mg "read" f7 fd7 ["text"]) (Gread : FnOk P w K mg base (L2.CX P w) 5 f7 fd7 ["text"] (LB (aReadB K cBadText cBadStore cBadStep))) (C_law_kind : Cal K mg "_law_kind" f8 fd8 ["_law_call"]) (G_law_kind : GOk P w K mg base C8.CX0 (L2.CX P w) 8 7 f8 (kindB cBadText cBadStep cBadStore)) (TB : TabB base mg cLaw Pt) (hcd : fd.code = .ref cLaw) : FnOk P w K mg base CX0 9 f fd ["_law_script"] (LS (aLaw K Pt)) := by
  refine Fun.okC Fn sc_law (fun vs H Q E h => ?_) (fun cdv hcdv A outer s H vs Q E hr h => ?_)
  · obtain ⟨J, F, R, hd, j, h, _⟩ := h
    obtain ⟨a, ns, rfl, _⟩ := h
    rfl
  · have nd := sc_law.nd
    obtain ⟨J, F, R, hd, j, h, q⟩ := h
    obtain ⟨a, ns, rfl, hl, hn, hPt, k⟩ := h
    have hcode0 : cdv = .ref cLaw := hcdv.symm.trans hcd
    subst hcode0
    have hcode : (cxOf CX0 P w K mg base N_law "law" (defScope s_law) f (.ref cLaw) A outer s H E).nox.env.code = .ref cLaw := rfl
    refine ⟨_, (pss_cons (ps_set (i := 1) nd rfl (Or.inl rfl) (pe_call G_law_mix (by exact hr.mono (by decide)) (by rfl) C_law_mix.g C_law_mix.k C_law_mix.a .nil pass0 (pa_cons (pv 0) (pa_cons pe_int pa_nil))))
      (pss_cons (ps_set (i := 2) nd rfl (Or.inl rfl) (pe_lst (pa_cons pe_str (pa_cons pe_str (pa_cons pe_str (pa_cons pe_str (pa_cons pe_str (pa_cons pe_str (pa_cons pe_str (pa_cons pe_str (pa_cons pe_str pa_nil)))))))))))
      (pss_cons (ps_set (i := 2) nd rfl (Or.inl rfl) (pe_op op_cat (pv 2) (pe_lst (pa_cons pe_str (pa_cons pe_str (pa_cons pe_str (pa_cons pe_str (pa_cons pe_str (pa_cons pe_str (pa_cons pe_str pa_nil))))))))))
      (pss_cons (ps_set (i := 2) nd rfl (Or.inl rfl) (pe_op op_cat (pv 2) (pe_lst (pa_cons pe_str (pa_cons pe_str (pa_cons pe_str (pa_cons pe_str (pa_cons pe_str pa_nil))))))))
      (pss_cons (ps_for PassesOwn.never rfl (pi_range1 rfl B.range (pa_cons pe_int pa_nil)) (pg_name (i := 3) nd rfl (Or.inl rfl)) (pss_cons (ps_set (i := 4) nd rfl (Or.inl rfl) (pe_split (pe_call G_law_text (by exact hr.mono (by decide)) (by rfl) C_law_text.g C_law_text.k C_law_text.a .nil pass0 (pa_cons (pe_call G_law_world (by exact hr.mono (by decide)) (by rfl) C_law_world.g C_law_world.k C_law_world.a .nil pass0 (pa_cons (pv 1) (pa_cons pe_int (pa_cons pe_int pa_nil)))) pa_nil)) pe_str))
      (pss_cons (ps_par (i := 5) (j := 6) rfl nd rfl rfl (by decide) rfl rfl (pa_cons (pe_call G_law_next (by exact hr.mono (by decide)) (by rfl) C_law_next.g C_law_next.k C_law_next.a .nil pass0 (pa_cons (pv 1) (pa_cons (pe_callB call_len_seq (by rfl) B.len (by decide +kernel) (pa_cons (pv 4) pa_nil)) pa_nil))) (pa_cons (pe_call G_law_next (by exact hr.mono (by decide)) (by rfl) C_law_next.g C_law_next.k C_law_next.a .nil pass0 (pa_cons (pv 1) (pa_cons pe_int pa_nil))) pa_nil)) (by rfl))
      (pss_cons (ps_set (i := 7) nd rfl (Or.inl rfl) (pe_lst (pa_cons (pe_op op_cat (pe_slice sl_list (pv 4) po_none (po_some (pv 5))) (pe_slice sl_list (pv 4) (po_some (pe_op op_add (pv 5) pe_int)) po_none)) (pa_cons (pe_op op_cat (pe_slice sl_list (pv 4) po_none (po_some (pe_op op_add (pv 5) pe_int))) (pe_slice sl_list (pv 4) (po_some (pv 5)) po_none)) (pa_cons (pv 4) (pa_cons (pe_revL (pv 4)) pa_nil))))))
      (pss_cons (ps_expr (pe_bm PySem.F.plainAttrs_list PySem.F.slot_list_append PySem.F.type_list_append mt_append (pv 7) (pa_cons (pe_op op_cat (pe_op op_cat (pe_slice sl_list (pv 4) po_none (po_some (pv 5))) (pe_lst (pa_cons (pe_ix ix_list (pv 2) (pe_call G_law_next (by exact hr.mono (by decide)) (by rfl) C_law_next.g C_law_next.k C_law_next.a .nil pass0 (pa_cons (pv 1) (pa_cons pe_int pa_nil))) (fun _ _ => rfl)) pa_nil))) (pe_slice sl_list (pv 4) (po_some (pe_op op_add (pv 5) pe_int)) po_none)) pa_nil)))
      (pss_cons (ps_expr (pe_bm PySem.F.plainAttrs_list PySem.F.slot_list_append PySem.F.type_list_append mt_append (pv 7) (pa_cons (pe_op op_cat (pv 4) (pe_lst (pa_cons (pe_ix ix_list (pv 2) (pe_op op_add pe_int (pe_call G_law_next (by exact hr.mono (by decide)) (by rfl) C_law_next.g C_law_next.k C_law_next.a .nil pass0 (pa_cons (pv 1) (pa_cons pe_int pa_nil)))) (fun _ _ => rfl)) pa_nil))) pa_nil)))
      (pss_cons (ps_set (i := 8) nd rfl (Or.inl rfl) (pe_join pe_str (pe_ix ix_list (pv 7) (pv 6) (fun _ _ => rfl))))
      (pss_cons (ps_set (i := 9) nd rfl (Or.inl rfl) (pe_call G_law_next (by exact hr.mono (by decide)) (by rfl) C_law_next.g C_law_next.k C_law_next.a .nil pass0 (pa_cons (pv 1) (pa_cons (pe_op op_add (pe_callB call_len_str (by rfl) B.len (by decide +kernel) (pa_cons (pv 8) pa_nil)) pe_int) pa_nil))))
      (pss_cons (ps_set (i := 10) nd rfl (Or.inl rfl) (pe_op op_add_str (pe_op op_add_str (pe_slice sl_str (pv 8) po_none (po_some (pv 9))) (pe_ix ix_str pe_str (pe_call G_law_next (by exact hr.mono (by decide)) (by rfl) C_law_next.g C_law_next.k C_law_next.a .nil pass0 (pa_cons (pv 1) (pa_cons pe_int pa_nil))) (fun _ _ => rfl))) (pe_slice sl_str (pv 8) (po_some (pe_op op_add (pv 9) (pe_call G_law_next (by exact hr.mono (by decide)) (by rfl) C_law_next.g C_law_next.k C_law_next.a .nil pass0 (pa_cons (pv 1) (pa_cons pe_int pa_nil))))) po_none)))
      (pss_one (ps_for PassesOwn.never rfl (pi_tup (pe_tup (pa_cons (pv 8) (pa_cons (pv 10) (pa_cons (pe_op op_add_str (pv 8) pe_str) pa_nil))))) (pg_name (i := 11) nd rfl (Or.inr rfl)) (pss_cons (ps_set (i := 12) nd rfl (Or.inr rfl) (pe_lst pa_nil))
      (pss_cons (ps_set (i := 13) nd rfl (Or.inl rfl) (pe_kcall (pa_cons (pe_lamb (T := lamT Pt) (nm := fun _ _ => lamQ) TB hcode (List.mem_singleton_self _) (by rfl) (fun p hp hq => by rw [List.mem_singleton.mp hp]) (ndef_free (nsc := lamScope lam1) (sc := defScope s_law) (fr := ["_law_found", "_law_one"]) (by decide +kernel)) (by rfl)) pa_nil) (by rfl) C_law_kind.g C_law_kind.k G_law_kind hr (Nat.le_refl _)))
      (pss_cons (ps_set (i := 14) nd rfl (Or.inl rfl) (pe_ifExp (pt_cmpR (op_eqD (by exact hr.units)) (pv 13) (pe_tup (pa_cons pe_str (pa_cons pe_int pa_nil))) (nomark _)) (pe_tup (pa_cons pe_str (pa_cons (pe_ix ix_list (pv 12) pe_int (fun _ _ => rfl)) pa_nil))) (pv 13)))
      (pss_one (ps_if (pt_not (pt_val (pe_call G_law_alike (by exact hr.mono (by decide)) (by rfl) C_law_alike.g C_law_alike.k C_law_alike.a .nil pass0 (pa_cons (pv 14) (pa_cons (pe_call G_law_due (by exact hr.mono (by decide)) (by rfl) C_law_due.g C_law_due.k C_law_due.a .nil pass0 (pa_cons (pv 11) pa_nil)) pa_nil))))) (pss_one (ps_ret pe_bl)) pss_nil))))))))))))))))
      (pss_one (ps_ret pe_bl))))))), ?_⟩
    refine LS.body j q ?_
    refine sw_seq (sw_asg (ew_call hd ?_))
    walk_at "ob"
    refine ⟨a, ns, 41, rfl, hl, by decide, by decide, fun m c hh m0 m1 hc hh0 hne => gw_name ?_⟩
    refine sw_hide hc hh0 hne m0 m1 hn (fun _ F => k F) ?_
    have hdj := hd.hj (h := hh) (c := c)
    have hT0 : TabsN (lamT Pt) F := fun p hp => by rw [List.mem_singleton.mp hp]; exact TabN.nil hPt
    have hnm : ∀ q ∈ lamT Pt, q.1 = Pt → q.2 = fun _ _ => lamQ := fun q hq _ => by rw [List.mem_singleton.mp hq]
    refine sw_seq (sw_asg (ew_lst hdj (aw_cons (ew_c (aw_cons (ew_c (aw_cons (ew_c (aw_cons (ew_c (aw_cons (ew_c (aw_cons (ew_c (aw_cons (ew_c (aw_cons (ew_c (aw_cons (ew_c (aw_nil ⟨by walk_at "ob_len", fun p1 hp1 => gw_name ?_⟩)))))))))))))))))))))
    refine sw_seq (sw_asg (ew_op (ew_var rfl (ew_lst hdj (aw_cons (ew_c (aw_cons (ew_c (aw_cons (ew_c (aw_cons (ew_c (aw_cons (ew_c (aw_cons (ew_c (aw_cons (ew_c (aw_nil ⟨by walk_at "ob_len", fun p2 hp2 => rw_cat hdj ((Ex.new (.refl _) hp2) _ _ upd_same) upd_same (by simp) fun p3 hp3 => gw_name ?_⟩)))))))))))))))))))
    refine sw_seq (sw_asg (ew_op (ew_var rfl (ew_lst hdj (aw_cons (ew_c (aw_cons (ew_c (aw_cons (ew_c (aw_cons (ew_c (aw_cons (ew_c (aw_nil ⟨by walk_at "ob_len", fun p4 hp4 => rw_cat hdj ((Ex.new (.refl _) hp4) _ _ upd_same) upd_same (by simp) fun od hp5 => gw_name ?_⟩)))))))))))))))
    have x1 := Ex.new (.refl F) hp1 (u := .lst [V.str "", V.str "store", V.str "store 1 2", V.str "store 1  2 3", V.str "store 01 0 1", V.str "store 100 0 1", V.str "store 0 0 0", V.str "store 5 6 0", V.str "store 5 5 10"])
    have x2 := Ex.new x1 hp2 (u := .lst [V.str "machine 1,1", V.str "machine 1,1,1,1", V.str "machine 1,0,0", V.str "machine 1,1,2", V.str "machine x,1,0", V.str "machine 1,1,0 ", V.str "Machine"])
    have x3 := Ex.new x2 hp3 (u := .lst ([V.str "", V.str "store", V.str "store 1 2", V.str "store 1  2 3", V.str "store 01 0 1", V.str "store 100 0 1", V.str "store 0 0 0", V.str "store 5 6 0", V.str "store 5 5 10"] ++ [V.str "machine 1,1", V.str "machine 1,1,1,1", V.str "machine 1,0,0", V.str "machine 1,1,2", V.str "machine x,1,0", V.str "machine 1,1,0 ", V.str "Machine"]))
    have x4 := Ex.new x3 hp4 (u := .lst [V.str "machine 99,1,0", V.str " machine", V.str "machine 1,10,0", V.str "machine 00,1,0", V.str "machine 0,1,0 0,1,0 0,1,0 0,1,0 0,1,0 0,1,0 0,1,0"])
    have x5 := Ex.new x4 hp5 (u := .lst (([V.str "", V.str "store", V.str "store 1 2", V.str "store 1  2 3", V.str "store 01 0 1", V.str "store 100 0 1", V.str "store 0 0 0", V.str "store 5 6 0", V.str "store 5 5 10"] ++ [V.str "machine 1,1", V.str "machine 1,1,1,1", V.str "machine 1,0,0", V.str "machine 1,1,2", V.str "machine x,1,0", V.str "machine 1,1,0 ", V.str "Machine"]) ++ [V.str "machine 99,1,0", V.str " machine", V.str "machine 1,10,0", V.str "machine 00,1,0", V.str "machine 0,1,0 0,1,0 0,1,0 0,1,0 0,1,0 0,1,0 0,1,0"]))
    have hod0 : SqL K (upd (upd (upd (upd (upd F p1 (.lst [V.str "", V.str "store", V.str "store 1 2", V.str "store 1  2 3", V.str "store 01 0 1", V.str "store 100 0 1", V.str "store 0 0 0", V.str "store 5 6 0", V.str "store 5 5 10"])) p2 (.lst [V.str "machine 1,1", V.str "machine 1,1,1,1", V.str "machine 1,0,0", V.str "machine 1,1,2", V.str "machine x,1,0", V.str "machine 1,1,0 ", V.str "Machine"])) p3 (.lst ([V.str "", V.str "store", V.str "store 1 2", V.str "store 1  2 3", V.str "store 01 0 1", V.str "store 100 0 1", V.str "store 0 0 0", V.str "store 5 6 0", V.str "store 5 5 10"] ++ [V.str "machine 1,1", V.str "machine 1,1,1,1", V.str "machine 1,0,0", V.str "machine 1,1,2", V.str "machine x,1,0", V.str "machine 1,1,0 ", V.str "Machine"]))) p4 (.lst [V.str "machine 99,1,0", V.str " machine", V.str "machine 1,10,0", V.str "machine 00,1,0", V.str "machine 0,1,0 0,1,0 0,1,0 0,1,0 0,1,0 0,1,0 0,1,0"])) od (.lst (([V.str "", V.str "store", V.str "store 1 2", V.str "store 1  2 3", V.str "store 01 0 1", V.str "store 100 0 1", V.str "store 0 0 0", V.str "store 5 6 0", V.str "store 5 5 10"] ++ [V.str "machine 1,1", V.str "machine 1,1,1,1", V.str "machine 1,0,0", V.str "machine 1,1,2", V.str "machine x,1,0", V.str "machine 1,1,0 ", V.str "Machine"]) ++ [V.str "machine 99,1,0", V.str " machine", V.str "machine 1,10,0", V.str "machine 00,1,0", V.str "machine 0,1,0 0,1,0 0,1,0 0,1,0 0,1,0 0,1,0 0,1,0"]))) od (odds.map V.str) := SqL.of upd_same
    have hT5 : TabsN (lamT Pt) (upd (upd (upd (upd (upd F p1 (.lst [V.str "", V.str "store", V.str "store 1 2", V.str "store 1  2 3", V.str "store 01 0 1", V.str "store 100 0 1", V.str "store 0 0 0", V.str "store 5 6 0", V.str "store 5 5 10"])) p2 (.lst [V.str "machine 1,1", V.str "machine 1,1,1,1", V.str "machine 1,0,0", V.str "machine 1,1,2", V.str "machine x,1,0", V.str "machine 1,1,0 ", V.str "Machine"])) p3 (.lst ([V.str "", V.str "store", V.str "store 1 2", V.str "store 1  2 3", V.str "store 01 0 1", V.str "store 100 0 1", V.str "store 0 0 0", V.str "store 5 6 0", V.str "store 5 5 10"] ++ [V.str "machine 1,1", V.str "machine 1,1,1,1", V.str "machine 1,0,0", V.str "machine 1,1,2", V.str "machine x,1,0", V.str "machine 1,1,0 ", V.str "Machine"]))) p4 (.lst [V.str "machine 99,1,0", V.str " machine", V.str "machine 1,10,0", V.str "machine 00,1,0", V.str "machine 0,1,0 0,1,0 0,1,0 0,1,0 0,1,0 0,1,0 0,1,0"])) od (.lst (([V.str "", V.str "store", V.str "store 1 2", V.str "store 1  2 3", V.str "store 01 0 1", V.str "store 100 0 1", V.str "store 0 0 0", V.str "store 5 6 0", V.str "store 5 5 10"] ++ [V.str "machine 1,1", V.str "machine 1,1,1,1", V.str "machine 1,0,0", V.str "machine 1,1,2", V.str "machine x,1,0", V.str "machine 1,1,0 ", V.str "Machine"]) ++ [V.str "machine 99,1,0", V.str " machine", V.str "machine 1,10,0", V.str "machine 00,1,0", V.str "machine 0,1,0 0,1,0 0,1,0 0,1,0 0,1,0 0,1,0 0,1,0"]))) := hT0.ext fun b o e => x5 b o e
    generalize (upd (upd (upd (upd (upd F p1 (.lst [V.str "", V.str "store", V.str "store 1 2", V.str "store 1  2 3", V.str "store 01 0 1", V.str "store 100 0 1", V.str "store 0 0 0", V.str "store 5 6 0", V.str "store 5 5 10"])) p2 (.lst [V.str "machine 1,1", V.str "machine 1,1,1,1", V.str "machine 1,0,0", V.str "machine 1,1,2", V.str "machine x,1,0", V.str "machine 1,1,0 ", V.str "Machine"])) p3 (.lst ([V.str "", V.str "store", V.str "store 1 2", V.str "store 1  2 3", V.str "store 01 0 1", V.str "store 100 0 1", V.str "store 0 0 0", V.str "store 5 6 0", V.str "store 5 5 10"] ++ [V.str "machine 1,1", V.str "machine 1,1,1,1", V.str "machine 1,0,0", V.str "machine 1,1,2", V.str "machine x,1,0", V.str "machine 1,1,0 ", V.str "Machine"]))) p4 (.lst [V.str "machine 99,1,0", V.str " machine", V.str "machine 1,10,0", V.str "machine 00,1,0", V.str "machine 0,1,0 0,1,0 0,1,0 0,1,0 0,1,0 0,1,0 0,1,0"])) od (.lst (([V.str "", V.str "store", V.str "store 1 2", V.str "store 1  2 3", V.str "store 01 0 1", V.str "store 100 0 1", V.str "store 0 0 0", V.str "store 5 6 0", V.str "store 5 5 10"] ++ [V.str "machine 1,1", V.str "machine 1,1,1,1", V.str "machine 1,0,0", V.str "machine 1,1,2", V.str "machine x,1,0", V.str "machine 1,1,0 ", V.str "Machine"]) ++ [V.str "machine 99,1,0", V.str " machine", V.str "machine 1,10,0", V.str "machine 00,1,0", V.str "machine 0,1,0 0,1,0 0,1,0 0,1,0 0,1,0 0,1,0 0,1,0"]))) = G5 at hod0 hT5
    clear x1 x2 x3 x4 x5 hp1 hp2 hp3 hp4 hp5
    refine sw_seq (sw_mid (fun σ _ G => (∃ (x3 x4 x5 x6 x7 x8 x9 x10 x11 x12 x13 x14 : Option V), σ = [some (.ref a), some (.ref hh), some (.ref od), x3, x4, x5, x6, x7, x8, x9, x10, x11, x12, x13, x14]) ∧ TabsN (lamT Pt) G ∧ SqL K G od (odds.map V.str)) ?_ ?_)
    · refine sw_forR1 (aw_cons (ew_c (aw_nil ⟨8, fun i σ _ G => (∃ (x3 x4 x5 x6 x7 x8 x9 x10 x11 x12 x13 x14 : Option V), σ = [some (.ref a), some (.ref hh), some (.ref od), x3, x4, x5, x6, x7, x8, x9, x10, x11, x12, x13, x14]) ∧ TabsN (lamT Pt) G ∧ SqL K G od (odds.map V.str), rfl, by decide, by decide, ⟨⟨_, _, _, _, _, _, _, _, _, _, _, _, rfl⟩, hT5, hod0⟩, ?_, ?_⟩)))
      · rintro i σ _ F2 hi ⟨⟨x3, x4, x5, x6, x7, x8, x9, x10, x11, x12, x13, x14, rfl⟩, hT, hod⟩
        refine gw_name (sw_seq (sw_asg (ew_split hdj (ew_call hdj (aw_cons (ew_world hd rfl (ew_c ⟨5, rfl, by decide, by decide, ew_c ⟨40, rfl, by decide, by decide, fun wv F3 wd g1 dw hw hwc hwn hws => aw_nil ⟨wv, wd, rfl, dw, hw, fun F4 g4 => ⟨textT wd, rfl, ew_c ⟨_, rfl, by decide +kernel, ?_, fun la hla => gw_name ?_⟩⟩⟩⟩⟩)))))))
        · have := text_len hw
          rw [sizeLine_eq]
          omega
        obtain ⟨rows, er, hr6, hr1, hr70⟩ : ∃ rows : List Str, Txt.split (textT wd) "\n" = rows ∧ rows.length ≤ 6 ∧ 1 ≤ rows.length ∧ ∀ y ∈ rows, y.length ≤ 70 := by
          refine ⟨_, text_rows hw, ?_, ?_, rows_len hw⟩
          · have := hw.m
            rw [List.length_cons, List.length_map]
            omega
          · rw [List.length_cons]
            omega
        rw [er]
        have gL : Ex F2 (upd F4 la (.lst (rows.map V.str))) := Ex.new (g1.trans g4) hla
        have lL : (upd F4 la (.lst (rows.map V.str))) la = some (.lst (rows.map V.str)) := upd_same
        generalize upd F4 la (.lst (rows.map V.str)) = G1 at gL lL
        refine sw_seq (sw_par (aw_cons (ew_next hd rfl (ew_cb (aw_cons (ew_var rfl (aw_nil (cw_lenS hdj (.inl (SqL.of lL)) ⟨_, rfl, by rw [List.length_map]; omega, by rw [List.length_map]; omega, fun at' a0 a1 => aw_cons (ew_next hd rfl (ew_c ⟨6, rfl, by decide, by decide, fun wi w0 w1 => aw_nil ⟨_, _, rfl, ?_⟩⟩))⟩))))))))
        have tx : ∀ {n : Nat} {G : Hp} {q : Addr} {zs : List Str}, G q = some (.lst (zs.map V.str)) → zs.length ≤ n → (∀ z ∈ zs, z.length ≤ 70) → TxL K n G (.ref q) := fun h1 h2 h3 => ⟨_, _, rfl, SqL.of h1, h2, h3⟩
        refine sw_seq (sw_asg (ew_lst hdj (aw_cons (ew_op (ew_slX hdj (ew_var rfl (ow_none (ow_some (ew_var rfl ⟨_, rfl, rfl, SqL.of lL, fun q1 H1 z1 k1 e1 b1 m1 => ?_⟩)))))))))
        refine ew_slX hdj (ew_var rfl (ow_some (ew_op (ew_var rfl (ew_c (rw_I0 ⟨_, rfl, ow_none ⟨rfl, SqL.of (k1 _ _ lL), fun q2 H2 z2 k2 e2 b2 m2 => ?_⟩⟩))))))
        refine rw_catX hdj (k2 _ _ e1) e2 (by omega) fun q3a H3 k3 e3 => ?_
        have tA : TxL K 13 H3 (.ref q3a) := tx e3 (by rw [List.length_append]; omega) fun z hz => (List.mem_append.mp hz).elim (fun y => hr70 z (m1 z y)) fun y => hr70 z (m2 z y)
        have g3 := k1.trans (k2.trans k3)
        clear k1 k2 k3 e1 e2 e3 b1 b2 m1 m2
        refine aw_cons (ew_op (ew_slX hdj (ew_var rfl (ow_none (ow_some (ew_op (ew_var rfl (ew_c (rw_I0 ⟨_, rfl, rfl, SqL.of (g3 _ _ lL), fun q4 H4 z4 k1 e1 b1 m1 => ?_⟩)))))))))
        refine ew_slX hdj (ew_var rfl (ow_some (ew_var rfl ⟨_, rfl, ow_none ⟨rfl, SqL.of ((g3.trans k1) _ _ lL), fun q5 H5 z5 k2 e2 b2 m2 => ?_⟩⟩)))
        refine rw_catX hdj (k2 _ _ e1) e2 (by omega) fun q6 H6 k3 e3 => ?_
        have tB : TxL K 13 H6 (.ref q6) := tx e3 (by rw [List.length_append]; omega) fun z hz => (List.mem_append.mp hz).elim (fun y => hr70 z (m1 z y)) fun y => hr70 z (m2 z y)
        have g36 := k1.trans (k2.trans k3)
        clear k1 k2 k3 e1 e2 e3 b1 b2 m1 m2
        refine aw_cons (ew_var rfl (aw_cons (ew_revL hdj (ew_var rfl ⟨la, _, rfl, SqL.of ((g3.trans g36) _ _ lL), fun q7 hq7 => aw_nil ⟨by walk_at "ob_len", fun ps hps => gw_name ?_⟩⟩))))
        have g7 : Ex H6 (upd H6 q7 (.lst (rows.map V.str).reverse)) := Ex.new (.refl _) hq7
        have e7 : (upd H6 q7 (.lst (rows.map V.str).reverse)) q7 = some (.lst (rows.reverse.map V.str)) := by rw [upd_same, List.map_reverse]
        have tD : TxL K 13 _ (.ref q7) := tx e7 (by rw [List.length_reverse]; omega) fun z hz => hr70 z (List.mem_reverse.mp hz)
        have g8 := Ex.new g7 hps (u := .lst [V.ref q3a, V.ref q6, V.ref la, V.ref q7])
        have ePs : (upd (upd H6 q7 (.lst (rows.map V.str).reverse)) ps (.lst [V.ref q3a, V.ref q6, V.ref la, V.ref q7])) ps = some (.lst [V.ref q3a, V.ref q6, V.ref la, V.ref q7]) := upd_same
        have tA := tA.ex (g36.trans g8)
        have tB := tB.ex g8
        have tC : TxL K 13 H6 (.ref la) := tx ((g3.trans g36) _ _ lL) (by omega) hr70
        have tC := tC.ex g8
        have tD := tD.ex (Ex.new (.refl _) hps (u := .lst [V.ref q3a, V.ref q6, V.ref la, V.ref q7]))
        have lL8 := (g3.trans (g36.trans g8)) _ _ lL
        have g28 : Ex F2 _ := gL.trans (g3.trans (g36.trans g8))
        have nps : F2 ps = none := Ex.free (gL.trans (g3.trans (g36.trans g7))) hps
        have nla : la ≠ ps := ne_of_none (g7 _ _ ((g3.trans g36) _ _ lL)) hps
        generalize (upd (upd H6 q7 (.lst (rows.map V.str).reverse)) ps (.lst [V.ref q3a, V.ref q6, V.ref la, V.ref q7])) = G8 at ePs tA tB tC tD lL8 g28
        clear g3 g36 g7 g8 e7 hps hq7 lL gL
        have od8 := g28.sqL hod
        have hT8 : TabsN (lamT Pt) G8 := hT.ext fun b o e => g28 b o e
        obtain ⟨ol, o70⟩ := odds_ok
        -- a row put in its place
        refine sw_seq (sw_drop (ew_bmL hdj (ew_var rfl ⟨ps, _, rfl, SqL.of ePs, aw_cons (ew_op (ew_op (ew_slX hdj (ew_var rfl (ow_none (ow_some (ew_var rfl ⟨_, rfl, rfl, SqL.of lL8, fun q1 H1 z1 k1 e1 b1 m1 => ?_⟩)))))))⟩)))
        refine ew_lst hdj (aw_cons (ew_op (ew_var rfl (ew_next hd rfl (ew_c ⟨21, rfl, by decide, by decide, fun r r0 r1 => ?_⟩)))))
        obtain ⟨y, hy⟩ : ∃ y, odds[r.toNat]? = some y := ⟨_, List.getElem?_eq_getElem (by omega)⟩
        refine rw_ixL hdj (k1.sqL od8) (atI_int r0 (by rw [List.getElem?_map, hy]; rfl)) (aw_nil ⟨by walk_at "ob_len", fun q2 hq2 => ?_⟩)
        have k2 := Ex.new (.refl H1) hq2 (u := .lst [V.str y])
        refine rw_catX hdj (zs := [y]) (k2 _ _ e1) upd_same (by rw [List.length_singleton]; omega) fun q3 H3 k3 e3 => ?_
        refine ew_slX hdj (ew_var rfl (ow_some (ew_op (ew_var rfl (ew_c (rw_I0 ⟨_, rfl, ow_none ⟨rfl, SqL.of ((k1.trans (k2.trans k3)) _ _ lL8), fun q4 H4 z4 k4 e4 b4 m4 => ?_⟩⟩))))))
        refine rw_catX hdj (k4 _ _ e3) e4 (by rw [List.length_append, List.length_singleton]; omega) fun q5 H5 k5 e5 => ?_
        have g85 := k1.trans (k2.trans (k3.trans (k4.trans k5)))
        have tE : TxL K 13 H5 (.ref q5) := tx e5 (by rw [List.length_append, List.length_append, List.length_singleton]; omega) fun z hz => by
          rcases List.mem_append.mp hz with y1 | y1
          · rcases List.mem_append.mp y1 with y2 | y2
            · exact hr70 z (m1 z y2)
            · rw [List.mem_singleton.mp y2]
              exact o70 y (List.mem_of_getElem? hy)
          · exact hr70 z (m4 z y1)
        refine aw_nil (mw_append hdj (g85 _ _ ePs) (by show 4 < 100000; decide) ?_)
        have P1 := fun {v : V} (h : TxL K 13 H5 v) => h.put (g85 _ _ ePs) ⟨_, rfl⟩ (o := .lst ([V.ref q3a, V.ref q6, V.ref la, V.ref q7] ++ [V.ref q5]))
        have tA := P1 (tA.ex g85)
        have tB := P1 (tB.ex g85)
        have tC := P1 (tC.ex g85)
        have tD := P1 (tD.ex g85)
        have tE := P1 tE
        have g29 : Ex F2 (upd H5 ps (.lst ([V.ref q3a, V.ref q6, V.ref la, V.ref q7] ++ [V.ref q5]))) := Ex.out (g28.trans g85) nps
        have lL9 : (upd H5 ps (.lst ([V.ref q3a, V.ref q6, V.ref la, V.ref q7] ++ [V.ref q5]))) la = some (.lst (rows.map V.str)) := by rw [upd_ne nla]; exact g85 _ _ lL8
        have eP9 : (upd H5 ps (.lst ([V.ref q3a, V.ref q6, V.ref la, V.ref q7] ++ [V.ref q5]))) ps = some (.lst [V.ref q3a, V.ref q6, V.ref la, V.ref q7, V.ref q5]) := upd_same
        generalize (upd H5 ps (.lst ([V.ref q3a, V.ref q6, V.ref la, V.ref q7] ++ [V.ref q5]))) = G9 at tA tB tC tD tE g29 lL9 eP9
        clear P1 g85 k1 k2 k3 k4 k5 e1 e3 e4 e5 b1 b4 m1 m4 hq2 lL8 ePs od8 hT8 g28
        have od9 := g29.sqL hod
        -- a row behind all
        refine sw_seq (sw_drop (ew_bmL hdj (ew_var rfl ⟨ps, _, rfl, SqL.of eP9, aw_cons (ew_op (ew_var rfl (ew_lst hdj (aw_cons (ew_op (ew_var rfl (ew_op (ew_c (ew_next hd rfl (ew_c ⟨12, rfl, by decide, by decide, fun r r0 r1 => rw_I0 ?_⟩))))))))))⟩)))
        obtain ⟨y, hy⟩ : ∃ y, odds[(9 + r).toNat]? = some y := ⟨_, List.getElem?_eq_getElem (by omega)⟩
        refine rw_ixL hdj od9 (atI_int (by omega) (by rw [List.getElem?_map, hy]; rfl)) (aw_nil ⟨by walk_at "ob_len", fun q2 hq2 => ?_⟩)
        have k2 := Ex.new (.refl G9) hq2 (u := .lst [V.str y])
        refine rw_catX hdj (zs := [y]) (k2 _ _ lL9) upd_same (by rw [List.length_singleton]; omega) fun q8 H3 k3 e3 => ?_
        have g93 := k2.trans k3
        have tF : TxL K 13 H3 (.ref q8) := tx e3 (by rw [List.length_append, List.length_singleton]; omega) fun z hz => by
          rcases List.mem_append.mp hz with y1 | y1
          · exact hr70 z y1
          · rw [List.mem_singleton.mp y1]
            exact o70 y (List.mem_of_getElem? hy)
        refine aw_nil (mw_append hdj (g93 _ _ eP9) (by show 5 < 100000; decide) ?_)
        have P1 := fun {v : V} (h : TxL K 13 H3 v) => h.put (g93 _ _ eP9) ⟨_, rfl⟩ (o := .lst ([V.ref q3a, V.ref q6, V.ref la, V.ref q7, V.ref q5] ++ [V.ref q8]))
        have tA := P1 (tA.ex g93)
        have tB := P1 (tB.ex g93)
        have tC := P1 (tC.ex g93)
        have tD := P1 (tD.ex g93)
        have tE := P1 (tE.ex g93)
        have tF := P1 tF
        have g2X : Ex F2 (upd H3 ps (.lst ([V.ref q3a, V.ref q6, V.ref la, V.ref q7, V.ref q5] ++ [V.ref q8]))) := Ex.out (g29.trans g93) nps
        have ePX : (upd H3 ps (.lst ([V.ref q3a, V.ref q6, V.ref la, V.ref q7, V.ref q5] ++ [V.ref q8]))) ps = some (.lst [V.ref q3a, V.ref q6, V.ref la, V.ref q7, V.ref q5, V.ref q8]) := upd_same
        generalize (upd H3 ps (.lst ([V.ref q3a, V.ref q6, V.ref la, V.ref q7, V.ref q5] ++ [V.ref q8]))) = GX at tA tB tC tD tE tF g2X ePX
        clear P1 g93 k2 k3 e3 hq2 eP9 od9 g29 lL9
        have odX := g2X.sqL hod
        have hTX : TabsN (lamT Pt) GX := hT.ext fun b o e => g2X b o e
        obtain ⟨vw, hvw, ys, yrows, rfl, lys, hys13, hys70⟩ : ∃ vw, atI [V.ref q3a, V.ref q6, V.ref la, V.ref q7, V.ref q5, V.ref q8] wi = some vw ∧ TxL K 13 GX vw := by
          have : wi = 0 ∨ wi = 1 ∨ wi = 2 ∨ wi = 3 ∨ wi = 4 ∨ wi = 5 := by omega
          rcases this with rfl | rfl | rfl | rfl | rfl | rfl
          · exact ⟨_, rfl, tA⟩
          · exact ⟨_, rfl, tB⟩
          · exact ⟨_, rfl, tC⟩
          · exact ⟨_, rfl, tD⟩
          · exact ⟨_, rfl, tE⟩
          · exact ⟨_, rfl, tF⟩
        have l1 : ("\n" : Str).length = 1 := by decide +kernel
        have hj := join_len (y := "\n") hys70
        rw [l1] at hj
        have hsum := sum_le (l := yrows.map (·.length)) (k := 70) fun x hx => by
          obtain ⟨y, hy, rfl⟩ := List.mem_map.mp hx
          exact hys70 y hy
        rw [List.length_map] at hsum
        refine sw_seq (sw_asg (ew_join hdj (ew_c ⟨_, rfl, ew_op (ew_var rfl (ew_var rfl (rw_ixL hdj (SqL.of ePX) hvw ⟨ys, yrows, rfl, lys, by rw [l1]; omega, gw_name ?_⟩)))⟩)))
        obtain ⟨tz, etz⟩ : ∃ tz, tz = Txt.join "\n" yrows := ⟨_, rfl⟩
        rw [← etz] at hj ⊢
        have htz : tz.length ≤ 1000 := by
          have : yrows.length * (70 + 1) ≤ 13 * (70 + 1) := Nat.mul_le_mul_right _ hys13
          omega
        have hsz : tz.length ≤ sizeLine := by rw [sizeLine_eq]; omega
        clear tA tB tC tD tE tF hj hsum lys hvw ePX
        refine sw_seq (sw_asg (ew_next hd rfl (ew_op (ew_cb (aw_cons (ew_var rfl (aw_nil (cw_lenStr hsz (ew_c (rw_I0 ⟨_, rfl, by omega, by omega, fun sp s0 s1 => gw_name ?_⟩))))))))))
        have hsig : ("a0 9,\n" : Str).cps.toList = [97, 48, 32, 57, 44, 10] := by decide +kernel
        have hsl : ("a0 9,\n" : Str).length ≤ sizeLine := by rw [sizeLine_eq]; decide +kernel
        have hca := cutS_len tz none (some sp)
        have hone : ∀ c : Nat, (⟨#[c]⟩ : Str).length = 1 := fun _ => rfl
        refine sw_seq (sw_asg (ew_op (ew_op (ew_slS (ew_var rfl (ow_none (ow_some (ew_var rfl ⟨_, rfl, tz, rfl, hsz, ew_op (ew_c (ew_next hd rfl (ew_c ⟨6, rfl, by decide, by decide, fun r r0 r1 => ?_⟩)))⟩))))))))
        obtain ⟨cc, hcc⟩ : ∃ cc, atI ("a0 9,\n" : Str).cps.toList r = some cc := by
          rw [hsig]
          have : r = 0 ∨ r = 1 ∨ r = 2 ∨ r = 3 ∨ r = 4 ∨ r = 5 := by omega
          rcases this with rfl | rfl | rfl | rfl | rfl | rfl <;> exact ⟨_, rfl⟩
        refine rw_ixS hsl hcc (rw_addS (by rw [hone, sizeLine_eq]; omega) ?_)
        refine ew_slS (ew_var rfl (ow_some (ew_op (ew_var rfl (ew_next hd rfl (ew_c ⟨2, rfl, by decide, by decide, fun r2 r20 r21 => rw_I0 ⟨_, rfl, ow_none ⟨tz, rfl, hsz, ?_⟩⟩⟩))))))
        have hcb := cutS_len tz (some (sp + r2)) none
        have hab : (cutS tz none (some sp) ++ (⟨#[cc]⟩ : Str)).length ≤ 1001 := by rw [lenA, hone]; omega
        refine rw_addS (by rw [sizeLine_eq]; omega) (gw_name ?_)
        obtain ⟨bz, ebz, hbz⟩ : ∃ bz, bz = (cutS tz none (some sp) ++ (⟨#[cc]⟩ : Str)) ++ cutS tz (some (sp + r2)) none ∧ bz.length ≤ 2001 := ⟨_, rfl, by rw [lenA]; omega⟩
        rw [← ebz]
        have hnl : (tz ++ ("\n" : Str)).length ≤ 1001 := by rw [lenA, l1]; omega
        refine sw_forT hdj (ew_tup hdj (aw_cons (ew_var rfl (aw_cons (ew_var rfl (aw_cons (ew_op (ew_var rfl (ew_c (rw_addS (by rw [l1, sizeLine_eq]; omega) (aw_nil ⟨by walk_at "ob_len", fun pt hpt => ⟨pt, [V.str tz, V.str bz, V.str (tz ++ ("\n" : Str))], fun j σ _ G => ((∃ (x3 x4 x5 x6 x7 x8 x9 x10 x11 x12 x13 x14 : Option V), σ = [some (.ref a), some (.ref hh), some (.ref od), x3, x4, x5, x6, x7, x8, x9, x10, x11, x12, x13, x14]) ∧ TabsN (lamT Pt) G ∧ SqL K G od (odds.map V.str)) ∧ SqT K G pt [V.str tz, V.str bz, V.str (tz ++ ("\n" : Str))], rfl, SqT.of upd_same, ⟨⟨⟨_, _, _, _, _, _, _, _, _, _, _, _, rfl⟩, hTX.ext (fun b o e => (Ex.new (.refl _) hpt) b o e), (Ex.new (.refl _) hpt).sqL odX⟩, SqT.of upd_same⟩, ?_, ?_, ?_⟩⟩)))))))))))
        · rintro j σ _ G hj ⟨_, hpt'⟩
          exact hpt'
        · rintro j x σ _ G hx ⟨⟨⟨x3, x4, x5, x6, x7, x8, x9, x10, x11, x12, x13, x14, rfl⟩, hT, hod⟩, hpt'⟩
          obtain ⟨z, rfl, hz⟩ : ∃ z, x = V.str z ∧ z.length ≤ 10000 := by
            match j with
            | 0 => cases hx; exact ⟨_, rfl, by omega⟩
            | 1 => cases hx; exact ⟨_, rfl, by omega⟩
            | 2 => cases hx; exact ⟨_, rfl, by omega⟩
            | j + 3 => simp at hx
          refine gw_name (sw_seq (sw_asg (ew_lst hdj (aw_nil ⟨by walk_at "ob_len", fun p hp => gw_name ?_⟩))))
          have hO := (own_nil (F := G)).more (o := .lst []) hp
          generalize upd G p (.lst []) = G2 at hO ⊢
          have gD := drop_ex hO
          have hTD : TabsN (lamT Pt) (dropH G2 [(p, .lst [])]) := hT.ext fun b o e => gD b o e
          obtain ⟨tb0, hPt0, _, _⟩ := (show TabN (dropH G2 [(p, .lst [])]) Pt (fun _ _ => lamQ) from hTD _ (List.mem_singleton_self _))
          refine sw_seq (sw_asg (ew_kread hdj (ew_aside hdj hO (ew_lamb hdj.jp hTD hPt0 fun fa ca F11 st1 => ?_))))
          obtain ⟨eN1, hT11, nf1, lf1, lc1⟩ := st1.facts (T := lamT Pt) (nm := fun _ _ => lamQ) (List.mem_singleton_self _) rfl hnm hTD
          have hB1 : ndefB (defScope s_law) (lamScope lam1) ["_law_found", "_law_one"] = true := by decide +kernel
          intro F12 hO12
          have odN : SqL K F11 od (odds.map V.str) := extN_sqL eN1 (gD.sqL hod)
          have ptN : SqT K F11 pt [V.str tz, V.str bz, V.str (tz ++ ("\n" : Str))] := extN_sqT eN1 (gD.sqT hpt')
          refine ⟨fa, _, [], ["_law_found", "_law_one"], [12, 11], F11, z, p, rfl, ⟨hO12.ex _ _ lf1, hO12.ex _ _ lc1, fun t e => by cases e⟩, fun ok => Caps.made (scope := lamScope lam1) ok (ndef_free hB1) (ndef_fr hB1) rfl, lamok1 B Cread Gread, hO12, rfl, hz, fun w' hv v F' q g ep dv eq => ?_, fun k' hv F' q g eq => ?_, fun hv F' q g eq => ?_, fun k' i' hv F' q q2 g eq2 eq => ?_⟩
          · refine gw_name (sw_seq (sw_asg (ew_if (tw_test (ew_op (ew_var rfl (ew_tup hdj (aw_cons (ew_c (aw_cons (ew_c (aw_nil ⟨by walk_at "ob_len", fun p2 hp2 => ?_⟩))))))))))))
            have gp := Ex.new (.refl F') hp2 (u := .tup [.str "", .int 0])
            refine rw_eqD hdj (d := .tuple [.str "", .int 0]) (e := .tuple [.str "", .int 0]) (.tup (SqT.of (gp _ _ eq)) (.cons (.str _) (.cons (.int _) .nil))) (.tup (SqT.of upd_same) (.cons (.str _) (.cons (.int _) .nil))) (shaped_low (low_si ok_words.2.2.2)) (shaped_low (low_si ok_words.2.2.2)) ⟨_, rfl, fun h1 => ?_, fun h1 => ?_⟩
            rotate_left
            · rw [ne_words.2.2.2] at h1
              cases h1
            refine ew_tup hdj (aw_cons (ew_c (aw_cons (ew_op (ew_var rfl (ew_c (rw_ixL hdj (SqL.of (gp _ _ ep)) at_zero (aw_nil ⟨by walk_at "ob_len", fun p3 hp3 => gw_name ?_⟩))))))))
            have gq := Ex.new gp hp3 (u := .tup [.str "told", v])
            have dq : Dp K (upd (upd F' p2 (.tup [.str "", .int 0])) p3 (.tup [.str "told", v])) (.ref p3) (vdD (verdict z)) := by
              rw [hv]
              exact .tup (SqT.of upd_same) (.cons (.str _) (.cons (dp_ex gq dv) .nil))
            exact sw_if (tw_not (tw_B (ew_call hdj (aw_cons (ew_var rfl (aw_cons (ew_call hdj (aw_cons (ew_var rfl (aw_nil ⟨z, rfl, hz, fun dv G3 g3 d3 => aw_nil ⟨.ref p3, dv, vdD (verdict z), rfl, dp_ex g3 (dq), d3, sz_vd, fun G4 g4 => ⟨_, rfl, (fun y => by cases y), fun _ => sw_next ⟨⟨⟨_, _, _, _, _, _, _, _, _, _, _, _, rfl⟩, hT11.ext (fun b o e => ((g.trans gq).trans (g3.trans g4)) b o e), ((g.trans gq).trans (g3.trans g4)).sqL odN⟩, ((g.trans gq).trans (g3.trans g4)).sqT ptN⟩⟩⟩⟩))))))))))
          · refine gw_name (sw_seq (sw_asg (ew_if (tw_test (ew_op (ew_var rfl (ew_tup hdj (aw_cons (ew_c (aw_cons (ew_c (aw_nil ⟨by walk_at "ob_len", fun p2 hp2 => ?_⟩))))))))))))
            have gp := Ex.new (.refl F') hp2 (u := .tup [.str "", .int 0])
            have dq : Dp K F' (.ref q) (vdD (verdict z)) := by
              rw [hv]
              exact .tup (SqT.of eq) (.cons (.str _) (.cons (.int _) .nil))
            refine rw_eqD hdj (d := .tuple [.str "text", .int (k' : Int)]) (e := .tuple [.str "", .int 0]) (.tup (SqT.of (gp _ _ eq)) (.cons (.str _) (.cons (.int _) .nil))) (.tup (SqT.of upd_same) (.cons (.str _) (.cons (.int _) .nil))) (shaped_low (low_si ok_words.1)) (shaped_low (low_si ok_words.2.2.2)) ⟨_, rfl, fun h1 => ?_, fun h1 => ew_var rfl (gw_name ?_)⟩
            · rw [eqv_head ne_words.1] at h1
              cases h1
            exact sw_if (tw_not (tw_B (ew_call hdj (aw_cons (ew_var rfl (aw_cons (ew_call hdj (aw_cons (ew_var rfl (aw_nil ⟨z, rfl, hz, fun dv G3 g3 d3 => aw_nil ⟨.ref q, dv, vdD (verdict z), rfl, dp_ex g3 (dp_ex gp dq), d3, sz_vd, fun G4 g4 => ⟨_, rfl, (fun y => by cases y), fun _ => sw_next ⟨⟨⟨_, _, _, _, _, _, _, _, _, _, _, _, rfl⟩, hT11.ext (fun b o e => ((g.trans gp).trans (g3.trans g4)) b o e), ((g.trans gp).trans (g3.trans g4)).sqL odN⟩, ((g.trans gp).trans (g3.trans g4)).sqT ptN⟩⟩⟩⟩))))))))))
          · refine gw_name (sw_seq (sw_asg (ew_if (tw_test (ew_op (ew_var rfl (ew_tup hdj (aw_cons (ew_c (aw_cons (ew_c (aw_nil ⟨by walk_at "ob_len", fun p2 hp2 => ?_⟩))))))))))))
            have gp := Ex.new (.refl F') hp2 (u := .tup [.str "", .int 0])
            have dq : Dp K F' (.ref q) (vdD (verdict z)) := by
              rw [hv]
              exact .tup (SqT.of eq) (.cons (.str _) (.cons (.int _) .nil))
            refine rw_eqD hdj (d := .tuple [.str "store", .int 0]) (e := .tuple [.str "", .int 0]) (.tup (SqT.of (gp _ _ eq)) (.cons (.str _) (.cons (.int _) .nil))) (.tup (SqT.of upd_same) (.cons (.str _) (.cons (.int _) .nil))) (shaped_low (low_si ok_words.2.1)) (shaped_low (low_si ok_words.2.2.2)) ⟨_, rfl, fun h1 => ?_, fun h1 => ew_var rfl (gw_name ?_)⟩
            · rw [eqv_head ne_words.2.1] at h1
              cases h1
            exact sw_if (tw_not (tw_B (ew_call hdj (aw_cons (ew_var rfl (aw_cons (ew_call hdj (aw_cons (ew_var rfl (aw_nil ⟨z, rfl, hz, fun dv G3 g3 d3 => aw_nil ⟨.ref q, dv, vdD (verdict z), rfl, dp_ex g3 (dp_ex gp dq), d3, sz_vd, fun G4 g4 => ⟨_, rfl, (fun y => by cases y), fun _ => sw_next ⟨⟨⟨_, _, _, _, _, _, _, _, _, _, _, _, rfl⟩, hT11.ext (fun b o e => ((g.trans gp).trans (g3.trans g4)) b o e), ((g.trans gp).trans (g3.trans g4)).sqL odN⟩, ((g.trans gp).trans (g3.trans g4)).sqT ptN⟩⟩⟩⟩))))))))))
          · refine gw_name (sw_seq (sw_asg (ew_if (tw_test (ew_op (ew_var rfl (ew_tup hdj (aw_cons (ew_c (aw_cons (ew_c (aw_nil ⟨by walk_at "ob_len", fun p2 hp2 => ?_⟩))))))))))))
            have gp := Ex.new (.refl F') hp2 (u := .tup [.str "", .int 0])
            have dq : Dp K F' (.ref q) (vdD (verdict z)) := by
              rw [hv]
              exact .tup (SqT.of eq) (.cons (.str _) (.cons (.tup (SqT.of eq2) (.cons (.int _) (.cons (.int _) .nil))) .nil))
            refine rw_eqD hdj (d := .tuple [.str "step", .tuple [.int (k' : Int), .int (i' : Int)]]) (e := .tuple [.str "", .int 0]) (.tup (SqT.of (gp _ _ eq)) (.cons (.str _) (.cons (.tup (SqT.of (gp _ _ eq2)) (.cons (.int _) (.cons (.int _) .nil))) .nil))) (.tup (SqT.of upd_same) (.cons (.str _) (.cons (.int _) .nil))) (shaped_low (low_st ok_words.2.2.1)) (shaped_low (low_si ok_words.2.2.2)) ⟨_, rfl, fun h1 => ?_, fun h1 => ew_var rfl (gw_name ?_)⟩
            · rw [eqv_head ne_words.2.2.1] at h1
              cases h1
            exact sw_if (tw_not (tw_B (ew_call hdj (aw_cons (ew_var rfl (aw_cons (ew_call hdj (aw_cons (ew_var rfl (aw_nil ⟨z, rfl, hz, fun dv G3 g3 d3 => aw_nil ⟨.ref q, dv, vdD (verdict z), rfl, dp_ex g3 (dp_ex gp dq), d3, sz_vd, fun G4 g4 => ⟨_, rfl, (fun y => by cases y), fun _ => sw_next ⟨⟨⟨_, _, _, _, _, _, _, _, _, _, _, _, rfl⟩, hT11.ext (fun b o e => ((g.trans gp).trans (g3.trans g4)) b o e), ((g.trans gp).trans (g3.trans g4)).sqL odN⟩, ((g.trans gp).trans (g3.trans g4)).sqT ptN⟩⟩⟩⟩))))))))))
        · rintro σ _ G ⟨h1, _⟩
          exact h1
      · rintro σ _ G h
        exact h
    · rintro σ _ G ⟨⟨x3, x4, x5, x6, x7, x8, x9, x10, x11, x12, x13, x14, rfl⟩, hT, hod⟩
      walk_at "ob"
      rfl

end
end Obr
/-! ### the head's look at an own exception class with a field -/
namespace Obr
open PySem PySem.Spec L2 PyProof.Rows
def rawX (K : PySem.W.Frag) (C : Addr) : Bool := match K.lookup C with
  | some ⟨cl, _, .cls cd, sl⟩ => cl == .type "type" && (!cd.hasDel && (cd.hasDict && ((match cd.mro with
    | c :: bm => c == .ref C && PySem.HandSPX.refsVE bm
    | _ => false) && (match sl.toList with
    | [_, _, _, _, some n, _] => n == .builtin "ValueError.__new__"
    | _ => false))))
  | _ => false
theorem rawX_ok {K : PySem.W.Frag} {C : Addr} (h : rawX K C = true) : ∃ nm q N bs bm sn sub ab col dd k0 k1 k2 k3 k5, K.lookup C = some (excClassObj nm q C N bs bm true sn sub ab col dd k0 k1 k2 k3 k5 "ValueError.__new__") ∧ PySem.HandSPX.refsVE bm = true := by
  unfold rawX at h
  split at h
  · rename_i cl dd cd sl e
    obtain ⟨h1, h⟩ := He.ba h
    obtain ⟨h2, h⟩ := He.ba h
    obtain ⟨h3, h⟩ := He.ba h
    obtain ⟨h4, h5⟩ := He.ba h
    obtain ⟨nm, bs, mro, ns, q, hd, sn, sub, ab, col, del⟩ := cd
    split at h4
    · rename_i c bm em
      obtain ⟨h6, h7⟩ := He.ba h4
      split at h5
      · rename_i a0 a1 a2 a3 n a5 es
        obtain ⟨sll⟩ := sl
        simp only at em es h2 h3
        subst em
        subst es
        obtain rfl := eq_of_beq h1
        obtain rfl := eq_of_beq h6
        obtain rfl := eq_of_beq h5
        subst h3
        have h2 : del = false := by simpa using h2
        subst h2
        exact ⟨nm, q, ns, bs, bm, sn, sub, ab, col, dd, a0, a1, a2, a3, a5, e, h7⟩
      · cases h5
    · cases h4
  · cases h
def ownX (K : PySem.W.Frag) (C : Addr) (f : Str) : Bool := rawX K C && (He.eqO (PySem.W.findIn K (.ref C) "__setattr__") (some (some (.builtin "object.__setattr__"))) && (decide (PySem.W.subIn K (.ref C) (.type "BaseException") = some true) && (decide (PySem.W.typeIn K (.ref C) = some (.type "type")) && (PySem.W.keepIn K (.ref C) &&
  (He.eqO (PySem.W.findIn K (.ref C) "__init__") (some (some (.ref (He.ma K C "__init__")))) && (decide (PySem.W.typeIn K (.ref (He.ma K C "__init__")) = some (.type "function")) && He.eqO (PySem.W.findIn K (.ref C) f) (some none)))))))
theorem FunD.selfB {K : PySem.W.Frag} {x qual : Str} {params : Arguments} {body : List Stmt} {scope : Scope} {kws : List (Str × V)} {f : Addr} {fd : FuncData} {n1 n2 : Str} (F : FunD K x qual params body scope [] kws f fd)
    (h : ∀ (kV doc pm : Value) (an : Option Addr) (cdv ct : Value) (a b : Value), bindArgs (PySem.W.fnOf x qual params body scope .none kV doc pm an cdv ct) ⟨[a], [(n2, b)]⟩ = pure [(n1, a), (n2, b)]) : KBinds K fd [n1, n2] [n2] self1 self1 := by
  obtain ⟨_, _, _, kV, doc, pm, an, cdv, ct, _, rfl, _, _, defs, _⟩ := F.ex
  rcases defs with ⟨_, rfl⟩ | ⟨none, _⟩
  · refine ⟨fun s us ws X hl => ?_, fun {vs us zs ws} r1 r2 => ?_⟩
    · match us, ws, hl with
      | [a], [b], _ => exact .of_eq (h kV doc pm an cdv ct a b)
      | [], _, hl => cases hl
      | [_], [], hl => cases hl
      | [_], _ :: _ :: _, hl => cases hl
      | _ :: _ :: _, _, hl => cases hl
    · match vs, us, zs, ws, r1, r2 with
      | [_], [_], [_], [_], .cons r .nil, .cons q .nil => exact .cons r (.cons q .nil)
      | [], [], _, _, .nil, _ => exact .nil
      | [_], [_], [], [], .cons _ .nil, .nil => exact .nil
      | [_], [_], _ :: _ :: _, _ :: _ :: _, .cons _ .nil, .cons _ (.cons _ _) => exact .nil
      | _ :: _ :: _, _ :: _ :: _, _, _, .cons _ (.cons _ _), _ => exact .nil
  · exact absurd rfl none
theorem ownX_ok {P : Program} {w : World} {K : PySem.W.Frag} {mg : Str → Option Value} {base : Heap} {x f : Str} {C : Addr} {fd : FuncData} (h : ownX K C f = true) (g : mg x = some (.ref C)) (kb : KBinds K fd ["self", f] [f] self1 self1)
    (ok : FnOk P w K mg base CX0 1 (He.ma K C "__init__") fd ["self", f] (spX K f)) : XK P w K mg base x f C (He.ma K C "__init__") fd := by
  obtain ⟨h1, h⟩ := He.ba h
  obtain ⟨h2, h⟩ := He.ba h
  obtain ⟨h3, h⟩ := He.ba h
  obtain ⟨h4, h⟩ := He.ba h
  obtain ⟨h5, h⟩ := He.ba h
  obtain ⟨h6, h⟩ := He.ba h
  obtain ⟨h7, h8⟩ := He.ba h
  exact ⟨⟨rawX_ok h1, He.eqO_ok h2, of_decide_eq_true h3, of_decide_eq_true h4, h5⟩, He.eqO_ok h6, of_decide_eq_true h7, He.eqO_ok h8, g, kb, ok⟩
/-- the base of the errors: its __init__ is ValueError's -/
def baseX (K : PySem.W.Frag) (D : Addr) : Bool := PySem.W.readsIn K D (.type "type") && ((PySem.W.specialIn K (.ref D) "__getattribute__" == some (some (.builtin "type.__getattribute__"))) && (match PySem.W.findCls K (.ref D) (.type "type") "__init__" with | some (.val v) => v == .builtin "ValueError.__init__" | _ => false))
theorem baseX_ok {K : PySem.W.Frag} {D : Addr} (h : baseX K D = true) : ClX.CRead K D (.type "type") ∧ PySem.W.findCls K (.ref D) (.type "type") "__init__" = some (.val (.builtin "ValueError.__init__")) := by
  obtain ⟨h1, h⟩ := He.ba h
  obtain ⟨h2, h3⟩ := He.ba h
  refine ⟨⟨h1, eq_of_beq h2⟩, ?_⟩
  split at h3
  · rename_i v e
    rw [e, eq_of_beq h3]
  · cases h3
end Obr
namespace Obr
open PySem PySem.Spec L2 PyProof.Rows
theorem FunD.selfB3 {K : PySem.W.Frag} {x qual : Str} {params : Arguments} {body : List Stmt} {scope : Scope} {kws : List (Str × V)} {f : Addr} {fd : FuncData} {n1 n2 n3 : Str} (F : FunD K x qual params body scope [] kws f fd)
    (h : ∀ (kV doc pm : Value) (an : Option Addr) (cdv ct : Value) (a b c : Value), bindArgs (PySem.W.fnOf x qual params body scope .none kV doc pm an cdv ct) ⟨[a], [(n2, b), (n3, c)]⟩ = pure [(n1, a), (n2, b), (n3, c)]) : KBinds K fd [n1, n2, n3] [n2, n3] self2 self2 := by
  obtain ⟨_, _, _, kV, doc, pm, an, cdv, ct, _, rfl, _, _, defs, _⟩ := F.ex
  rcases defs with ⟨_, rfl⟩ | ⟨none, _⟩
  · refine ⟨fun s us ws X hl => ?_, fun {vs us zs ws} r1 r2 => ?_⟩
    · match us, ws, hl with
      | [a], [b, c], _ => exact .of_eq (h kV doc pm an cdv ct a b c)
      | [], _, hl => cases hl
      | [_], [], hl => cases hl
      | [_], [_], hl => cases hl
      | [_], _ :: _ :: _ :: _, hl => cases hl
      | _ :: _ :: _, _, hl => cases hl
    · match vs, us, zs, ws, r1, r2 with
      | [_], [_], [_, _], [_, _], .cons r .nil, .cons q (.cons p .nil) => exact .cons r (.cons q (.cons p .nil))
      | [], [], _, _, .nil, _ => exact .nil
      | [_], [_], [], [], .cons _ .nil, .nil => exact .nil
      | [_], [_], [_], [_], .cons _ .nil, .cons _ .nil => exact .nil
      | [_], [_], _ :: _ :: _ :: _, _ :: _ :: _ :: _, .cons _ .nil, .cons _ (.cons _ (.cons _ _)) => exact .nil
      | _ :: _ :: _, _ :: _ :: _, _, _, .cons _ (.cons _ _), _ => exact .nil
  · exact absurd rfl none
theorem ownX2_ok {P : Program} {w : World} {K : PySem.W.Frag} {mg : Str → Option Value} {base : Heap} {x f1 f2 : Str} {C : Addr} {fd : FuncData} (h : ownX K C f1 = true) (hb : PySem.W.findIn K (.ref C) f2 = some none) (g : mg x = some (.ref C)) (kb : KBinds K fd ["self", f1, f2] [f1, f2] self2 self2)
    (ok : FnOk P w K mg base CX0 1 (He.ma K C "__init__") fd ["self", f1, f2] (spX2 K f1 f2)) : XK2 P w K mg base x f1 f2 C (He.ma K C "__init__") fd := by
  obtain ⟨h1, h⟩ := He.ba h
  obtain ⟨h2, h⟩ := He.ba h
  obtain ⟨h3, h⟩ := He.ba h
  obtain ⟨h4, h⟩ := He.ba h
  obtain ⟨h5, h⟩ := He.ba h
  obtain ⟨h6, h⟩ := He.ba h
  obtain ⟨h7, h8⟩ := He.ba h
  exact ⟨⟨rawX_ok h1, He.eqO_ok h2, of_decide_eq_true h3, of_decide_eq_true h4, h5⟩, He.eqO_ok h6, of_decide_eq_true h7, He.eqO_ok h8, hb, g, kb, ok⟩
end Obr
namespace Obr
open PySem PySem.Spec PyProof.Rows L2
/-! ### the head: where each def stands -/
theorem funOf {K : PySem.W.Frag} {x qual : Str} {st : Stmt} {f : Addr} {fd : FuncData} (F : FunD K x qual (defArgs st) (defBody st) (defScope st) [] [] f fd) : Fun K x qual st f fd := by
  obtain ⟨oc, od, dV, kV, doc, pm, an, cdv, ct, osl, rfl, lk, hcd, hD, _⟩ := F.ex
  rcases hD with ⟨_, rfl⟩ | ⟨e, _⟩
  · exact ⟨⟨oc, od, kV, doc, pm, an, cdv, ct, osl, rfl, lk, hcd⟩, F.kp⟩
  · exact absurd rfl e
def dd (a : Str × Option Str) (x qual : Str) (st : Stmt) : He.DefD := ⟨a, x, qual, defArgs st, defBody st, defScope st, [], []⟩
def fn0 : List He.DefD := [dd ("BadStep", some "__init__") "__init__" "BadStep.__init__" (inClass (top 3) 0), dd ("BadText", some "__init__") "__init__" "BadText.__init__" (inClass (top 10) 0), dd ("check_world", none) "check_world" "check_world" (top 17), dd ("check_store", none) "check_store" "check_store" (top 18), dd ("check_steps", none) "check_steps" "check_steps" (top 19), dd ("is_step", none) "is_step" "is_step" (top 20), dd ("read", none) "read" "read" (top 23), dd ("read_store", none) "read_store" "read_store" (top 24), dd ("read_machine", none) "read_machine" "read_machine" (top 25), dd ("are_three", none) "are_three" "are_three" (top 26), dd ("is_number", none) "is_number" "is_number" (top 27), dd ("read_three", none) "read_three" "read_three" (top 28), dd ("_law_mix", none) "_law_mix" "_law_mix" (top 30), dd ("_law_next", none) "_law_next" "_law_next" (top 31), dd ("_law_alike", none) "_law_alike" "_law_alike" (top 32), dd ("_law_world", none) "_law_world" "_law_world" (top 33), dd ("_law_rule", none) "_law_rule" "_law_rule" (top 34), dd ("_law_text", none) "_law_text" "_law_text" (top 35), dd ("_law_kind", none) "_law_kind" "_law_kind" (top 36), dd ("_law_numbers", none) "_law_numbers" "_law_numbers" (top 37)]
def fn1 : List He.DefD := [dd ("_law_due", none) "_law_due" "_law_due" (top 38), dd ("law", none) "law" "law" (top 39)]
def fn : List He.DefD := fn0 ++ fn1
def fa0 : List He.Fa := [.exm "BadText" "BreathError" true, .exm "BadStep" "BreathError" true, .exm "BadStore" "BreathError" true, .exc "BadStore", .free "set", .glo "BadStep", .glo "BadPlan", .glo "NoMachine", .glo "BadDeed", .glo "BadText", .glo "BadStore", .glo "BadRule", .glo "BadCount", .glo "TooMany", .glo "BreathError", .glo "check_world", .glo "check_store", .glo "check_steps", .glo "is_step", .glo "read", .glo "read_store", .glo "read_machine", .glo "are_three", .glo "is_number", .glo "read_three", .glo "_law_mix", .glo "_law_next", .glo "_law_alike", .glo "_law_world", .glo "_law_rule"]
def fa1 : List He.Fa := [.glo "_law_text", .glo "_law_kind", .glo "_law_numbers", .glo "_law_due", .glo "law", .free "len", .free "list", .free "tuple", .free "max", .free "min", .free "range", .free "sum", .free "sorted", .free "enumerate", .free "zip", .free "isinstance", .free "int", .free "str", .free "bool", .free "ValueError", .free "any", .free "divmod", .free "all", .free "set", .int "MOST_CAP" 99, .int "MOST_REFILL" 9, .int "MOST_MACHINES" 5, .int "MOST_STEPS" 6, .int "MOST_LONG" 9, .str "FIGURES" "0123456789"]
def fa : List He.Fa := fa0 ++ fa1
def kitBx (K : PySem.W.Frag) : Bool := decide (PySem.W.kitOne K (.ref (He.ga K "BadText")) (.ref (He.ga K "BadStep")) = some false) && decide (PySem.W.kitOne K (.ref (He.ga K "BadText")) (.ref (He.ga K "BadPlan")) = some false) && decide (PySem.W.kitOne K (.ref (He.ga K "BadText")) (.ref (He.ga K "NoMachine")) = some false) && decide (PySem.W.kitOne K (.ref (He.ga K "BadText")) (.ref (He.ga K "BadDeed")) = some false) && decide (PySem.W.kitOne K (.ref (He.ga K "BadText")) (.ref (He.ga K "BadText")) = some true) && decide (PySem.W.kitOne K (.ref (He.ga K "BadText")) (.ref (He.ga K "BadStore")) = some false) && decide (PySem.W.kitOne K (.ref (He.ga K "BadText")) (.ref (He.ga K "BadRule")) = some false) && decide (PySem.W.kitOne K (.ref (He.ga K "BadText")) (.ref (He.ga K "BadCount")) = some false) && decide (PySem.W.kitOne K (.ref (He.ga K "BadText")) (.ref (He.ga K "TooMany")) = some false) && decide (PySem.W.kitOne K (.ref (He.ga K "BadStep")) (.ref (He.ga K "BadStep")) = some true) && decide (PySem.W.kitOne K (.ref (He.ga K "BadStep")) (.ref (He.ga K "BadPlan")) = some false) && decide (PySem.W.kitOne K (.ref (He.ga K "BadStep")) (.ref (He.ga K "NoMachine")) = some false) && decide (PySem.W.kitOne K (.ref (He.ga K "BadStep")) (.ref (He.ga K "BadDeed")) = some false) && decide (PySem.W.kitOne K (.ref (He.ga K "BadStep")) (.ref (He.ga K "BadText")) = some false) && decide (PySem.W.kitOne K (.ref (He.ga K "BadStep")) (.ref (He.ga K "BadStore")) = some false) && decide (PySem.W.kitOne K (.ref (He.ga K "BadStep")) (.ref (He.ga K "BadRule")) = some false) && decide (PySem.W.kitOne K (.ref (He.ga K "BadStep")) (.ref (He.ga K "BadCount")) = some false) && decide (PySem.W.kitOne K (.ref (He.ga K "BadStep")) (.ref (He.ga K "TooMany")) = some false) && decide (PySem.W.kitOne K (.ref (He.ga K "BadStore")) (.ref (He.ga K "BadStep")) = some false) && decide (PySem.W.kitOne K (.ref (He.ga K "BadStore")) (.ref (He.ga K "BadPlan")) = some false) && decide (PySem.W.kitOne K (.ref (He.ga K "BadStore")) (.ref (He.ga K "NoMachine")) = some false) && decide (PySem.W.kitOne K (.ref (He.ga K "BadStore")) (.ref (He.ga K "BadDeed")) = some false) && decide (PySem.W.kitOne K (.ref (He.ga K "BadStore")) (.ref (He.ga K "BadText")) = some false) && decide (PySem.W.kitOne K (.ref (He.ga K "BadStore")) (.ref (He.ga K "BadStore")) = some true) && decide (PySem.W.kitOne K (.ref (He.ga K "BadStore")) (.ref (He.ga K "BadRule")) = some false) && decide (PySem.W.kitOne K (.ref (He.ga K "BadStore")) (.ref (He.ga K "BadCount")) = some false) && decide (PySem.W.kitOne K (.ref (He.ga K "BadStore")) (.ref (He.ga K "TooMany")) = some false) && decide (PySem.W.kitOne K (.ref (He.ga K "BadText")) (.type "ValueError") = some true) && decide (PySem.W.kitOne K (.ref (He.ga K "BadStep")) (.type "ValueError") = some true) && decide (PySem.W.kitOne K (.ref (He.ga K "BadStore")) (.type "ValueError") = some true) && ownX K (He.ga K "BadText") "row" && ownX K (He.ga K "BadStep") "machine" && baseX K (He.ga K "BreathError") && He.eqO (PySem.W.findIn K (.ref (He.ga K "BadText")) "beat") (some none) && He.eqO (PySem.W.findIn K (.ref (He.ga K "BadStep")) "step") (some none)
def excB (K : PySem.W.Frag) : Bool := (He.eqO (PySem.W.findIn K (.ref (He.ga K "BadText")) "__getattribute__") (some (some (.builtin "BaseException.__getattribute__"))) && He.eqO (PySem.W.findIn K (.ref (He.ga K "BadText")) "__getattr__") (some none) && decide (PySem.W.subIn K (.ref (He.ga K "BadText")) (.type "BaseException") = some true) && PySem.W.hasDictIn K (He.ga K "BadText") && He.eqO (PySem.W.findIn K (.ref (He.ga K "BadText")) "__class__") (some (some (.builtin "object.__class__"))) && He.eqO (PySem.W.specialIn K (.builtin "object.__class__") "__get__") (some (some (.builtin "getset_descriptor.__get__"))) && decide (PySem.W.takesIn K (.builtin "object.__class__") = some true) && decide (PySem.W.mroIn K (He.ga K "BadText") (.type "object") = some true)) && ((He.eqO (PySem.W.findIn K (.ref (He.ga K "BadStep")) "__getattribute__") (some (some (.builtin "BaseException.__getattribute__"))) && He.eqO (PySem.W.findIn K (.ref (He.ga K "BadStep")) "__getattr__") (some none) && decide (PySem.W.subIn K (.ref (He.ga K "BadStep")) (.type "BaseException") = some true) && PySem.W.hasDictIn K (He.ga K "BadStep") && He.eqO (PySem.W.findIn K (.ref (He.ga K "BadStep")) "__class__") (some (some (.builtin "object.__class__"))) && He.eqO (PySem.W.specialIn K (.builtin "object.__class__") "__get__") (some (some (.builtin "getset_descriptor.__get__"))) && decide (PySem.W.takesIn K (.builtin "object.__class__") = some true) && decide (PySem.W.mroIn K (He.ga K "BadStep") (.type "object") = some true)) && (He.eqO (PySem.W.findIn K (.ref (He.ga K "BadStore")) "__getattribute__") (some (some (.builtin "BaseException.__getattribute__"))) && He.eqO (PySem.W.findIn K (.ref (He.ga K "BadStore")) "__getattr__") (some none) && decide (PySem.W.subIn K (.ref (He.ga K "BadStore")) (.type "BaseException") = some true) && PySem.W.hasDictIn K (He.ga K "BadStore") && He.eqO (PySem.W.findIn K (.ref (He.ga K "BadStore")) "__class__") (some (some (.builtin "object.__class__"))) && He.eqO (PySem.W.specialIn K (.builtin "object.__class__") "__get__") (some (some (.builtin "getset_descriptor.__get__"))) && decide (PySem.W.takesIn K (.builtin "object.__class__") = some true) && decide (PySem.W.mroIn K (He.ga K "BadStore") (.type "object") = some true)))
def tabB (K : PySem.W.Frag) : Bool := match K.lookup (He.ga K "law") with
  | some ⟨_, _, .func fd, _⟩ => (match fd.code with
    | .ref c => (match K.lookup c with
      | some ⟨_, _, .fields vs, _⟩ => (match vs[11]? with
        | some (Value.ref P) => (K.lookup P).isNone
        | _ => false)
      | _ => false)
    | _ => false)
  | _ => false
def exA (K : PySem.W.Frag) : Bool := true
def asC (g : Addr → Option Obj) (n : Nat) : List Addr := He.asD g n ++ [cStatics]
def tabOf (K : PySem.W.Frag) : Option Addr := match K.lookup (He.ga K "law") with
  | some ⟨_, _, .func fd, _⟩ => (match fd.code with
    | .ref c => (match K.lookup c with
      | some ⟨_, _, .fields vs, _⟩ => (match vs[11]? with
        | some (Value.ref P) => some P
        | _ => none)
      | _ => none)
    | _ => none)
  | _ => none
def asX (g : Addr → Option Obj) (n : Nat) : List Addr := match tabOf (He.frG g (asC g n)) with
  | some P => (asC g n).filter fun a => !Nat.beq a P
  | none => asC g n
def exB (K : PySem.W.Frag) : Bool := kitBx K && (excB K && (tabB K && (exA K)))
def hookY (n : Nat) (fa : List He.Fa) (fn : List He.DefD) (ex : PySem.W.Frag → Bool) : PySem.W.Hook where
  α := He.AlD × Bool
  obs := fun s => (He.obsD fa fn (He.frG s.heap.get? (asX s.heap.get? n)), ex (He.frG s.heap.get? (asX s.heap.get? n)))
  val := fun _ => (He.valD fn, true)
  says := fun _ h => ∃ K : PySem.W.Frag, K.In h ∧ He.SaysD fa fn K ∧ ex K = true
  of := fun _ _ e => ⟨_, He.frG_in, congrArg (fun z : He.AlD × Bool => z.1) e, congrArg (fun z : He.AlD × Bool => z.2) e⟩
  keeps := fun _ _ _ ⟨K, hK, c⟩ k => ⟨K, PySem.W.Frag.In.keeps hK k, c⟩
abbrev RR : PySem.W.OpenRow := PySem.W.OpenLaw.row PySem.Challenge.rw_onebreath_k12_texts_of_no_world
abbrev hk : PySem.W.Hook := hookY 5 fa fn exB
def ob (s : PySem.W.SharedT) : He.AlD × Bool := (He.obsD fa fn (He.frG (HandSHeadRun.getT s) (asX (HandSHeadRun.getT s) 5)), exB (He.frG (HandSHeadRun.getT s) (asX (HandSHeadRun.getT s) 5)))
theorem ob_eq (s : PySem.W.SharedT) : ob s = hk.obs s.abs := by
  have e : HandSHeadRun.getT s = s.abs.heap.get? := funext (HandSHeadRun.getT_eq s)
  unfold ob
  rw [e] <;> rfl
def loose0 : List Str := ["BreathError", "BadStore", "BadStep", "BadRule", "BadCount", "BadPlan", "TooMany", "NoMachine", "BadDeed", "BadText", "MOST_CAP", "MOST_REFILL", "MOST_MACHINES", "MOST_STEPS", "MOST_LONG", "check_world", "check_store", "check_steps", "is_step", "FIGURES"]
def loose1 : List Str := ["read", "read_store", "read_machine", "are_three", "is_number", "read_three", "_law_mix", "_law_next", "_law_alike", "_law_world", "_law_rule", "_law_text", "_law_kind", "_law_numbers", "_law_due"]
def loose : List Str := loose0 ++ loose1
theorem run (w : World) : HandSHeadRun.RunEq RR (PySem.W.view RR.prog [39]) hk ob 6000 loose w := by
  intro os
  kernel_rfl
theorem tab_none {K : PySem.W.Frag} {h : Heap} {fd : FuncData} {c Pt : Addr} {oc : Value} {od : Option Addr} {osl : Array (Option Value)} {cdv : Value} {q : Str} (xT : tabB K = true) (lk : K.lookup (He.ga K "law") = some ⟨oc, od, .func fd, osl⟩) (hcd : fd.code = .ref c) (_ : PySem.W.codeIn K cdv q = true) (X : K.In h) (C : PySem.W.CodeHd h c Pt) (_ : cdv = .ref c) : K.lookup Pt = none := by
  unfold tabB at xT
  rw [lk] at xT
  simp only [hcd] at xT
  obtain ⟨o, vs, _, _, _, _, _, _, _, ho, _, hd, hv, _⟩ := C
  split at xT
  · rename_i e1 e2 vs' e3 hk
    have g := X _ _ hk
    rw [ho] at g
    cases g
    cases hd
    rw [hv] at xT
    simpa using xT
  · cases xT
theorem facts {P : Program} {w : World} {K : PySem.W.Frag} {h : Heap} {mg : Str → Option Value} {f : Addr} (X : K.In h) (G : h.Ns mainGlobals mg) (hfa : mg ("law" : Str) = some (.ref f)) (c : He.SaysD fa fn K) (x : exB K = true) (hTab : TabAt "law" mg h) :
    ∃ (fd : FuncData) (cs : List (Addr × Addr)) (sp : Sp), (∀ p ∈ cs, h.get? p.2 = some { cls := .none, data := .fields #[] }) ∧ (∀ p ∈ cs, K.lookup p.2 = none) ∧ (∀ p ∈ cs, PySem.W.CodeHd h p.1 p.2) ∧ (∀ (s : Shared) (u : Value), BindsTo s fd ⟨[u], []⟩ [("_law_script", u)]) ∧
      (∀ (H : Hp) (a : Addr) (ns : List Int), ns.length ≤ 63 → (∀ z ∈ ns, Builtin.Int.intBits z ≤ 1048576) → (∀ p ∈ cs, H p.2 = some (.tbl #[])) → SqL K H a (ns.map V.int) → sp [.ref a] H (fun v _ => v = .bl true) fun _ _ _ => False) ∧
      ∀ base : Heap, K.In base → base.Ns mainGlobals mg → (∀ p ∈ cs, LamX.TabB base mg p.1 p.2) → FnOk P w K mg base CX0 9 f fd ["_law_script"] sp := by
  obtain ⟨fd_BadStep___init__, D_BadStep___init__⟩ := c.def_ 0 (d := dd ("BadStep", some "__init__") "__init__" "BadStep.__init__" (inClass (top 3) 0)) rfl
  have b_BadStep___init__ : Binds K fd_BadStep___init__ ["self", "machine", "step"] [] := FunD.bindsN (ps := ["self", "machine", "step"]) D_BadStep___init__ fun _ _ _ _ _ _ us hl => match us, hl with | [_, _, _], _ => rfl
  obtain ⟨fd_BadText___init__, D_BadText___init__⟩ := c.def_ 1 (d := dd ("BadText", some "__init__") "__init__" "BadText.__init__" (inClass (top 10) 0)) rfl
  have b_BadText___init__ : Binds K fd_BadText___init__ ["self", "row"] [] := FunD.bindsN (ps := ["self", "row"]) D_BadText___init__ fun _ _ _ _ _ _ us hl => match us, hl with | [_, _], _ => rfl
  obtain ⟨fd_check_world, D_check_world⟩ := c.def_ 2 (d := dd ("check_world", none) "check_world" "check_world" (top 17)) rfl
  have b_check_world : Binds K fd_check_world ["world"] [] := FunD.bindsN (ps := ["world"]) D_check_world fun _ _ _ _ _ _ us hl => match us, hl with | [_], _ => rfl
  have g_check_world : mg "check_world" = some (.ref (He.ga K "check_world")) := He.glo_ok X G (c.fact 15 (f := .glo "check_world") rfl)
  have C_check_world : Cal K mg "check_world" (He.ga K "check_world") fd_check_world ["world"] := ⟨g_check_world, D_check_world.kp, b_check_world⟩
  obtain ⟨fd_check_store, D_check_store⟩ := c.def_ 3 (d := dd ("check_store", none) "check_store" "check_store" (top 18)) rfl
  have b_check_store : Binds K fd_check_store ["store"] [] := FunD.bindsN (ps := ["store"]) D_check_store fun _ _ _ _ _ _ us hl => match us, hl with | [_], _ => rfl
  have g_check_store : mg "check_store" = some (.ref (He.ga K "check_store")) := He.glo_ok X G (c.fact 16 (f := .glo "check_store") rfl)
  have C_check_store : Cal K mg "check_store" (He.ga K "check_store") fd_check_store ["store"] := ⟨g_check_store, D_check_store.kp, b_check_store⟩
  obtain ⟨fd_check_steps, D_check_steps⟩ := c.def_ 4 (d := dd ("check_steps", none) "check_steps" "check_steps" (top 19)) rfl
  have b_check_steps : Binds K fd_check_steps ["number", "steps", "cap"] [] := FunD.bindsN (ps := ["number", "steps", "cap"]) D_check_steps fun _ _ _ _ _ _ us hl => match us, hl with | [_, _, _], _ => rfl
  have g_check_steps : mg "check_steps" = some (.ref (He.ga K "check_steps")) := He.glo_ok X G (c.fact 17 (f := .glo "check_steps") rfl)
  have C_check_steps : Cal K mg "check_steps" (He.ga K "check_steps") fd_check_steps ["number", "steps", "cap"] := ⟨g_check_steps, D_check_steps.kp, b_check_steps⟩
  obtain ⟨fd_is_step, D_is_step⟩ := c.def_ 5 (d := dd ("is_step", none) "is_step" "is_step" (top 20)) rfl
  have b_is_step : Binds K fd_is_step ["step", "cap"] [] := FunD.bindsN (ps := ["step", "cap"]) D_is_step fun _ _ _ _ _ _ us hl => match us, hl with | [_, _], _ => rfl
  have g_is_step : mg "is_step" = some (.ref (He.ga K "is_step")) := He.glo_ok X G (c.fact 18 (f := .glo "is_step") rfl)
  have C_is_step : Cal K mg "is_step" (He.ga K "is_step") fd_is_step ["step", "cap"] := ⟨g_is_step, D_is_step.kp, b_is_step⟩
  obtain ⟨fd_read, D_read⟩ := c.def_ 6 (d := dd ("read", none) "read" "read" (top 23)) rfl
  have b_read : Binds K fd_read ["text"] [] := FunD.bindsN (ps := ["text"]) D_read fun _ _ _ _ _ _ us hl => match us, hl with | [_], _ => rfl
  have g_read : mg "read" = some (.ref (He.ga K "read")) := He.glo_ok X G (c.fact 19 (f := .glo "read") rfl)
  have C_read : Cal K mg "read" (He.ga K "read") fd_read ["text"] := ⟨g_read, D_read.kp, b_read⟩
  obtain ⟨fd_read_store, D_read_store⟩ := c.def_ 7 (d := dd ("read_store", none) "read_store" "read_store" (top 24)) rfl
  have b_read_store : Binds K fd_read_store ["row"] [] := FunD.bindsN (ps := ["row"]) D_read_store fun _ _ _ _ _ _ us hl => match us, hl with | [_], _ => rfl
  have g_read_store : mg "read_store" = some (.ref (He.ga K "read_store")) := He.glo_ok X G (c.fact 20 (f := .glo "read_store") rfl)
  have C_read_store : Cal K mg "read_store" (He.ga K "read_store") fd_read_store ["row"] := ⟨g_read_store, D_read_store.kp, b_read_store⟩
  obtain ⟨fd_read_machine, D_read_machine⟩ := c.def_ 8 (d := dd ("read_machine", none) "read_machine" "read_machine" (top 25)) rfl
  have b_read_machine : Binds K fd_read_machine ["number", "row"] [] := FunD.bindsN (ps := ["number", "row"]) D_read_machine fun _ _ _ _ _ _ us hl => match us, hl with | [_, _], _ => rfl
  have g_read_machine : mg "read_machine" = some (.ref (He.ga K "read_machine")) := He.glo_ok X G (c.fact 21 (f := .glo "read_machine") rfl)
  have C_read_machine : Cal K mg "read_machine" (He.ga K "read_machine") fd_read_machine ["number", "row"] := ⟨g_read_machine, D_read_machine.kp, b_read_machine⟩
  obtain ⟨fd_are_three, D_are_three⟩ := c.def_ 9 (d := dd ("are_three", none) "are_three" "are_three" (top 26)) rfl
  have b_are_three : Binds K fd_are_three ["words"] [] := FunD.bindsN (ps := ["words"]) D_are_three fun _ _ _ _ _ _ us hl => match us, hl with | [_], _ => rfl
  have g_are_three : mg "are_three" = some (.ref (He.ga K "are_three")) := He.glo_ok X G (c.fact 22 (f := .glo "are_three") rfl)
  have C_are_three : Cal K mg "are_three" (He.ga K "are_three") fd_are_three ["words"] := ⟨g_are_three, D_are_three.kp, b_are_three⟩
  obtain ⟨fd_is_number, D_is_number⟩ := c.def_ 10 (d := dd ("is_number", none) "is_number" "is_number" (top 27)) rfl
  have b_is_number : Binds K fd_is_number ["word"] [] := FunD.bindsN (ps := ["word"]) D_is_number fun _ _ _ _ _ _ us hl => match us, hl with | [_], _ => rfl
  have g_is_number : mg "is_number" = some (.ref (He.ga K "is_number")) := He.glo_ok X G (c.fact 23 (f := .glo "is_number") rfl)
  have C_is_number : Cal K mg "is_number" (He.ga K "is_number") fd_is_number ["word"] := ⟨g_is_number, D_is_number.kp, b_is_number⟩
  obtain ⟨fd_read_three, D_read_three⟩ := c.def_ 11 (d := dd ("read_three", none) "read_three" "read_three" (top 28)) rfl
  have b_read_three : Binds K fd_read_three ["words"] [] := FunD.bindsN (ps := ["words"]) D_read_three fun _ _ _ _ _ _ us hl => match us, hl with | [_], _ => rfl
  have g_read_three : mg "read_three" = some (.ref (He.ga K "read_three")) := He.glo_ok X G (c.fact 24 (f := .glo "read_three") rfl)
  have C_read_three : Cal K mg "read_three" (He.ga K "read_three") fd_read_three ["words"] := ⟨g_read_three, D_read_three.kp, b_read_three⟩
  obtain ⟨fd__law_mix, D__law_mix⟩ := c.def_ 12 (d := dd ("_law_mix", none) "_law_mix" "_law_mix" (top 30)) rfl
  have b__law_mix : Binds K fd__law_mix ["_law_script", "_law_seed"] [] := FunD.bindsN (ps := ["_law_script", "_law_seed"]) D__law_mix fun _ _ _ _ _ _ us hl => match us, hl with | [_, _], _ => rfl
  have g__law_mix : mg "_law_mix" = some (.ref (He.ga K "_law_mix")) := He.glo_ok X G (c.fact 25 (f := .glo "_law_mix") rfl)
  have C__law_mix : Cal K mg "_law_mix" (He.ga K "_law_mix") fd__law_mix ["_law_script", "_law_seed"] := ⟨g__law_mix, D__law_mix.kp, b__law_mix⟩
  obtain ⟨fd__law_next, D__law_next⟩ := c.def_ 13 (d := dd ("_law_next", none) "_law_next" "_law_next" (top 31)) rfl
  have b__law_next : Binds K fd__law_next ["_law_h", "_law_many"] [] := FunD.bindsN (ps := ["_law_h", "_law_many"]) D__law_next fun _ _ _ _ _ _ us hl => match us, hl with | [_, _], _ => rfl
  have g__law_next : mg "_law_next" = some (.ref (He.ga K "_law_next")) := He.glo_ok X G (c.fact 26 (f := .glo "_law_next") rfl)
  have C__law_next : Cal K mg "_law_next" (He.ga K "_law_next") fd__law_next ["_law_h", "_law_many"] := ⟨g__law_next, D__law_next.kp, b__law_next⟩
  obtain ⟨fd__law_alike, D__law_alike⟩ := c.def_ 14 (d := dd ("_law_alike", none) "_law_alike" "_law_alike" (top 32)) rfl
  have b__law_alike : Binds K fd__law_alike ["_law_found", "_law_due_here"] [] := FunD.bindsN (ps := ["_law_found", "_law_due_here"]) D__law_alike fun _ _ _ _ _ _ us hl => match us, hl with | [_, _], _ => rfl
  have g__law_alike : mg "_law_alike" = some (.ref (He.ga K "_law_alike")) := He.glo_ok X G (c.fact 27 (f := .glo "_law_alike") rfl)
  have C__law_alike : Cal K mg "_law_alike" (He.ga K "_law_alike") fd__law_alike ["_law_found", "_law_due_here"] := ⟨g__law_alike, D__law_alike.kp, b__law_alike⟩
  obtain ⟨fd__law_world, D__law_world⟩ := c.def_ 15 (d := dd ("_law_world", none) "_law_world" "_law_world" (top 33)) rfl
  have b__law_world : Binds K fd__law_world ["_law_h", "_law_most", "_law_cap"] [] := FunD.bindsN (ps := ["_law_h", "_law_most", "_law_cap"]) D__law_world fun _ _ _ _ _ _ us hl => match us, hl with | [_, _, _], _ => rfl
  have g__law_world : mg "_law_world" = some (.ref (He.ga K "_law_world")) := He.glo_ok X G (c.fact 28 (f := .glo "_law_world") rfl)
  have C__law_world : Cal K mg "_law_world" (He.ga K "_law_world") fd__law_world ["_law_h", "_law_most", "_law_cap"] := ⟨g__law_world, D__law_world.kp, b__law_world⟩
  obtain ⟨fd__law_rule, D__law_rule⟩ := c.def_ 16 (d := dd ("_law_rule", none) "_law_rule" "_law_rule" (top 34)) rfl
  have b__law_rule : Binds K fd__law_rule ["_law_h"] [] := FunD.bindsN (ps := ["_law_h"]) D__law_rule fun _ _ _ _ _ _ us hl => match us, hl with | [_], _ => rfl
  have g__law_rule : mg "_law_rule" = some (.ref (He.ga K "_law_rule")) := He.glo_ok X G (c.fact 29 (f := .glo "_law_rule") rfl)
  have C__law_rule : Cal K mg "_law_rule" (He.ga K "_law_rule") fd__law_rule ["_law_h"] := ⟨g__law_rule, D__law_rule.kp, b__law_rule⟩
  obtain ⟨fd__law_text, D__law_text⟩ := c.def_ 17 (d := dd ("_law_text", none) "_law_text" "_law_text" (top 35)) rfl
  have b__law_text : Binds K fd__law_text ["_law_world_here"] [] := FunD.bindsN (ps := ["_law_world_here"]) D__law_text fun _ _ _ _ _ _ us hl => match us, hl with | [_], _ => rfl
  have g__law_text : mg "_law_text" = some (.ref (He.ga K "_law_text")) := He.glo_ok X G (c.fact 30 (f := .glo "_law_text") rfl)
  have C__law_text : Cal K mg "_law_text" (He.ga K "_law_text") fd__law_text ["_law_world_here"] := ⟨g__law_text, D__law_text.kp, b__law_text⟩
  obtain ⟨fd__law_kind, D__law_kind⟩ := c.def_ 18 (d := dd ("_law_kind", none) "_law_kind" "_law_kind" (top 36)) rfl
  have b__law_kind : Binds K fd__law_kind ["_law_call"] [] := FunD.bindsN (ps := ["_law_call"]) D__law_kind fun _ _ _ _ _ _ us hl => match us, hl with | [_], _ => rfl
  have g__law_kind : mg "_law_kind" = some (.ref (He.ga K "_law_kind")) := He.glo_ok X G (c.fact 31 (f := .glo "_law_kind") rfl)
  have C__law_kind : Cal K mg "_law_kind" (He.ga K "_law_kind") fd__law_kind ["_law_call"] := ⟨g__law_kind, D__law_kind.kp, b__law_kind⟩
  obtain ⟨fd__law_numbers, D__law_numbers⟩ := c.def_ 19 (d := dd ("_law_numbers", none) "_law_numbers" "_law_numbers" (top 37)) rfl
  have b__law_numbers : Binds K fd__law_numbers ["_law_words"] [] := FunD.bindsN (ps := ["_law_words"]) D__law_numbers fun _ _ _ _ _ _ us hl => match us, hl with | [_], _ => rfl
  have g__law_numbers : mg "_law_numbers" = some (.ref (He.ga K "_law_numbers")) := He.glo_ok X G (c.fact 32 (f := .glo "_law_numbers") rfl)
  have C__law_numbers : Cal K mg "_law_numbers" (He.ga K "_law_numbers") fd__law_numbers ["_law_words"] := ⟨g__law_numbers, D__law_numbers.kp, b__law_numbers⟩
  obtain ⟨fd__law_due, D__law_due⟩ := c.def_ 20 (d := dd ("_law_due", none) "_law_due" "_law_due" (top 38)) rfl
  have b__law_due : Binds K fd__law_due ["_law_text_here"] [] := FunD.bindsN (ps := ["_law_text_here"]) D__law_due fun _ _ _ _ _ _ us hl => match us, hl with | [_], _ => rfl
  have g__law_due : mg "_law_due" = some (.ref (He.ga K "_law_due")) := He.glo_ok X G (c.fact 33 (f := .glo "_law_due") rfl)
  have C__law_due : Cal K mg "_law_due" (He.ga K "_law_due") fd__law_due ["_law_text_here"] := ⟨g__law_due, D__law_due.kp, b__law_due⟩
  obtain ⟨fd_law, D_law⟩ := c.def_ 21 (d := dd ("law", none) "law" "law" (top 39)) rfl
  have b_law : Binds K fd_law ["_law_script"] [] := FunD.bindsN (ps := ["_law_script"]) D_law fun _ _ _ _ _ _ us hl => match us, hl with | [_], _ => rfl
  have g_law : mg "law" = some (.ref (He.ga K "law")) := He.glo_ok X G (c.fact 34 (f := .glo "law") rfl)
  have C_law : Cal K mg "law" (He.ga K "law") fd_law ["_law_script"] := ⟨g_law, D_law.kp, b_law⟩
  have B : Blt mg := ⟨He.free_ok X G (c.fact 35 (f := .free "len") rfl), He.free_ok X G (c.fact 36 (f := .free "list") rfl), He.free_ok X G (c.fact 37 (f := .free "tuple") rfl), He.free_ok X G (c.fact 38 (f := .free "max") rfl), He.free_ok X G (c.fact 39 (f := .free "min") rfl), He.free_ok X G (c.fact 40 (f := .free "range") rfl), He.free_ok X G (c.fact 41 (f := .free "sum") rfl), He.free_ok X G (c.fact 42 (f := .free "sorted") rfl), He.free_ok X G (c.fact 43 (f := .free "enumerate") rfl), He.free_ok X G (c.fact 44 (f := .free "zip") rfl), He.free_ok X G (c.fact 45 (f := .free "isinstance") rfl), He.free_ok X G (c.fact 46 (f := .free "int") rfl), He.free_ok X G (c.fact 47 (f := .free "str") rfl), He.free_ok X G (c.fact 48 (f := .free "bool") rfl), He.free_ok X G (c.fact 49 (f := .free "ValueError") rfl)⟩
  have Bany : mg "any" = none := He.free_ok X G (c.fact 50 (f := .free "any") rfl)
  have Ball : mg "all" = none := He.free_ok X G (c.fact 52 (f := .free "all") rfl)
  have Bset : mg "set" = none := He.free_ok X G (c.fact 53 (f := .free "set") rfl)
  have Bdivmod : mg "divmod" = none := He.free_ok X G (c.fact 51 (f := .free "divmod") rfl)
  obtain ⟨xK, x0⟩ := He.ba x
  obtain ⟨xE, x0⟩ := He.ba x0
  obtain ⟨xT, x⟩ := He.ba x0
  obtain ⟨t_MOST_CAP, g_MOST_CAP⟩ := He.int_ok X G (c.fact 54 (f := .int "MOST_CAP" 99) rfl)
  obtain ⟨t_MOST_REFILL, g_MOST_REFILL⟩ := He.int_ok X G (c.fact 55 (f := .int "MOST_REFILL" 9) rfl)
  obtain ⟨t_MOST_MACHINES, g_MOST_MACHINES⟩ := He.int_ok X G (c.fact 56 (f := .int "MOST_MACHINES" 5) rfl)
  obtain ⟨t_MOST_STEPS, g_MOST_STEPS⟩ := He.int_ok X G (c.fact 57 (f := .int "MOST_STEPS" 6) rfl)
  obtain ⟨t_MOST_LONG, g_MOST_LONG⟩ := He.int_ok X G (c.fact 58 (f := .int "MOST_LONG" 9) rfl)
  obtain ⟨t_FIGURES, g_FIGURES⟩ := He.str_ok X G (c.fact 59 (f := .str "FIGURES" "0123456789") rfl)
  have gBreathError : mg "BreathError" = some (.ref (He.ga K "BreathError")) := He.glo_ok X G (c.fact 14 (f := .glo "BreathError") rfl)
  have e := hfa.symm.trans g_law
  cases e
  obtain ⟨a0, o0, fd0, cL, Pt, t1, t2, t3, t4, t5, t6⟩ := hTab
  rw [g_law] at t1
  cases t1
  have FL : Fun K "law" "law" s_law (He.ga K "law") fd_law := funOf D_law
  obtain ⟨oc, od, kV, doc, pm, an, cdv, ct, osl, efd, lk, hcdK⟩ := FL.ex
  have g1 := X _ _ lk
  rw [g1] at t2
  cases t2
  cases t3
  have hcd : fd_law.code = .ref cL := t4
  have ecd : cdv = .ref cL := by have z := t4; rw [efd] at z; exact z
  have nP : K.lookup Pt = none := tab_none xT lk hcd hcdK X t5 ecd
  refine ⟨fd_law, [(cL, Pt)], LS (aLaw K Pt), fun p hp => by rw [List.mem_singleton.mp hp]; exact t6, fun p hp => by rw [List.mem_singleton.mp hp]; exact nP, fun p hp => by rw [List.mem_singleton.mp hp]; exact t5, fun s v => FunD.bindsA (ps := ["_law_script"]) D_law (fun _ _ _ _ _ _ us hl => match us, hl with | [_], _ => rfl) s [v] rfl, ?_, fun base _ _ TBh => ?_⟩
  · exact fun H a ns hl _ hH hS => ⟨fun _ F H => F = H, H, fun v _ => v = .bl true, Obr.hid_eq, rfl, ⟨a, ns, rfl, hS, hl, hH (cL, Pt) (List.mem_singleton_self _), fun _ => rfl⟩, fun v F' H' e r => r⟩
  have G_next := ok_next (P := P) (w := w) (K := K) (mg := mg) (base := base) (funOf D__law_next) B
  have G_mix := ok_mix (P := P) (w := w) (K := K) (mg := mg) (base := base) (funOf D__law_mix) B
  have G_rule := ok_rule (P := P) (w := w) (K := K) (mg := mg) (base := base) (funOf D__law_rule) B C__law_next G_next
  have G_world := ok_world (P := P) (w := w) (K := K) (mg := mg) (base := base) (funOf D__law_world) B C__law_next G_next
  have G_alike := ok_alike (P := P) (w := w) (K := K) (mg := mg) (base := base) (funOf D__law_alike) B C__law_alike 7
  have G_is_step := ok_is_step (P := P) (w := w) (K := K) (mg := mg) (base := base) (funOf D_is_step) B g_MOST_LONG
  have G_check_store := ok_check_store (P := P) (w := w) (K := K) (mg := mg) (base := base) (funOf D_check_store) B g_MOST_CAP g_MOST_REFILL
  have G_check_steps := ok_check_steps (P := P) (w := w) (K := K) (mg := mg) (base := base) (funOf D_check_steps) B g_MOST_STEPS C_is_step G_is_step
  have G_check_world := ok_check_world (P := P) (w := w) (K := K) (mg := mg) (base := base) (funOf D_check_world) B g_MOST_MACHINES C_check_store G_check_store C_check_steps G_check_steps
  have G_is_number := ok_is_number (P := P) (w := w) (K := K) (mg := mg) (base := base) (funOf D_is_number) B g_FIGURES Ball
  have G_are_three := ok_are_three (P := P) (w := w) (K := K) (mg := mg) (base := base) (funOf D_are_three) B Ball C_is_number G_is_number
  have G_read_three := ok_read_three (P := P) (w := w) (K := K) (mg := mg) (base := base) (funOf D_read_three) B
  have G_read_store := ok_read_store (P := P) (w := w) (K := K) (mg := mg) (base := base) (funOf D_read_store) B C_are_three G_are_three C_read_three G_read_three
  have G_read_machine := ok_read_machine (P := P) (w := w) (K := K) (mg := mg) (base := base) (funOf D_read_machine) B Ball C_are_three G_are_three C_read_three G_read_three
  have G_read := ok_read (P := P) (w := w) (K := K) (mg := mg) (base := base) (funOf D_read) B C_read_store G_read_store C_read_machine G_read_machine C_check_world G_check_world
  have G_text := ok__law_text (P := P) (w := w) (K := K) (mg := mg) (base := base) (funOf D__law_text) B
  have gc_BadStep : mg "BadStep" = some (.ref (He.ga K "BadStep")) := He.glo_ok X G (c.fact 5 (f := .glo "BadStep") rfl)
  have gc_BadPlan : mg "BadPlan" = some (.ref (He.ga K "BadPlan")) := He.glo_ok X G (c.fact 6 (f := .glo "BadPlan") rfl)
  have gc_NoMachine : mg "NoMachine" = some (.ref (He.ga K "NoMachine")) := He.glo_ok X G (c.fact 7 (f := .glo "NoMachine") rfl)
  have gc_BadDeed : mg "BadDeed" = some (.ref (He.ga K "BadDeed")) := He.glo_ok X G (c.fact 8 (f := .glo "BadDeed") rfl)
  have gc_BadText : mg "BadText" = some (.ref (He.ga K "BadText")) := He.glo_ok X G (c.fact 9 (f := .glo "BadText") rfl)
  have gc_BadStore : mg "BadStore" = some (.ref (He.ga K "BadStore")) := He.glo_ok X G (c.fact 10 (f := .glo "BadStore") rfl)
  have gc_BadRule : mg "BadRule" = some (.ref (He.ga K "BadRule")) := He.glo_ok X G (c.fact 11 (f := .glo "BadRule") rfl)
  have gc_BadCount : mg "BadCount" = some (.ref (He.ga K "BadCount")) := He.glo_ok X G (c.fact 12 (f := .glo "BadCount") rfl)
  have gc_TooMany : mg "TooMany" = some (.ref (He.ga K "TooMany")) := He.glo_ok X G (c.fact 13 (f := .glo "TooMany") rfl)
  have gc_BreathError : mg "BreathError" = some (.ref (He.ga K "BreathError")) := He.glo_ok X G (c.fact 14 (f := .glo "BreathError") rfl)
  have xmBadText := He.exm_ok (c.fact 0 (f := .exm "BadText" "BreathError" true) rfl)
  have xmBadStep := He.exm_ok (c.fact 1 (f := .exm "BadStep" "BreathError" true) rfl)
  have xmBadStore := He.exm_ok (c.fact 2 (f := .exm "BadStore" "BreathError" true) rfl)
  have XBadStore : XF K mg "BadStore" (He.ga K "BadStore") := let z := He.exc_ok (c.fact 3 (f := .exc "BadStore") rfl); ⟨z.1, gc_BadStore, z.2.1, z.2.2.1, z.2.2.2⟩
  unfold kitBx at xK
  unfold excB at xE
  simp only [Bool.and_eq_true] at xK xE
  obtain ⟨⟨⟨⟨⟨⟨⟨⟨⟨⟨⟨⟨⟨⟨⟨⟨⟨⟨⟨⟨⟨⟨⟨⟨⟨⟨⟨⟨⟨⟨⟨⟨⟨⟨k1, k2⟩, k3⟩, k4⟩, k5⟩, k6⟩, k7⟩, k8⟩, k9⟩, k10⟩, k11⟩, k12⟩, k13⟩, k14⟩, k15⟩, k16⟩, k17⟩, k18⟩, k19⟩, k20⟩, k21⟩, k22⟩, k23⟩, k24⟩, k25⟩, k26⟩, k27⟩, k28⟩, k29⟩, k30⟩, k31⟩, k32⟩, k33⟩, k34⟩, k35⟩ := xK
  obtain ⟨⟨⟨⟨⟨⟨⟨⟨ea1, ea2⟩, ea3⟩, ea4⟩, ea5⟩, ea6⟩, ea7⟩, ea8⟩, ⟨⟨⟨⟨⟨⟨⟨eb1, eb2⟩, eb3⟩, eb4⟩, eb5⟩, eb6⟩, eb7⟩, eb8⟩, ⟨⟨⟨⟨⟨⟨⟨ec1, ec2⟩, ec3⟩, ec4⟩, ec5⟩, ec6⟩, ec7⟩, ec8⟩⟩ := xE
  have XCBadText : ExcC K (He.ga K "BadText") := ⟨He.eqO_ok ea1, He.eqO_ok ea2, of_decide_eq_true ea3, ea4, He.eqO_ok ea5, He.eqO_ok ea6, of_decide_eq_true ea7, of_decide_eq_true ea8⟩
  have XfBadText : XfC K (He.ga K "BadText") := ⟨He.eqO_ok ea1, He.eqO_ok ea2, of_decide_eq_true ea3, ea4⟩
  have XCBadStep : ExcC K (He.ga K "BadStep") := ⟨He.eqO_ok eb1, He.eqO_ok eb2, of_decide_eq_true eb3, eb4, He.eqO_ok eb5, He.eqO_ok eb6, of_decide_eq_true eb7, of_decide_eq_true eb8⟩
  have XfBadStep : XfC K (He.ga K "BadStep") := ⟨He.eqO_ok eb1, He.eqO_ok eb2, of_decide_eq_true eb3, eb4⟩
  have XCBadStore : ExcC K (He.ga K "BadStore") := ⟨He.eqO_ok ec1, He.eqO_ok ec2, of_decide_eq_true ec3, ec4, He.eqO_ok ec5, He.eqO_ok ec6, of_decide_eq_true ec7, of_decide_eq_true ec8⟩
  obtain ⟨bx1, bx2⟩ := baseX_ok k33
  have kbT : KBinds K fd_BadText___init__ ["self", "row"] ["row"] self1 self1 := FunD.selfB D_BadText___init__ fun _ _ _ _ _ _ _ _ => rfl
  have kbP : KBinds K fd_BadStep___init__ ["self", "machine", "step"] ["machine", "step"] self2 self2 := FunD.selfB3 D_BadStep___init__ fun _ _ _ _ _ _ _ _ _ => rfl
  have okT := ok_BadText___init__ (P := P) (w := w) (K := K) (mg := mg) (base := base) (funOf D_BadText___init__) gc_BreathError bx1 bx2
  have okP := ok_BadStep___init__ (P := P) (w := w) (K := K) (mg := mg) (base := base) (funOf D_BadStep___init__) gc_BreathError bx1 bx2
  have XT := ownX_ok k31 gc_BadText kbT okT
  have XP := ownX2_ok k32 (He.eqO_ok k35) gc_BadStep kbP okP
  have G_is_stepT := okT_is_step (P := P) (w := w) (K := K) (mg := mg) (base := base) (funOf D_is_step) B g_MOST_LONG
  have G_check_storeB := okB_check_store (P := P) (w := w) (K := K) (mg := mg) (base := base) (funOf D_check_store) B g_MOST_CAP g_MOST_REFILL XBadStore
  have G_check_stepsB := okB_check_steps (P := P) (w := w) (K := K) (mg := mg) (base := base) (funOf D_check_steps) B g_MOST_STEPS XP C_is_step G_is_stepT
  have G_check_worldB := okB_check_world (P := P) (w := w) (K := K) (mg := mg) (base := base) (funOf D_check_world) B g_MOST_MACHINES XP C_check_store G_check_storeB C_check_steps G_check_stepsB
  have G_read_storeB := okB_read_store (P := P) (w := w) (K := K) (mg := mg) (base := base) (funOf D_read_store) B XT C_are_three G_are_three C_read_three G_read_three
  have G_read_machineB := okB_read_machine (P := P) (w := w) (K := K) (mg := mg) (base := base) (funOf D_read_machine) B Ball XT C_are_three G_are_three C_read_three G_read_three
  have G_readB := okB_read (P := P) (w := w) (K := K) (mg := mg) (base := base) (funOf D_read) B C_read_store G_read_storeB C_read_machine G_read_machineB C_check_world G_check_worldB
  have G_numbers := ok__law_numbers (P := P) (w := w) (K := K) (mg := mg) (base := base) (funOf D__law_numbers) B
  have G_due := ok__law_due (P := P) (w := w) (K := K) (mg := mg) (base := base) (funOf D__law_due) B C__law_numbers G_numbers
  have G_kindB := gok_kindB (P := P) (w := w) (K := K) (mg := mg) (base := base) (kl := 7) (funOf D__law_kind) B C__law_kind gc_BadStep gc_BadPlan gc_NoMachine gc_BadDeed gc_BadText gc_BadStore gc_BadRule gc_BadCount gc_TooMany gc_BreathError (of_decide_eq_true k1) (of_decide_eq_true k2) (of_decide_eq_true k3) (of_decide_eq_true k4) (of_decide_eq_true k5) (of_decide_eq_true k6) (of_decide_eq_true k7) (of_decide_eq_true k8) (of_decide_eq_true k9) (of_decide_eq_true k10) (of_decide_eq_true k11) (of_decide_eq_true k12) (of_decide_eq_true k13) (of_decide_eq_true k14) (of_decide_eq_true k15) (of_decide_eq_true k16) (of_decide_eq_true k17) (of_decide_eq_true k18) (of_decide_eq_true k19) (of_decide_eq_true k20) (of_decide_eq_true k21) (of_decide_eq_true k22) (of_decide_eq_true k23) (of_decide_eq_true k24) (of_decide_eq_true k25) (of_decide_eq_true k26) (of_decide_eq_true k27) (of_decide_eq_true k28) xmBadText XCBadText (of_decide_eq_true k29) xmBadStep XCBadStep (of_decide_eq_true k30) xmBadStore XCBadStore XfBadText XfBadStep (He.eqO_ok k34) XT.no XP.no1 XP.no2
  exact ok_law (P := P) (w := w) (K := K) (mg := mg) (base := base) (funOf D_law) B C__law_mix G_mix C__law_world G_world C__law_next G_next C__law_alike G_alike C__law_text G_text C__law_due G_due C_read G_readB C__law_kind G_kindB (TBh (cL, Pt) (List.mem_singleton_self _)) hcd
end Obr
open PySem PySem.W PySem.Calls PyProof.Rows
theorem PySem.Challenge.cw_onebreath_k12_texts_of_no_world_holds : PySem.Challenge.rw_onebreath_k12_texts_of_no_world.Holds := by
  w_on; o_law
  refine HandSHeadRun.head_any (r := OpenLaw.row PySem.Challenge.rw_onebreath_k12_texts_of_no_world) (q := view (OpenLaw.row PySem.Challenge.rw_onebreath_k12_texts_of_no_world).prog [39]) (H := Obr.hk) (ob := Obr.ob) (M := 6000) (loose := Obr.loose) (d := HandSHeadRun.topDef (OpenLaw.row PySem.Challenge.rw_onebreath_k12_texts_of_no_world).prog 39) (kwd := []) Obr.ob_eq
    (by kernel_rfl) (fun s => by kernel_rfl) Obr.run (by kernel_rfl) (by kernel_rfl) (by kernel_rfl) (by rfl) (by first | assumption | decide +kernel) (by decide +kernel) ⟨rfl, rfl, rfl, rfl, rfl, by decide +kernel⟩ ?hw ?hc
  case hw => w_witness2
  case hc =>
    refine Obr.walk_ofTsG (l := PySem.Challenge.rw_onebreath_k12_texts_of_no_world) (n := 63) (k := 9) (x := "_law_script") (CX := fun _ => L2.CX0) rfl (by decide) (by kernel_rfl) ⟨rfl, by decide, by decide⟩ (by kernel_rfl) ?F (fun _ _ _ _ _ z => z)
    intro w mg fa h Y G hmg0 hTab
    obtain ⟨K, KX, c, x⟩ := Y
    have e : (HandSHeadRun.topDef (OpenLaw.row PySem.Challenge.rw_onebreath_k12_texts_of_no_world).prog 39).name = ("law" : PySem.Str) := by kernel_rfl
    rw [e] at hmg0 hTab
    exact ⟨K, KX, Obr.facts (P := (PySem.Challenge.rw_onebreath_k12_texts_of_no_world).prog) (w := w) KX G hmg0 c x hTab⟩
