import PyProof.Rows.All
import Wide.All
import OpenK.AllK
import Wide.FinOn
import HandS.ForMost
import HandS.Conv
import HandS.TupAny
import HandS.Wide
import HandS.TupLe
import HandS.Deep
import HandS.SetFor
import HandS.SortRule
import KE.GoesEnum
import HandS.Walk
import HandS.ClsMeth
import KE.KDictKeyed
import KE.KeyNested
import KE.GoesMore
import HandS.Zip
import HandS.Lambda
import HandS.Nested
import KE.KDflt
import HandS.ExcOwn
import KE.GoesComp
import HandS.ExcIs
import HandS.RaiseMore
import HandS.FStr
import HandS.WordsExc
import HandS.Style
import HandS.IsInst
import HandS.SortInts
import HandS.HeadWalk
import HandS.EndOwn
import HandS.Head0
import HandS.Head1
import HandS.Head2
import HandS.Head3
import HandS.HeadEnd
import HandS.HeadHook1
import HandS.HeadHook2
import PySem.Challenge.RW_onebreath_k04_whole_rounds_for_ever
set_option Elab.async false
set_option linter.all false
set_option maxRecDepth 100000
set_option maxHeartbeats 0
namespace Obr
open PySem L2

/-! ### 1. A heap F that is spoken of, and what is hidden of the true heap H: J s F H, s the state of what is hidden -/
structure Hid {S : Type} (J : S → Hp → Hp → Prop) : Prop where
  ex : ∀ {s F H}, J s F H → ∀ a o, F a = some o → H a = some o
  al : ∀ {s F H p o}, J s F H → H p = none → J s (upd F p o) (upd H p o)
  mu : ∀ {s F H a o o'}, J s F H → F a = some o → J s (upd F a o') (upd H a o')

section
variable {S : Type} {J : S → Hp → Hp → Prop}
theorem Hid.fresh (hd : Hid J) {s F H p} (j : J s F H) (h : H p = none) : F p = none := by
  cases e : F p with
  | none => rfl
  | some o =>
    rw [hd.ex j _ _ e] at h
    cases h
theorem Hid.sqL (hd : Hid J) {s F H} (j : J s F H) {K a xs} (h : SqL K F a xs) : SqL K H a xs := by
  rcases h with (h | ⟨o, h⟩) | h
  · exact Or.inl (Or.inl (hd.ex j _ _ h))
  · exact Or.inl (Or.inr ⟨o, hd.ex j _ _ h⟩)
  · exact Or.inr h
theorem Hid.sqT (hd : Hid J) {s F H} (j : J s F H) {K a xs} (h : SqT K F a xs) : SqT K H a xs := by
  rcases h with (h | ⟨o, h⟩) | h
  · exact Or.inl (Or.inl (hd.ex j _ _ h))
  · exact Or.inl (Or.inr ⟨o, hd.ex j _ _ h⟩)
  · exact Or.inr h
end
/-- nothing hidden -/
theorem hid_eq : Hid (fun (_ : Unit) F H => F = H) where
  ex := fun {s F H} j a o h => by cases j; exact h
  al := fun {s F H p o} j h => by cases j; rfl
  mu := fun {s F H a o o'} j h => by cases j; rfl

/-! ### 2. What a reading comes to, over F -/
def EW {S : Type} (J : S → Hp → Hp → Prop) (te : TE) (σ : L2.St) (s : S) (F : Hp) (R : V → S → Hp → Prop) : Prop :=
  ∀ H, J s F H → ∀ Q : VK, (∀ v s' F' H', J s' F' H' → R v s' F' → Q v H') → te σ H Q
def TW {S : Type} (J : S → Hp → Hp → Prop) (tt : TT) (σ : L2.St) (s : S) (F : Hp) (R : Bool → S → Hp → Prop) : Prop :=
  ∀ H, J s F H → ∀ Q : Bool → Hp → Prop, (∀ b s' F' H', J s' F' H' → R b s' F' → Q b H') → tt σ H Q
def AW {S : Type} (J : S → Hp → Hp → Prop) (ta : TA) (σ : L2.St) (s : S) (F : Hp) (R : List V → S → Hp → Prop) : Prop :=
  ∀ H, J s F H → ∀ Q : List V → Hp → Prop, (∀ vs s' F' H', J s' F' H' → R vs s' F' → Q vs H') → ta σ H Q
def OW {S : Type} (J : S → Hp → Hp → Prop) (to : TO) (σ : L2.St) (s : S) (F : Hp) (R : Option Int → S → Hp → Prop) : Prop :=
  ∀ H, J s F H → ∀ Q : Option Int → Hp → Prop, (∀ o s' F' H', J s' F' H' → R o s' F' → Q o H') → to σ H Q
/-- an operation on values -/
def RW {S : Type} (J : S → Hp → Hp → Prop) (r : R2) (x y : V) (s : S) (F : Hp) (R : V → S → Hp → Prop) : Prop :=
  ∀ H, J s F H → ∀ Q : VK, (∀ v s' F' H', J s' F' H' → R v s' F' → Q v H') → r x y H Q
def UW {S : Type} (J : S → Hp → Hp → Prop) (r : V → Hp → VK → Prop) (x : V) (s : S) (F : Hp) (R : V → S → Hp → Prop) : Prop :=
  ∀ H, J s F H → ∀ Q : VK, (∀ v s' F' H', J s' F' H' → R v s' F' → Q v H') → r x H Q
def CW {S : Type} (J : S → Hp → Hp → Prop) (r : List V → Hp → VK → Prop) (vs : List V) (s : S) (F : Hp) (R : V → S → Hp → Prop) : Prop :=
  ∀ H, J s F H → ∀ Q : VK, (∀ v s' F' H', J s' F' H' → R v s' F' → Q v H') → r vs H Q
def MW {S : Type} (J : S → Hp → Hp → Prop) (r : V → List V → Hp → VK → Prop) (x : V) (vs : List V) (s : S) (F : Hp) (R : V → S → Hp → Prop) : Prop :=
  ∀ H, J s F H → ∀ Q : VK, (∀ v s' F' H', J s' F' H' → R v s' F' → Q v H') → r x vs H Q
def GW {S : Type} (J : S → Hp → Hp → Prop) (g : TG) (x : V) (σ : L2.St) (s : S) (F : Hp) (N : L2.St → S → Hp → Prop) : Prop :=
  ∀ H, J s F H → ∀ Q : L2.St → Hp → Prop, (∀ σ' s' F' H', J s' F' H' → N σ' s' F' → Q σ' H') → g x σ H Q
def GsW {S : Type} (J : S → Hp → Hp → Prop) (g : TGs) (xs : List V) (σ : L2.St) (s : S) (F : Hp) (N : L2.St → S → Hp → Prop) : Prop :=
  ∀ H, J s F H → ∀ Q : L2.St → Hp → Prop, (∀ σ' s' F' H', J s' F' H' → N σ' s' F' → Q σ' H') → g xs σ H Q
/-- where a statement may go, over F -/
structure En (S : Type) where
  nx : L2.St → S → Hp → Prop
  rt : V → S → Hp → Prop
  bk : L2.St → S → Hp → Prop := fun _ _ _ => False
  ct : L2.St → S → Hp → Prop := fun _ _ _ => False
structure Lf {S : Type} (J : S → Hp → Hp → Prop) (D : En S) (D' : Ends) : Prop where
  nx : ∀ σ s F H, J s F H → D.nx σ s F → D'.nx σ H
  rt : ∀ v s F H, J s F H → D.rt v s F → D'.rt v H
  bk : ∀ σ s F H, J s F H → D.bk σ s F → D'.bk σ H
  ct : ∀ σ s F H, J s F H → D.ct σ s F → D'.ct σ H
def SW {S : Type} (J : S → Hp → Hp → Prop) (t : TS) (D : En S) (σ : L2.St) (s : S) (F : Hp) : Prop := ∀ H, J s F H → ∀ D' : Ends, Lf J D D' → t D' σ H

section
variable {S : Type} {J : S → Hp → Hp → Prop} {K : PySem.W.Frag} {σ : L2.St} {s : S} {F : Hp} {R : V → S → Hp → Prop} {ta tb te : TE} {tr : TA} {x y v : V}

theorem EW.imp {R' : V → S → Hp → Prop} (h : EW J te σ s F R) (i : ∀ v s' F', R v s' F' → R' v s' F') : EW J te σ s F R' := fun H j Q q => h H j Q fun v s' F' H' j' r => q v s' F' H' j' (i _ _ _ r)

/-! expressions -/
theorem ew_var {i : Nat} (h : σ[i]? = some (some v)) (k : R v s F) : EW J (tVar i) σ s F R := fun H j Q q => ⟨v, h, q v s F H j k⟩
theorem ew_c (k : R v s F) : EW J (tC v) σ s F R := fun H j Q q => q v s F H j k
theorem ew_op {r : R2} (h : EW J ta σ s F fun x s1 F1 => EW J tb σ s1 F1 fun y s2 F2 => RW J r x y s2 F2 R) : EW J (tOp r ta tb) σ s F R := fun H j Q q =>
  h H j _ fun x s1 F1 H1 j1 h1 => h1 H1 j1 _ fun y s2 F2 H2 j2 h2 => h2 H2 j2 Q q
theorem ew_un {r : V → Hp → VK → Prop} (h : EW J ta σ s F fun x s1 F1 => UW J r x s1 F1 R) : EW J (tUn r ta) σ s F R := fun H j Q q =>
  h H j _ fun x s1 F1 H1 j1 h1 => h1 H1 j1 Q q
theorem ew_cb {r : List V → Hp → VK → Prop} (h : AW J tr σ s F fun vs s1 F1 => CW J r vs s1 F1 R) : EW J (tCB r tr) σ s F R := fun H j Q q =>
  h H j _ fun vs s1 F1 H1 j1 h1 => h1 H1 j1 Q q
theorem aw_nil {R : List V → S → Hp → Prop} (k : R [] s F) : AW J tNil σ s F R := fun H j Q q => q [] s F H j k
theorem aw_cons {R : List V → S → Hp → Prop} (h : EW J te σ s F fun x s1 F1 => AW J tr σ s1 F1 fun vs s2 F2 => R (x :: vs) s2 F2) : AW J (tCons te tr) σ s F R := fun H j Q q =>
  h H j _ fun x s1 F1 H1 j1 h1 => h1 H1 j1 _ fun vs s2 F2 H2 j2 k => q _ _ _ _ j2 k
theorem ew_tup (hd : Hid J) (h : AW J tr σ s F fun vs s1 F1 => vs.length ≤ 100000 ∧ ∀ p, F1 p = none → R (.ref p) s1 (upd F1 p (.tup vs))) : EW J (tTup tr) σ s F R := fun H j Q q =>
  h H j _ fun vs s1 F1 H1 j1 k => ⟨Nat.le_trans k.1 (by decide), fun p hp => q _ _ _ _ (hd.al j1 hp) (k.2 p (hd.fresh j1 hp))⟩
theorem ew_lst (hd : Hid J) (h : AW J tr σ s F fun vs s1 F1 => vs.length ≤ 100000 ∧ ∀ p, F1 p = none → R (.ref p) s1 (upd F1 p (.lst vs))) : EW J (tLst tr) σ s F R := fun H j Q q =>
  h H j _ fun vs s1 F1 H1 j1 k => ⟨Nat.le_trans k.1 (by decide), fun p hp => q _ _ _ _ (hd.al j1 hp) (k.2 p (hd.fresh j1 hp))⟩
theorem ew_if {tt : TT} (h : TW J tt σ s F fun b s1 F1 => (b = true → EW J ta σ s1 F1 R) ∧ (b = false → EW J tb σ s1 F1 R)) : EW J (tIf tt ta tb) σ s F R := fun H j Q q =>
  h H j _ fun b s1 F1 H1 j1 k => by
    cases b with
    | true => exact k.1 rfl H1 j1 Q q
    | false => exact k.2 rfl H1 j1 Q q
theorem ew_and (h : EW J ta σ s F fun x s1 F1 => ∃ c, x = .bl c ∧ (c = true → EW J tb σ s1 F1 R) ∧ (c = false → R (.bl false) s1 F1)) : EW J (tAndV ta tb) σ s F R := fun H j Q q =>
  h H j _ fun x s1 F1 H1 j1 ⟨c, e, k1, k2⟩ => ⟨c, e, by
    cases c with
    | true => exact k1 rfl H1 j1 Q q
    | false => exact q _ _ _ _ j1 (k2 rfl)⟩
theorem ew_or (h : EW J ta σ s F fun x s1 F1 => ∃ c, x = .bl c ∧ (c = true → R (.bl true) s1 F1) ∧ (c = false → EW J tb σ s1 F1 R)) : EW J (tOrV ta tb) σ s F R := fun H j Q q =>
  h H j _ fun x s1 F1 H1 j1 ⟨c, e, k1, k2⟩ => ⟨c, e, by
    cases c with
    | true => exact q _ _ _ _ j1 (k1 rfl)
    | false => exact k2 rfl H1 j1 Q q⟩
theorem ew_not (h : EW J ta σ s F fun x s1 F1 => ∃ c, x = .bl c ∧ R (.bl (!c)) s1 F1) : EW J (tNotV ta) σ s F R := fun H j Q q =>
  h H j _ fun x s1 F1 H1 j1 ⟨c, e, k⟩ => ⟨c, e, q _ _ _ _ j1 k⟩
theorem ew_chain {r r' : R2} {tc : TE} (h : EW J ta σ s F fun x s1 F1 => EW J tb σ s1 F1 fun y s2 F2 => RW J r x y s2 F2 fun z s3 F3 => ∃ k, z = .bl k ∧ (k = true → EW J tc σ s3 F3 fun w s4 F4 => RW J r' y w s4 F4 R) ∧ (k = false → R (.bl false) s3 F3)) :
    EW J (tChain r r' ta tb tc) σ s F R := fun H j Q q =>
  h H j _ fun x s1 F1 H1 j1 h1 => h1 H1 j1 _ fun y s2 F2 H2 j2 h2 => h2 H2 j2 _ fun z s3 F3 H3 j3 ⟨k, e, k1, k2⟩ => ⟨k, e, by
    cases k with
    | true => exact k1 rfl H3 j3 _ fun w s4 F4 H4 j4 h4 => h4 H4 j4 Q q
    | false => exact q _ _ _ _ j3 (k2 rfl)⟩

/-! operations -/
theorem rw_I0 {g : Int → Int → V} {i k : Int} (h : R (g i k) s F) : RW J (rI0 g) (.int i) (.int k) s F R := fun H j Q q => ⟨i, k, rfl, rfl, q _ _ _ _ j h⟩
theorem rw_I {C : Int → Int → Prop} {g : Int → Int → V} {i k : Int} (c : C i k) (h : R (g i k) s F) : RW J (rI C g) (.int i) (.int k) s F R := fun H j Q q => ⟨i, k, rfl, rfl, c, q _ _ _ _ j h⟩
theorem uw_I {g : Int → V} {i : Int} (h : R (g i) s F) : UW J (rU g) (.int i) s F R := fun H j Q q => ⟨i, rfl, q _ _ _ _ j h⟩
theorem rw_eq (c : scal x y = true) (h : R (.bl (decide (x = y))) s F) : RW J rEq x y s F R := fun H j Q q => ⟨c, q _ _ _ _ j h⟩
theorem rw_ne (c : scal x y = true) (h : R (.bl (!decide (x = y))) s F) : RW J rNe x y s F R := fun H j Q q => ⟨c, q _ _ _ _ j h⟩
theorem rw_isN (h : R (.bl (decide (x = .non))) s F) : RW J (fun x y H Q => y = .non ∧ Q (.bl (decide (x = .non))) H) x .non s F R := fun H j Q q => ⟨rfl, q _ _ _ _ j h⟩
theorem rw_notN (h : R (.bl (!decide (x = .non))) s F) : RW J (fun x y H Q => y = .non ∧ Q (.bl (!decide (x = .non))) H) x .non s F R := fun H j Q q => ⟨rfl, q _ _ _ _ j h⟩
theorem rw_ixL (hd : Hid J) {p : Addr} {xs : List V} {i : Int} (l : SqL K F p xs) (a : atI xs i = some v) (h : R v s F) : RW J (rIxL K) (.ref p) (.int i) s F R := fun H j Q q => ⟨p, xs, i, v, rfl, rfl, hd.sqL j l, a, q _ _ _ _ j h⟩
theorem rw_ixT (hd : Hid J) {p : Addr} {xs : List V} {i : Int} (l : SqT K F p xs) (a : atI xs i = some v) (h : R v s F) : RW J (rIxT K) (.ref p) (.int i) s F R := fun H j Q q => ⟨p, xs, i, v, rfl, rfl, hd.sqT j l, a, q _ _ _ _ j h⟩
theorem rw_in (hd : Hid J) {p : Addr} {xs : List V} {neg : Bool} (l : SqL K F p xs ∨ SqT K F p xs) (c : flatV x = true) (a : xs.all flatV = true) (h : R (.bl (if neg then !inV x xs else inV x xs)) s F) : RW J (rIn K neg) x (.ref p) s F R :=
  fun H j Q q => ⟨p, xs, rfl, l.imp (hd.sqL j) (hd.sqT j), c, a, q _ _ _ _ j h⟩
theorem rw_cat (hd : Hid J) {l b : Addr} {xs zs : List V} (h1 : F l = some (.lst xs)) (h2 : F b = some (.lst zs)) (hl : xs.length + zs.length ≤ 100000) (h : ∀ p, F p = none → R (.ref p) s (upd F p (.lst (xs ++ zs)))) : RW J rCat (.ref l) (.ref b) s F R := fun H j Q q =>
  ⟨l, b, xs, zs, rfl, rfl, hd.ex j _ _ h1, hd.ex j _ _ h2, Nat.le_trans hl (by decide), fun p hp => q _ _ _ _ (hd.al j hp) (h p (hd.fresh j hp))⟩
theorem rw_rep (hd : Hid J) {l : Addr} {k : Int} {xs : List V} (h1 : F l = some (.lst xs)) (hk : -1000000 ≤ k ∧ k ≤ 1000000) (hl : xs.length * k.toNat ≤ 100000) (h : ∀ p, F p = none → R (.ref p) s (upd F p (.lst (List.replicate k.toNat xs).flatten))) : RW J rRep (.ref l) (.int k) s F R := fun H j Q q =>
  ⟨l, k, xs, rfl, rfl, hd.ex j _ _ h1, by omega, by omega, Nat.le_trans hl (by decide), fun p hp => q _ _ _ _ (hd.al j hp) (h p (hd.fresh j hp))⟩
/-! calls of built-ins -/
theorem cw_lenS (hd : Hid J) {p : Addr} {ys : List V} (l : SqL K F p ys ∨ SqT K F p ys) (h : R (.int ys.length) s F) : CW J (fun xs H Q => ∃ p ys, xs = [.ref p] ∧ (SqL K H p ys ∨ SqT K H p ys) ∧ Q (.int ys.length) H) [.ref p] s F R :=
  fun H j Q q => ⟨p, ys, rfl, l.imp (hd.sqL j) (hd.sqT j), q _ _ _ _ j h⟩
theorem cw_max2 {i k : Int} (h : R (.int (if k > i then k else i)) s F) : CW J (fun xs H Q => ∃ i j, xs = [.int i, .int j] ∧ Q (.int (if j > i then j else i)) H) [.int i, .int k] s F R := fun H j Q q => ⟨i, k, rfl, q _ _ _ _ j h⟩
theorem cw_min2 {i k : Int} (h : R (.int (if k < i then k else i)) s F) : CW J (fun xs H Q => ∃ i j, xs = [.int i, .int j] ∧ Q (.int (if j < i then j else i)) H) [.int i, .int k] s F R := fun H j Q q => ⟨i, k, rfl, q _ _ _ _ j h⟩
theorem cw_list (hd : Hid J) {p : Addr} {ys : List V} (l : SqL K F p ys ∨ SqT K F p ys) (h : ∀ a, F a = none → R (.ref a) s (upd F a (.lst ys))) : CW J (fun xs H Q => ∃ p ys, xs = [.ref p] ∧ (SqL K H p ys ∨ SqT K H p ys) ∧ ∀ l, H l = none → Q (.ref l) (upd H l (.lst ys))) [.ref p] s F R :=
  fun H j Q q => ⟨p, ys, rfl, l.imp (hd.sqL j) (hd.sqT j), fun a ha => q _ _ _ _ (hd.al j ha) (h a (hd.fresh j ha))⟩
theorem cw_tuple (hd : Hid J) {p : Addr} {ys : List V} (l : SqL K F p ys) (h : ∀ a, F a = none → R (.ref a) s (upd F a (.tup ys))) : CW J (fun xs H Q => ∃ p ys, xs = [.ref p] ∧ ((SqL K H p ys ∧ ∀ l, H l = none → Q (.ref l) (upd H l (.tup ys))) ∨ (SqT K H p ys ∧ Q (.ref p) H))) [.ref p] s F R :=
  fun H j Q q => ⟨p, ys, rfl, Or.inl ⟨hd.sqL j l, fun a ha => q _ _ _ _ (hd.al j ha) (h a (hd.fresh j ha))⟩⟩
/-! tests -/
variable {RB : Bool → S → Hp → Prop} {tA tB2 : TT}
theorem tw_test (h : EW J te σ s F fun x s1 F1 => ∃ b, x = .bl b ∧ RB b s1 F1) : TW J (tTest te) σ s F RB := fun H j Q q => h H j _ fun x s1 F1 H1 j1 ⟨b, e, k⟩ => ⟨b, e, q _ _ _ _ j1 k⟩
theorem tw_B (h : EW J te σ s F fun x s1 F1 => ∃ b, x = .bl b ∧ RB b s1 F1) : TW J (tB te) σ s F RB := fun H j Q q => h H j _ fun x s1 F1 H1 j1 ⟨b, e, k⟩ => ⟨b, e, q _ _ _ _ j1 k⟩
theorem tw_not (h : TW J tA σ s F fun b s1 F1 => RB (!b) s1 F1) : TW J (tNot tA) σ s F RB := fun H j Q q => h H j _ fun b s1 F1 H1 j1 k => q _ _ _ _ j1 k
theorem tw_and (h : TW J tA σ s F fun b s1 F1 => (b = true → TW J tB2 σ s1 F1 RB) ∧ (b = false → RB false s1 F1)) : TW J (tAnd tA tB2) σ s F RB := fun H j Q q =>
  h H j _ fun b s1 F1 H1 j1 k => by
    cases b with
    | true => exact k.1 rfl H1 j1 Q q
    | false => exact q _ _ _ _ j1 (k.2 rfl)
theorem tw_or (h : TW J tA σ s F fun b s1 F1 => (b = true → RB true s1 F1) ∧ (b = false → TW J tB2 σ s1 F1 RB)) : TW J (tOr tA tB2) σ s F RB := fun H j Q q =>
  h H j _ fun b s1 F1 H1 j1 k => by
    cases b with
    | true => exact q _ _ _ _ j1 (k.1 rfl)
    | false => exact k.2 rfl H1 j1 Q q
theorem tw_yes (k : RB true s F) : TW J tYes σ s F RB := fun H j Q q => q _ _ _ _ j k
/-- the truth of a list -/
theorem tw_truL (hd : Hid J) (h : EW J te σ s F fun x s1 F1 => ∃ a xs, x = .ref a ∧ SqL K F1 a xs ∧ RB (!xs.isEmpty) s1 F1) : TW J (fun σ H Q => te σ H fun x H' => ∃ k, TruV K x H' k ∧ Q k H') σ s F RB := fun H j Q q =>
  h H j _ fun x s1 F1 H1 j1 ⟨a, xs, e, l, k⟩ => ⟨_, by subst e; exact Or.inl ⟨xs, hd.sqL j1 l, rfl⟩, q _ _ _ _ j1 k⟩
theorem tw_truB (h : EW J te σ s F fun x s1 F1 => ∃ b, x = .bl b ∧ RB b s1 F1) : TW J (fun σ H Q => te σ H fun x H' => ∃ k, TruV K x H' k ∧ Q k H') σ s F RB := fun H j Q q =>
  h H j _ fun x s1 F1 H1 j1 ⟨i, e, k⟩ => ⟨_, by subst e; exact rfl, q _ _ _ _ j1 k⟩

/-! slices -/
theorem ow_none {R : Option Int → S → Hp → Prop} (k : R none s F) : OW J tNoPart σ s F R := fun H j Q q => q _ _ _ _ j k
theorem ow_some {R : Option Int → S → Hp → Prop} (h : EW J te σ s F fun x s1 F1 => ∃ i, x = .int i ∧ R (some i) s1 F1) : OW J (tPart te) σ s F R := fun H j Q q => h H j _ fun x s1 F1 H1 j1 ⟨i, e, k⟩ => ⟨i, e, q _ _ _ _ j1 k⟩
theorem ew_slL (hd : Hid J) {tl th : TO} (h : EW J te σ s F fun x s1 F1 => OW J tl σ s1 F1 fun lo s2 F2 => OW J th σ s2 F2 fun hi s3 F3 => ∃ a xs, x = .ref a ∧ SqL K F3 a xs ∧ ∀ p, F3 p = none → R (.ref p) s3 (upd F3 p (.lst (cutV xs lo hi)))) :
    EW J (tSl (rSlL K) te tl th) σ s F R := fun H j Q q => h H j _ fun x s1 F1 H1 j1 h1 => h1 H1 j1 _ fun lo s2 F2 H2 j2 h2 => h2 H2 j2 _ fun hi s3 F3 H3 j3 ⟨a, xs, e, l, k⟩ =>
  ⟨a, xs, e, hd.sqL j3 l, fun p hp => q _ _ _ _ (hd.al j3 hp) (k p (hd.fresh j3 hp))⟩
theorem ew_slT (hd : Hid J) {tl th : TO} (h : EW J te σ s F fun x s1 F1 => OW J tl σ s1 F1 fun lo s2 F2 => OW J th σ s2 F2 fun hi s3 F3 => ∃ a xs, x = .ref a ∧ SqT K F3 a xs ∧ (HT.sIx xs.length 0 lo = 0 ∧ HT.sIx xs.length xs.length hi = xs.length → R (.ref a) s3 F3) ∧
      (¬ (HT.sIx xs.length 0 lo = 0 ∧ HT.sIx xs.length xs.length hi = xs.length) → ∀ p, F3 p = none → R (.ref p) s3 (upd F3 p (.tup (cutV xs lo hi))))) :
    EW J (tSl (rSlA K) te tl th) σ s F R := fun H j Q q => h H j _ fun x s1 F1 H1 j1 h1 => h1 H1 j1 _ fun lo s2 F2 H2 j2 h2 => h2 H2 j2 _ fun hi s3 F3 H3 j3 ⟨a, xs, e, l, k1, k2⟩ =>
  ⟨a, xs, e, hd.sqT j3 l, fun c => q _ _ _ _ j3 (k1 c), fun c p hp => q _ _ _ _ (hd.al j3 hp) (k2 c p (hd.fresh j3 hp))⟩

/-! methods of built-ins: of a list -/
theorem ew_bmL (hd : Hid J) {r : V → List V → Hp → VK → Prop} (h : EW J te σ s F fun x s1 F1 => ∃ a xs, x = .ref a ∧ SqL K F1 a xs ∧ AW J tr σ s1 F1 fun vs s2 F2 => MW J r x vs s2 F2 R) : EW J (tBM K "list" r te tr) σ s F R := fun H j Q q =>
  h H j _ fun x s1 F1 H1 j1 ⟨a, xs, e, l, h1⟩ => ⟨by subst e; exact Or.inl ⟨rfl, xs, hd.sqL j1 l⟩, h1 H1 j1 _ fun vs s2 F2 H2 j2 h2 => h2 H2 j2 Q q⟩
theorem mw_append (hd : Hid J) {l : Addr} {xs : List V} (h1 : F l = some (.lst xs)) (hl : xs.length < 100000) (h : R .non s (upd F l (.lst (xs ++ [y])))) : MW J rAppend (.ref l) [y] s F R := fun H j Q q =>
  ⟨l, xs, y, rfl, rfl, hd.ex j _ _ h1, Nat.lt_of_lt_of_le hl (by decide), q _ _ _ _ (hd.mu j h1) h⟩
theorem mw_extend (hd : Hid J) {l b : Addr} {xs zs : List V} (h1 : F l = some (.lst xs)) (h2 : F b = some (.lst zs)) (hl : xs.length + zs.length ≤ 100000) (h : R .non s (upd F l (.lst (xs ++ zs)))) : MW J rExtend (.ref l) [.ref b] s F R := fun H j Q q =>
  ⟨l, b, xs, zs, rfl, rfl, hd.ex j _ _ h1, hd.ex j _ _ h2, Nat.le_trans hl (by decide), q _ _ _ _ (hd.mu j h1) h⟩

/-! statements -/
variable {D : En S} {t u : TS} {g : TG}
theorem sw_next (k : D.nx σ s F) : SW J tNext D σ s F := fun H j D' l => l.nx _ _ _ _ j k
theorem sw_seq (h : SW J t { D with nx := fun σ1 s1 F1 => SW J u D σ1 s1 F1 } σ s F) : SW J (tSeq t u) D σ s F := fun H j D' l =>
  h H j _ ⟨fun σ1 s1 F1 H1 j1 k => k H1 j1 D' l, l.rt, l.bk, l.ct⟩
theorem sw_break (k : D.bk σ s F) : SW J tBreak D σ s F := fun H j D' l => l.bk _ _ _ _ j k
theorem sw_drop (h : EW J te σ s F fun _ s1 F1 => D.nx σ s1 F1) : SW J (tDrop te) D σ s F := fun H j D' l => h H j _ fun _ s1 F1 H1 j1 k => l.nx _ _ _ _ j1 k
theorem sw_ret (h : EW J te σ s F D.rt) : SW J (tRet te) D σ s F := fun H j D' l => h H j _ fun v s1 F1 H1 j1 k => l.rt _ _ _ _ j1 k
theorem sw_if {tc : TT} (h : TW J tc σ s F fun b s1 F1 => (b = true → SW J t D σ s1 F1) ∧ (b = false → SW J u D σ s1 F1)) : SW J (tIfS tc t u) D σ s F := fun H j D' l =>
  h H j _ fun b s1 F1 H1 j1 k => by
    cases b with
    | true => exact k.1 rfl H1 j1 D' l
    | false => exact k.2 rfl H1 j1 D' l
theorem sw_asg (h : EW J te σ s F fun x s1 F1 => GW J g x σ s1 F1 D.nx) : SW J (tAsg te g) D σ s F := fun H j D' l =>
  h H j _ fun x s1 F1 H1 j1 h1 => h1 H1 j1 _ fun σ2 s2 F2 H2 j2 k => l.nx _ _ _ _ j2 k
theorem sw_par {i k : Nat} {ta : TA} (h : AW J ta σ s F fun vs s1 F1 => ∃ v w, vs = [v, w] ∧ D.nx ((σ.set i (some v)).set k (some w)) s1 F1) : SW J (tPar i k ta) D σ s F := fun H j D' l =>
  h H j _ fun vs s1 F1 H1 j1 ⟨v, w, e, k⟩ => ⟨v, w, e, l.nx _ _ _ _ j1 k⟩
variable {N : L2.St → S → Hp → Prop}
theorem gw_name {i : Nat} (k : N (σ.set i (some x)) s F) : GW J (gName i) x σ s F N := fun H j Q q => q _ _ _ _ j k
theorem gw_tup (hd : Hid J) {n : Nat} {ts : TGs} (h : ∃ a xs, x = .ref a ∧ SqT K F a xs ∧ xs.length = n ∧ GsW J ts xs σ s F N) : GW J (gTup K n ts) x σ s F N := fun H j Q q => by
  obtain ⟨a, xs, e, l, hn, h⟩ := h
  exact ⟨a, xs, e, hd.sqT j l, hn, h H j Q q⟩
theorem gsw_nil (k : N σ s F) : GsW J gNil [] σ s F N := fun H j Q q => ⟨rfl, q _ _ _ _ j k⟩
theorem gsw_cons {ts : TGs} {xs : List V} (h : GW J g x σ s F fun σ1 s1 F1 => GsW J ts xs σ1 s1 F1 N) : GsW J (gCons g ts) (x :: xs) σ s F N := fun H j Q q =>
  ⟨x, xs, rfl, h H j _ fun σ1 s1 F1 H1 j1 k => k H1 j1 Q q⟩
/-- xs[i] = e -/
theorem gw_subL (hd : Hid J) (h : EW J ta σ s F fun o s1 F1 => EW J tb σ s1 F1 fun i s2 F2 => ∃ p xs k j, o = .ref p ∧ i = .int k ∧ F2 p = some (.lst xs) ∧ ixN xs.length k = some j ∧ N σ s2 (upd F2 p (.lst (xs.set j x)))) : GW J (gSub ta tb rSetL) x σ s F N := fun H j Q q =>
  h H j _ fun o s1 F1 H1 j1 h1 => h1 H1 j1 _ fun i s2 F2 H2 j2 ⟨p, xs, k, jj, e1, e2, hp, hj, k2⟩ => ⟨p, xs, k, jj, e1, e2, hd.ex j2 _ _ hp, hj, q _ _ _ _ (hd.mu j2 hp) k2⟩

/-! loops -/
theorem sw_forR1 {ta : TA} (h : AW J ta σ s F fun vs s1 F1 => ∃ (n : Int) (Pv : Nat → L2.St → S → Hp → Prop), vs = [.int n] ∧ -1000000000 ≤ n ∧ n ≤ 1000000000 ∧ Pv 0 σ s1 F1 ∧
      (∀ (i : Nat) σ s F, (i : Int) < n → Pv i σ s F → GW J g (.int (i : Int)) σ s F fun σ s F => SW J t { D with nx := Pv (i + 1), ct := Pv (i + 1), bk := D.nx } σ s F) ∧ (∀ σ s F, Pv n.toNat σ s F → D.nx σ s F)) :
    SW J (tFor (iRng1 ta) g t) D σ s F := fun H j D' l =>
  h H j _ fun vs s1 F1 H1 j1 ⟨n, Pv, e, hn1, hn2, h0, hs, hdn⟩ => ⟨n, e, by omega, by omega, for_range (lo := 0) (n := n.toNat) (fun i σ H => ∃ s F, J s F H ∧ Pv i σ s F) ⟨s1, F1, j1, h0⟩
    (fun i σ' H' hi ⟨s', F', j', p⟩ => by
      have e0 : (0 : Int) + (i : Int) = (i : Int) := Int.zero_add _
      show g (.int ((0 : Int) + (i : Int))) σ' H' _
      rw [e0]
      exact hs i σ' s' F' (by omega) p H' j' _ fun σ2 s2 F2 H2 j2 k => k H2 j2 _ ⟨fun σ3 s3 F3 H3 j3 k3 => ⟨s3, F3, j3, k3⟩, l.rt, l.nx, fun σ3 s3 F3 H3 j3 k3 => ⟨s3, F3, j3, k3⟩⟩)
    (fun σ' H' ⟨s', F', j', p⟩ => l.nx _ _ _ _ j' (hdn σ' s' F' p))⟩
theorem sw_forL (hd : Hid J) (h : EW J te σ s F fun v s1 F1 => ∃ (a : Addr) (xs : List V) (Pv : Nat → L2.St → S → Hp → Prop), v = .ref a ∧ SqL K F1 a xs ∧ Pv 0 σ s1 F1 ∧ (∀ i σ s F, i ≤ xs.length → Pv i σ s F → SqL K F a xs) ∧
      (∀ (i : Nat) x σ s F, xs[i]? = some x → Pv i σ s F → GW J g x σ s F fun σ s F => SW J t { D with nx := Pv (i + 1), ct := Pv (i + 1), bk := D.nx } σ s F) ∧ (∀ σ s F, Pv xs.length σ s F → D.nx σ s F)) :
    SW J (tFor (iList K te) g t) D σ s F := fun H j D' l =>
  h H j _ fun v s1 F1 H1 j1 ⟨a, xs, Pv, e, l1, h0, hl, hs, hdn⟩ => ⟨a, e, ⟨xs, hd.sqL j1 l1⟩, for_list (xs := xs) (fun i σ H => ∃ s F, J s F H ∧ Pv i σ s F) ⟨s1, F1, j1, h0⟩
    (fun i σ' H' hi ⟨s', F', j', p⟩ => hd.sqL j' (hl i σ' s' F' hi p))
    (fun i x σ' H' hi ⟨s', F', j', p⟩ => hs i x σ' s' F' hi p H' j' _ fun σ2 s2 F2 H2 j2 k => k H2 j2 _ ⟨fun σ3 s3 F3 H3 j3 k3 => ⟨s3, F3, j3, k3⟩, l.rt, l.nx, fun σ3 s3 F3 H3 j3 k3 => ⟨s3, F3, j3, k3⟩⟩)
    (fun σ' H' ⟨s', F', j', p⟩ => l.nx _ _ _ _ j' (hdn σ' s' F' p))⟩
theorem sw_forT (hd : Hid J) (h : EW J te σ s F fun v s1 F1 => ∃ (a : Addr) (xs : List V) (Pv : Nat → L2.St → S → Hp → Prop), v = .ref a ∧ SqT K F1 a xs ∧ Pv 0 σ s1 F1 ∧ (∀ i σ s F, i ≤ xs.length → Pv i σ s F → SqT K F a xs) ∧
      (∀ (i : Nat) x σ s F, xs[i]? = some x → Pv i σ s F → GW J g x σ s F fun σ s F => SW J t { D with nx := Pv (i + 1), ct := Pv (i + 1), bk := D.nx } σ s F) ∧ (∀ σ s F, Pv xs.length σ s F → D.nx σ s F)) :
    SW J (tFor (iTup K te) g t) D σ s F := fun H j D' l =>
  h H j _ fun v s1 F1 H1 j1 ⟨a, xs, Pv, e, l1, h0, hl, hs, hdn⟩ => ⟨a, e, ⟨xs, hd.sqT j1 l1⟩, for_tup (xs := xs) (fun i σ H => ∃ s F, J s F H ∧ Pv i σ s F) ⟨s1, F1, j1, h0⟩
    (fun i σ' H' hi ⟨s', F', j', p⟩ => hd.sqT j' (hl i σ' s' F' hi p))
    (fun i x σ' H' hi ⟨s', F', j', p⟩ => hs i x σ' s' F' hi p H' j' _ fun σ2 s2 F2 H2 j2 k => k H2 j2 _ ⟨fun σ3 s3 F3 H3 j3 k3 => ⟨s3, F3, j3, k3⟩, l.rt, l.nx, fun σ3 s3 F3 H3 j3 k3 => ⟨s3, F3, j3, k3⟩⟩)
    (fun σ' H' ⟨s', F', j', p⟩ => l.nx _ _ _ _ j' (hdn σ' s' F' p))⟩
theorem sw_while {tc : TT} (Pv : Nat → L2.St → S → Hp → Prop) (m0 : Nat) (h0 : Pv m0 σ s F)
    (hs : ∀ m σ s F, Pv m σ s F → TW J tc σ s F fun b s1 F1 => (b = true → SW J t { D with nx := fun σ2 s2 F2 => ∃ m', m' < m ∧ Pv m' σ2 s2 F2, ct := fun σ2 s2 F2 => ∃ m', m' < m ∧ Pv m' σ2 s2 F2, bk := D.nx } σ s1 F1) ∧ (b = false → D.nx σ s1 F1)) :
    SW J (tWhile tc t) D σ s F := fun H j D' l =>
  ⟨fun m σ H => ∃ s F, J s F H ∧ Pv m σ s F, ⟨m0, s, F, j, h0⟩, fun m σ' H' ⟨s', F', j', p⟩ => hs m σ' s' F' p H' j' _ fun b s1 F1 H1 j1 k => by
    cases b with
    | true =>
      show ∃ N : L2.St → Hp → Prop, _
      exact ⟨fun σ2 H2 => ∃ m', m' < m ∧ ∃ s F, J s F H2 ∧ Pv m' σ2 s F, fun σ2 H2 n => n, k.1 rfl H1 j1 _ ⟨fun σ3 s3 F3 H3 j3 ⟨m', hm, k3⟩ => ⟨m', hm, s3, F3, j3, k3⟩, l.rt, l.nx, fun σ3 s3 F3 H3 j3 ⟨m', hm, k3⟩ => ⟨m', hm, s3, F3, j3, k3⟩⟩⟩
    | false =>
      show D'.nx σ' H1
      exact l.nx _ _ _ _ j1 (k.2 rfl)⟩
end
end Obr
namespace Obr
open PySem L2

/-- the built-ins that no module of the text hides -/
structure Blt (mg : Str → Option Value) : Prop where
  len : mg "len" = none
  list : mg "list" = none
  tuple : mg "tuple" = none
  max : mg "max" = none
  min : mg "min" = none
  range : mg "range" = none
  sum : mg "sum" = none
  sorted : mg "sorted" = none
  enumerate : mg "enumerate" = none
  zip : mg "zip" = none
  isinstance : mg "isinstance" = none
  int : mg "int" = none
  str : mg "str" = none
  bool : mg "bool" = none
  verr : mg "ValueError" = none
/-- a def that is called by its name -/
structure Cal (K : PySem.W.Frag) (mg : Str → Option Value) (x : Str) (f : Addr) (fd : FuncData) (ps : List Str) : Prop where
  g : mg x = some (.ref f)
  k : PySem.W.keepIn K (.ref f) = true
  a : Binds K fd ps []


/-- G knows all that F knows -/
def Ex (F G : Hp) : Prop := ∀ a o, F a = some o → G a = some o
theorem Ex.refl (F : Hp) : Ex F F := fun _ _ e => e
theorem Ex.trans {F G H : Hp} (a : Ex F G) (b : Ex G H) : Ex F H := fun x o e => b x o (a x o e)
theorem Ex.new {F G : Hp} {p : Addr} {u : HO} (g : Ex F G) (h : G p = none) : Ex F (upd G p u) := fun a o e => by
  rw [upd_ne (ne_of_none (g a o e) h)]
  exact g a o e
theorem Ex.out {F G : Hp} {p : Addr} {u : HO} (g : Ex F G) (h : F p = none) : Ex F (L2.upd G p u) := fun a o e => by
  rw [upd_ne (ne_of_none e h)]
  exact g a o e
theorem Ex.upd {F G : Hp} {p : Addr} {u : HO} (g : Ex F G) : Ex (L2.upd F p u) (L2.upd G p u) := fun a o e => by
  by_cases c : a = p
  · subst c; rw [upd_same] at e ⊢; exact e
  · rw [upd_ne c] at e ⊢; exact g a o e
theorem Ex.free {F G : Hp} {p : Addr} (g : Ex F G) (h : G p = none) : F p = none := by
  cases e : F p with
  | none => rfl
  | some o =>
    rw [g p o e] at h
    cases h
theorem Ex.sqL {F G : Hp} (g : Ex F G) {K a xs} (h : SqL K F a xs) : SqL K G a xs := by
  rcases h with (h | ⟨o, h⟩) | h
  · exact Or.inl (Or.inl (g _ _ h))
  · exact Or.inl (Or.inr ⟨o, g _ _ h⟩)
  · exact Or.inr h
theorem Ex.sqT {F G : Hp} (g : Ex F G) {K a xs} (h : SqT K F a xs) : SqT K G a xs := by
  rcases h with (h | ⟨o, h⟩) | h
  · exact Or.inl (Or.inl (g _ _ h))
  · exact Or.inl (Or.inr ⟨o, g _ _ h⟩)
  · exact Or.inr h

/-! ### promises over F, whatever is hidden -/
def LS (A : List V → Hp → VK → Prop) : Sp := fun vs H Q _ => ∃ (J : Unit → Hp → Hp → Prop) (F : Hp) (R : VK), Hid J ∧ J () F H ∧ A vs F R ∧ ∀ v F' H', J () F' H' → R v F' → Q v H'
theorem LS.body {J : Unit → Hp → Hp → Prop} {F H : Hp} {R Q : VK} {t : TS} {σ : L2.St} (j : J () F H) (q : ∀ v F' H', J () F' H' → R v F' → Q v H')
    (h : SW J t { nx := fun _ _ F => R .non F, rt := fun v _ F => R v F } σ () F) : t { nx := fun _ H' => Q .non H', rt := Q } σ H :=
  h H j _ ⟨fun _ _ _ _ j k => q _ _ _ j k, fun _ _ _ _ j k => q _ _ _ j k, fun _ _ _ _ _ k => k.elim, fun _ _ _ _ _ k => k.elim⟩
theorem Hid.unit {S : Type} {J : S → Hp → Hp → Prop} (hd : Hid J) (s : S) : Hid (fun (_ : Unit) F H => J s F H) where
  ex := fun {_ _ _} j => hd.ex j
  al := fun {_ _ _ _ _} j => hd.al j
  mu := fun {_ _ _ _ _ _} j => hd.mu j
section
variable {S : Type} {J : S → Hp → Hp → Prop} {σ : L2.St} {s : S} {F : Hp} {R : V → S → Hp → Prop} {tr : TA} {A : List V → Hp → VK → Prop} {E : XK}
theorem ew_call (hd : Hid J) (h : AW J tr σ s F fun vs s1 F1 => A vs F1 fun v F' => R v s1 F') : EW J (tCall (LS A) [] E tr) σ s F R := fun H j Q q =>
  h H j _ fun vs s1 F1 H1 j1 a => by
    show LS A (vs ++ []) H1 Q E
    rw [List.append_nil]
    exact ⟨_, F1, _, hd.unit s1, j1, a, fun v F' H' j' r => q v s1 F' H' j' r⟩
end

/-! ### forgetting: G knows more than F -/
def GJ {S : Type} (J : S → Hp → Hp → Prop) : S → Hp → Hp → Prop := fun s F H => ∃ G, (∀ a o, F a = some o → G a = some o) ∧ J s G H
/-! ### what is drawn from, hidden: the list at h (a number, the cells at c, a place) -/
def hL (c : Addr) (m p : Int) : HO := .lst [.int m, .ref c, .int p]
def cL (cells : List Int) : HO := .lst (cells.map V.int)
def HJ (h c : Addr) {S : Type} (J : S → Hp → Hp → Prop) : S → Hp → Hp → Prop := fun s F H =>
  ∃ (G : Hp) (m p : Int) (cells : List Int), Ex F G ∧ F h = none ∧ F c = none ∧ 0 ≤ m ∧ m < 2147483647 ∧ 0 ≤ p ∧ cells.length ≤ 63 ∧ G h = some (hL c m p) ∧ G c = some (cL cells) ∧ J s G H
theorem Hid.hj {h c : Addr} {S : Type} {J : S → Hp → Hp → Prop} (hd : Hid J) : Hid (HJ h c J) where
  ex := fun {s F H} ⟨G, m, p, cells, g, _, _, _, _, _, _, _, _, j⟩ a o e => hd.ex j a o (g a o e)
  al := fun {s F H p' o} ⟨G, m, p, cells, g, fh, fc, m0, m1, p0, l, gh, gc, j⟩ hp => by
    have e1 := hd.fresh j hp
    have pc : c ≠ p' := ne_of_none gc e1
    have ph : h ≠ p' := ne_of_none gh e1
    exact ⟨upd G p' o, m, p, cells, g.upd, by rw [upd_ne ph]; exact fh, by rw [upd_ne pc]; exact fc, m0, m1, p0, l, by rw [upd_ne ph]; exact gh, by rw [upd_ne pc]; exact gc, hd.al j hp⟩
  mu := fun {s F H a o o'} ⟨G, m, p, cells, g, fh, fc, m0, m1, p0, l, gh, gc, j⟩ e => by
    have pc : c ≠ a := fun q => by rw [q, e] at fc; cases fc
    have ph : h ≠ a := fun q => by rw [q, e] at fh; cases fh
    exact ⟨upd G a o', m, p, cells, g.upd, by rw [upd_ne ph]; exact fh, by rw [upd_ne pc]; exact fc, m0, m1, p0, l, by rw [upd_ne ph]; exact gh, by rw [upd_ne pc]; exact gc, hd.mu j (g _ _ e)⟩
/-- a promise of a def whose first argument is what is drawn from -/
def LN (A : List V → Hp → VK → Prop) : Sp := fun vs H Q _ => ∃ (h c : Addr) (J : Unit → Hp → Hp → Prop) (F : Hp) (R : VK) (ws : List V), Hid J ∧ vs = .ref h :: ws ∧ HJ h c J () F H ∧ A ws F R ∧ ∀ v F' H', HJ h c J () F' H' → R v F' → Q v H'
section
variable {S : Type} {J : S → Hp → Hp → Prop} {h c : Addr} {σ : L2.St} {s : S} {F : Hp} {R : V → S → Hp → Prop} {tr : TA} {A : List V → Hp → VK → Prop} {E : XK}
theorem ew_draw (hd : Hid J) (k : AW (HJ h c J) tr σ s F fun vs s1 F1 => ∃ ws, vs = .ref h :: ws ∧ A ws F1 fun v F' => R v s1 F') : EW (HJ h c J) (tCall (LN A) [] E tr) σ s F R := fun H j Q q =>
  k H j _ fun vs s1 F1 H1 j1 ⟨ws, e, a⟩ => by
    show LN A (vs ++ []) H1 Q E
    rw [List.append_nil]
    exact ⟨h, c, fun _ F H => J s1 F H, F1, _, ws, hd.unit s1, e, j1, a, fun v F' H' j' r => q v s1 F' H' j' r⟩
end

/-! ### the promises -/
/-- _law_mix -/
def aMix (K : PySem.W.Frag) : List V → Hp → VK → Prop := fun vs F R => ∃ (a : Addr) (ns : List Int) (z : Int), vs = [.ref a, .int z] ∧ SqL K F a (ns.map V.int) ∧ 0 ≤ z ∧ z < 2147483647 ∧
  ∀ (m : Int) (c h : Addr), 0 ≤ m → m < 2147483647 → F c = none → F h = none → c ≠ h → R (.ref h) (L2.upd (L2.upd F c (cL ns)) h (hL c m 0))
/-- _law_next -/
def aNext : List V → Hp → VK → Prop := fun ws F R => ∃ n : Int, ws = [.int n] ∧ 0 < n ∧ n ≤ 10000000000000 ∧ ∀ r : Int, 0 ≤ r → r < n → R (.int r) F
end Obr
namespace Obr
open PySem L2
theorem at_ints {ns : List Int} {i : Int} (h0 : 0 ≤ i) (h1 : i < ns.length) : atI (ns.map V.int) i = some (V.int (ns.getD i.toNat 0)) := by
  obtain ⟨j, rfl⟩ : ∃ j : Nat, i = (j : Int) := ⟨i.toNat, by omega⟩
  have hj : j < ns.length := by omega
  refine atI_nat (j := j) ?_
  rw [List.getElem?_map, List.getElem?_eq_getElem hj]
  simp [List.getD, List.getElem?_eq_getElem hj]
theorem ixN_of {n : Nat} {i : Int} (h0 : 0 ≤ i) (h1 : i < n) : ixN n i = some i.toNat := by
  unfold ixN
  rw [if_pos h0, if_pos h1]
theorem map_set_int (ns : List Int) (j : Nat) (z : Int) : (ns.map V.int).set j (V.int z) = (ns.set j z).map V.int := by
  rw [List.map_set]
end Obr
namespace Obr
open PySem L2
theorem sw_mid {S : Type} {J : S → Hp → Hp → Prop} {t : TS} {D : En S} {σ : L2.St} {s : S} {F : Hp} (Mid : L2.St → S → Hp → Prop) (h1 : SW J t { D with nx := Mid } σ s F) (h2 : ∀ σ s F, Mid σ s F → D.nx σ s F) : SW J t D σ s F := fun H j D' l =>
  h1 H j D' ⟨fun σ s F H j k => l.nx σ s F H j (h2 σ s F k), l.rt, l.bk, l.ct⟩
end Obr
namespace Obr
open PySem L2

/-! ### data as a whole, kept by whatever grows -/
mutual
theorem dp_ex {K : PySem.W.Frag} {F G : Hp} (g : Ex F G) : ∀ {d : PyData} {v : V}, Dp K F v d → Dp K G v d
  | .none, _, h => by cases h; exact .non
  | .bool b, _, h => by cases h; exact .bl b
  | .int i, _, h => by cases h; exact .int i
  | .str x, _, h => by cases h; exact .str x
  | .list ds, _, h => by
    cases h with
    | lst hs ha => exact .lst (g.sqL hs) (dps_ex g ha)
  | .tuple ds, _, h => by
    cases h with
    | tup hs ha => exact .tup (g.sqT hs) (dps_ex g ha)
  | .dict _, _, h => by cases h
theorem dps_ex {K : PySem.W.Frag} {F G : Hp} (g : Ex F G) : ∀ {ds : List PyData} {vs : List V}, DpAll K F vs ds → DpAll K G vs ds
  | [], _, h => by cases h; exact .nil
  | d :: ds, _, h => by
    cases h with
    | cons h1 h2 => exact .cons (dp_ex g h1) (dps_ex g h2)
end
section
variable {K : PySem.W.Frag} {F : Hp}
theorem dps_len {vs : List V} {ds : List PyData} : DpAll K F vs ds → vs.length = ds.length := by
  induction ds generalizing vs with
  | nil => intro h; cases h; rfl
  | cons d ds ih => intro h; cases h with
    | cons h1 h2 => simp [ih h2]
theorem dps_get {i : Nat} {vs : List V} {ds : List PyData} {d : PyData} (h : DpAll K F vs ds) (e : ds[i]? = some d) : ∃ v, vs[i]? = some v ∧ Dp K F v d := by
  induction ds generalizing vs i with
  | nil => simp at e
  | cons d0 ds ih => cases h with
    | cons h1 h2 => cases i with
      | zero => simp at e; subst e; exact ⟨_, rfl, h1⟩
      | succ i => simp at e; obtain ⟨v, e1, e2⟩ := ih h2 e; exact ⟨v, by simpa using e1, e2⟩
theorem dps_get' {i : Nat} {vs : List V} {ds : List PyData} {v : V} (h : DpAll K F vs ds) (e : vs[i]? = some v) : ∃ d, ds[i]? = some d ∧ Dp K F v d := by
  induction ds generalizing vs i with
  | nil => cases h; simp at e
  | cons d0 ds ih => cases h with
    | cons h1 h2 => cases i with
      | zero => simp at e; subst e; exact ⟨_, rfl, h1⟩
      | succ i => simp at e; obtain ⟨v, e1, e2⟩ := ih h2 e; exact ⟨v, by simpa using e1, e2⟩
theorem dps_snoc {vs : List V} {ds : List PyData} {v : V} {d : PyData} (h : DpAll K F vs ds) (h1 : Dp K F v d) : DpAll K F (vs ++ [v]) (ds ++ [d]) := by
  induction ds generalizing vs with
  | nil => cases h; exact .cons h1 .nil
  | cons d0 ds ih => cases h with
    | cons a b => exact .cons a (ih b)
theorem dps_ints {ns : List Int} : DpAll K F (ns.map V.int) (ns.map PyData.int) := by
  induction ns with
  | nil => exact .nil
  | cons a t ih => exact .cons (.int a) ih
theorem dps_ints_iff {ns : List Int} {vs : List V} (h : DpAll K F vs (ns.map PyData.int)) : vs = ns.map V.int := by
  induction ns generalizing vs with
  | nil => cases h; rfl
  | cons a t ih => cases h with
    | cons h1 h2 => cases h1; rw [ih h2]; rfl
theorem dp_tup {v : V} {ds : List PyData} (h : Dp K F v (.tuple ds)) : ∃ a xs, v = .ref a ∧ SqT K F a xs ∧ DpAll K F xs ds := by
  cases h with
  | tup h1 h2 => exact ⟨_, _, rfl, h1, h2⟩
theorem dp_lst {v : V} {ds : List PyData} (h : Dp K F v (.list ds)) : ∃ a xs, v = .ref a ∧ SqL K F a xs ∧ DpAll K F xs ds := by
  cases h with
  | lst h1 h2 => exact ⟨_, _, rfl, h1, h2⟩
theorem dp_int {v : V} {i : Int} (h : Dp K F v (.int i)) : v = .int i := by cases h; rfl
theorem dp_str {v : V} {x : Str} (h : Dp K F v (.str x)) : v = .str x := by cases h; rfl
theorem dp_bl {v : V} {b : Bool} (h : Dp K F v (.bool b)) : v = .bl b := by cases h; rfl
theorem dp_non {v : V} (h : Dp K F v .none) : v = .non := by cases h; rfl
theorem dps1 {vs : List V} {a : PyData} (h : DpAll K F vs [a]) : ∃ x, vs = [x] ∧ Dp K F x a := by
  cases h with
  | cons h1 h2 => cases h2; exact ⟨_, rfl, h1⟩
theorem dps2 {vs : List V} {a b : PyData} (h : DpAll K F vs [a, b]) : ∃ x y, vs = [x, y] ∧ Dp K F x a ∧ Dp K F y b := by
  cases h with
  | cons h1 h2 => obtain ⟨y, rfl, h3⟩ := dps1 h2; exact ⟨_, _, rfl, h1, h3⟩
theorem dps3 {vs : List V} {a b c : PyData} (h : DpAll K F vs [a, b, c]) : ∃ x y z, vs = [x, y, z] ∧ Dp K F x a ∧ Dp K F y b ∧ Dp K F z c := by
  cases h with
  | cons h1 h2 => obtain ⟨y, z, rfl, h3, h4⟩ := dps2 h2; exact ⟨_, _, _, rfl, h1, h3, h4⟩
end

/-! ### worlds and rules -/
/-- a step: how much it draws, how long it lasts, how much it gives back -/
structure Stp where
  draw : Int
  long : Int
  back : Int
structure Wld where
  cap : Int
  start : Int
  refill : Int
  ms : List (List Stp)
def stpD (s : Stp) : PyData := .tuple [.int s.draw, .int s.long, .int s.back]
def macD (ss : List Stp) : PyData := .tuple (ss.map stpD)
def wldD (w : Wld) : PyData := .tuple [.tuple [.int w.cap, .int w.start, .int w.refill], .tuple (w.ms.map macD)]
structure StpOk (cap : Int) (s : Stp) : Prop where
  d0 : 0 ≤ s.draw
  d1 : s.draw ≤ cap
  l0 : 1 ≤ s.long
  l1 : s.long ≤ 9
  b0 : 0 ≤ s.back
  b1 : s.back ≤ s.draw
structure WldOk (w : Wld) : Prop where
  c0 : 1 ≤ w.cap
  c1 : w.cap ≤ 99
  s0 : 0 ≤ w.start
  s1 : w.start ≤ w.cap
  r0 : 0 ≤ w.refill
  r1 : w.refill ≤ 9
  m : w.ms.length ≤ 5
  n : ∀ ss ∈ w.ms, ss.length ≤ 6
  st : ∀ ss ∈ w.ms, ∀ s ∈ ss, StpOk w.cap s
/-- the rights, by number -/
inductive Rgt where
  | rank | turns | wait | least
  deriving DecidableEq
def rgtS : Rgt → Str
  | .rank => "rank"
  | .turns => "turns"
  | .wait => "wait"
  | .least => "least"
def rulD (r : Rgt) (p : Bool) : PyData := .tuple [.str (rgtS r), .bool p]

/-- _law_world: some world -/
def aWorld (K : PySem.W.Frag) : List V → Hp → VK → Prop := fun ws F R => ∃ most cap : Int, ws = [.int most, .int cap] ∧ 0 ≤ most ∧ most ≤ 5 ∧ 1 ≤ cap ∧ cap ≤ 99 ∧
  ∀ (v : V) (F' : Hp) (w : Wld), Ex F F' → Dp K F' v (wldD w) → WldOk w → w.cap ≤ cap → (w.ms.length : Int) ≤ most → (∀ ss ∈ w.ms, ss.length ≤ 4) → R v F'
/-- _law_rule: some rule -/
def aRule (K : PySem.W.Frag) : List V → Hp → VK → Prop := fun ws F R => ws = [] ∧ ∀ (v : V) (F' : Hp) (r : Rgt) (p : Bool), Ex F F' → Dp K F' v (rulD r p) → R v F'

section
variable {S : Type} {J : S → Hp → Hp → Prop} {h c : Addr} {σ : L2.St} {s : S} {F : Hp} {R : V → S → Hp → Prop} {te ta : TE} {E : XK}
theorem ew_next {i : Nat} (hd : Hid J) (hv : σ[i]? = some (some (V.ref h))) (k : EW (HJ h c J) ta σ s F fun y s2 F2 => ∃ n : Int, y = .int n ∧ 0 < n ∧ n ≤ 10000000000000 ∧ ∀ r : Int, 0 ≤ r → r < n → R (.int r) s2 F2) :
    EW (HJ h c J) (tCall (LN aNext) [] E (tCons (tVar i) (tCons ta tNil))) σ s F R := by
  refine ew_draw hd (aw_cons (ew_var hv (aw_cons (k.imp fun y s2 F2 ⟨n, e2, h0, h1, k⟩ => aw_nil ⟨[y], rfl, n, by rw [e2], h0, h1, fun r r0 r1 => k r r0 r1⟩))))
theorem ew_world {i : Nat} {K : PySem.W.Frag} {tb : TE} (hd : Hid J) (hv : σ[i]? = some (some (V.ref h))) (k : EW (HJ h c J) ta σ s F fun y s2 F2 => ∃ most : Int, y = .int most ∧ 0 ≤ most ∧ most ≤ 5 ∧ EW (HJ h c J) tb σ s2 F2 fun z s3 F3 => ∃ cap : Int, z = .int cap ∧ 1 ≤ cap ∧ cap ≤ 99 ∧
      ∀ (v : V) (F' : Hp) (w : Wld), Ex F3 F' → Dp K F' v (wldD w) → WldOk w → w.cap ≤ cap → (w.ms.length : Int) ≤ most → (∀ ss ∈ w.ms, ss.length ≤ 4) → R v s3 F') :
    EW (HJ h c J) (tCall (LN (aWorld K)) [] E (tCons (tVar i) (tCons ta (tCons tb tNil)))) σ s F R := by
  refine ew_draw hd (aw_cons (ew_var hv (aw_cons (k.imp fun y s2 F2 ⟨n, e2, h0, h1, k⟩ => aw_cons (k.imp fun z s3 F3 ⟨cp, e3, h2, h3, k⟩ => aw_nil ⟨[y, z], rfl, n, cp, by rw [e2, e3], h0, h1, h2, h3, k⟩)))))
theorem ew_rule {i : Nat} {K : PySem.W.Frag} (hd : Hid J) (hv : σ[i]? = some (some (V.ref h))) (k : ∀ (v : V) (F' : Hp) (r : Rgt) (p : Bool), Ex F F' → Dp K F' v (rulD r p) → R v s F') :
    EW (HJ h c J) (tCall (LN (aRule K)) [] E (tCons (tVar i) tNil)) σ s F R := by
  refine ew_draw hd (aw_cons (ew_var hv (aw_nil ⟨[], rfl, rfl, k⟩)))
end
theorem LN.body {h c : Addr} {J : Unit → Hp → Hp → Prop} {F H : Hp} {R Q : VK} {t : TS} {σ : L2.St} (j : HJ h c J () F H) (q : ∀ v F' H', HJ h c J () F' H' → R v F' → Q v H')
    (k : SW (HJ h c J) t { nx := fun _ _ F => R .non F, rt := fun v _ F => R v F } σ () F) : t { nx := fun _ H' => Q .non H', rt := Q } σ H := LS.body j q k
end Obr
namespace PySem.SeqAt
open AutoSeq1 (wpAny_loadPart')
open MeetsSeq MeetsSeq2 MeetsSeq3 SeqRoads2
theorem remove_loopAt (l : Addr) (items : Array Value) (n : Nat) (x : Value) (e : Value → Bool) (j : Nat) (hj : j < items.size) (hit : e items[j] = true) (k : Nat) (hs1 : items.size ≤ sizeLine) :
    ∀ i : Nat, j - i = k → i ≤ j → (∀ m (hm : m < items.size), i ≤ m → m < j → e items[m] = false) → Meets (Builtin.«list.remove.loop» ⟨[.ref l, x, rawInt i], []⟩)
      (fun A R s => s.heap.get? l = some { cls := .type "list", dict := none, data := .seq items n, slots := #[] } ∧ (∀ y, y ∈ items → EqAt A.in1 s y x (e y)) ∧ R (.ok (.ret .none)) { s with heap := s.heap.update l (Obj.mapSeq fun xs => xs.eraseIdxIfInBounds j) }) := by
  induction k with
  | zero =>
    intro i hk hij hno prog w A R s h
    obtain ⟨hp, g, d, tk, os⟩ := s; obtain ⟨hl, he, h⟩ := h
    have hij' : i = j := by omega
    subst hij'
    wp_walk using wpAny_loadPart' hl
    have hi : items[((i : Nat) : Int).toNat]? = some items[i] := by simp [hj]
    rw [hi]
    refine wpAny_bind (he _ (Array.getElem_mem hj) prog w _ _ ?_)
    rw [hit]
    have hz' : (items.eraseIdxIfInBounds i).size ≤ sizeLine + 1 := Nat.le_trans (size_erased items _) (Nat.le_succ_of_le hs1)
    wp_walk using (wpAny_updateSeq hl rfl (hz := hs1) (_hz' := hz')), wpAny_loadPart' hl
    simpa using h
  | succ k ih =>
    intro i hk hij hno prog w A R s h
    obtain ⟨hp, g, d, tk, os⟩ := s; obtain ⟨hl, he, h⟩ := h
    have hlt : i < items.size := by omega
    wp_walk using wpAny_loadPart' hl
    have hi : items[((i : Nat) : Int).toNat]? = some items[i] := by simp [hlt]
    have hc : ((i : Int) + 1) = ((i + 1 : Nat) : Int) := by push_cast; rfl
    rw [hi]
    refine wpAny_bind (he _ (Array.getElem_mem hlt) prog w _ _ ?_)
    rw [hno i hlt (Nat.le_refl _) (by omega)]
    wp_walk
    rw [hc]
    exact ⟨plainId_quiet plain_remove_loop _, codeAny_builtin entry_remove_loop (by
      rw [Around.under_plainId plain_remove_loop _]
      exact ih (i + 1) (by omega) (by omega) (fun m hm h1 h2 => hno m hm (by omega) h2) prog w A R _ ⟨hl, he, h⟩)⟩
theorem list_removeAt (l : Addr) (items : Array Value) (n : Nat) (x : Value) (e : Value → Bool) (j : Nat) (hj : j < items.size)
    (hit : e items[j] = true) (hno : ∀ m (hm : m < items.size), m < j → e items[m] = false) (hs1 : items.size ≤ sizeLine) :
    Meets (Builtin.«list.remove» ⟨[.ref l, x], []⟩)
      (fun A R s => s.heap.get? l = some { cls := .type "list", dict := none, data := .seq items n, slots := #[] } ∧ (∀ y, y ∈ items → EqAt A.in1 s y x (e y)) ∧ R (.ok (.ret .none)) { s with heap := s.heap.update l (Obj.mapSeq fun xs => xs.eraseIdxIfInBounds j) }) := by
  intro prog w A R s h
  obtain ⟨hp, g, d, tk, os⟩ := s; obtain ⟨hl, he, h⟩ := h
  wp_walk using wpAny_loadPart' hl
  exact ⟨plainId_quiet plain_remove_loop _, codeAny_builtin entry_remove_loop (by
    rw [Around.under_plainId plain_remove_loop _]
    exact remove_loopAt l items n x e j hj hit _ hs1 0 rfl (Nat.zero_le _) (fun m hm _ h2 => hno m hm h2) prog w A R _ ⟨hl, he, h⟩)⟩
end PySem.SeqAt
namespace Obr
open PySem L2 PySem.Spec PyProof.Rows
section
variable {X : Cx}
/-- xs.remove(y), the items data of any depth: the first that is equal goes -/
def rRemD (K : PySem.W.Frag) : V → List V → Hp → VK → Prop := fun x xs H Q => ∃ (a : Addr) (vs : List V) (y : V) (d : PyData) (ds : List PyData) (j : Nat) (z : PyData), x = V.ref a ∧ xs = [y] ∧ H a = some (.lst vs) ∧ DpAll K H vs ds ∧ Dp K H y d ∧
  SeqAt.shaped (.list ds) = true ∧ SeqAt.shaped d = true ∧ ds[j]? = some z ∧ PyData.eqv z d = true ∧ (∀ (m : Nat) (z' : PyData), m < j → ds[m]? = some z' → PyData.eqv z' d = false) ∧ Q .non (upd H a (.lst (vs.eraseIdx j)))
theorem mt_removeD (hu : X.A.units + 65 < cLine) : MtM X "list.remove" (rRemD X.K) := by
  intro pins s σ H x xs v us Q I rx rxs h
  obtain ⟨a, vs, y, d, ds, j, z, rfl, rfl, hH, ha, hy, sl, sd, hz, hzj, hno, q⟩ := h
  cases rx
  obtain ⟨uy, rfl, ry⟩ := rxs.one
  obtain ⟨bs, r1⟩ := Dp.reads I d y uy hy ry
  have hxs : PyData.canLayAll0 ds = true := SeqAt.canLay_of_shaped sl
  have hroom : X.A.units + 1 + min (PyData.depthAll ds) d.depth < cLine := room_in_shaped sd hu
  obtain ⟨hsz, its, n, rv, hlen, ho⟩ := I.lstM hH
  obtain ⟨as, h4⟩ := Dp.readsAll I ds _ its ha rv
  have hn : its.length = ds.length := SeqAt.ReadsAll.length ds its as h4
  have hmap : its.map (SeqAt.readOf s.heap) = ds := SeqAt.readsAll_map ds its as hxs h4
  obtain ⟨hjd, _⟩ := List.getElem?_eq_some_iff.mp hz
  have hjl : j < its.length := by omega
  have hj : j < its.toArray.size := by simpa using hjl
  have at_ : ∀ (m : Nat) (hm : m < its.toArray.size) (z' : PyData), ds[m]? = some z' → SeqAt.readOf s.heap its.toArray[m] = z' := by
    intro m hm z' hz'
    have hml : m < its.length := by simpa using hm
    rw [← hmap, List.getElem?_map, List.getElem?_eq_getElem hml] at hz'
    have e1 : SeqAt.readOf s.heap its[m] = z' := Option.some.inj (show some (SeqAt.readOf s.heap its[m]) = some z' from hz')
    simpa using e1
  refine call_meets PySem.F.slot_list_remove ⟨_, ho, rfl⟩ PySem.F.entry_list_remove (PySem.F.args_list_remove_2 _ _)
    (SeqAt.list_removeAt a its.toArray n uy (fun u => PyData.eqv (SeqAt.readOf s.heap u) d) j hj ?_ ?_ (by rw [List.size_toArray]; omega)) ⟨ho, SeqAt.items_eqAt (vs := its.toArray) (show ReadsAll s.heap its.toArray.toList ds as from h4) r1 hxs (SeqAt.canLay_of_shaped sd) hroom, ?_⟩
  · show PyData.eqv (SeqAt.readOf s.heap its.toArray[j]) d = true
    rw [at_ j hj z hz]
    exact hzj
  · intro m hm hmj
    have hmd : m < ds.length := by omega
    have hz' : ds[m]? = some ds[m] := List.getElem?_eq_getElem hmd
    show PyData.eqv (SeqAt.readOf s.heap its.toArray[m]) d = false
    rw [at_ m hm _ hz']
    exact hno m _ hmj hz'
  · refine ⟨.non, _, I.lset hH ho (its' := its.eraseIdx j) (by rw [Array.eraseIdxIfInBounds, dif_pos hj]; simp) (rv.eraseIdx j) (Nat.le_trans (len_erase _ _) hsz), rfl, q⟩
/-- tuples of whole numbers and truth values, by < -/
def numV : V → Option Int
  | .int i => some i
  | .bl b => some (b2i b)
  | _ => none
def rLtM (K : PySem.W.Frag) : R2 := fun x y H Q => ∃ (a b : Addr) (xs ys : List V) (ns ms : List Int), x = .ref a ∧ y = .ref b ∧ SqT K H a xs ∧ SqT K H b ys ∧ xs.map numV = ns.map some ∧ ys.map numV = ms.map some ∧
  (∀ (j : Nat) (x y : V), xs[j]? = some x → ys[j]? = some y → (∃ i k, x = V.int i ∧ y = V.int k) ∨ ∃ i k, x = V.bl i ∧ y = V.bl k) ∧
  Q (.bl (Ob.lexAt (fun j => decide (ns.getD j 0 = ms.getD j 0)) (fun j => decide (ns.getD j 0 < ms.getD j 0)) (decide (ns.length < ms.length)) 0 (min ns.length ms.length))) H
theorem rcLt_bool {A : Around} {s : Shared} (p q : Bool) : Ob.RcOp .Lt A s (.bool p) (.bool q) (decide (b2i p < b2i q)) := fun _ _ _ _ h => PyProof.Rows.lt_bool h
theorem op_ltM (hu : X.A.units < cLine) : OpR X (compareOp .Lt) (rLtM X.K) := by
  intro pins s σ H x y v u Q I rx ry h
  obtain ⟨a, b, xs, ys, ns, ms, rfl, rfl, ha, hb, en, em, hk, q⟩ := h
  cases rx
  cases ry
  obtain ⟨its, r1, p1, _⟩ := I.tuple ha
  obtain ⟨its2, r2, p2, _⟩ := I.tuple hb
  have l1 : xs.length = ns.length := by have := congrArg List.length en; simpa using this
  have l2 : ys.length = ms.length := by have := congrArg List.length em; simpa using this
  have e1 : its.toArray.size = ns.length := by rw [List.size_toArray, ← r1.length]; exact l1
  have e2 : its2.toArray.size = ms.length := by rw [List.size_toArray, ← r2.length]; exact l2
  have nn : ∀ j (h1 : j < xs.length), numV xs[j] = some (ns.getD j 0) := fun j h1 => by
    have h2 : j < ns.length := by omega
    have := congrArg (fun l : List (Option Int) => l[j]?) en
    simp only [List.getElem?_map, List.getElem?_eq_getElem h1, List.getElem?_eq_getElem h2, Option.map_some] at this
    have e := Option.some.inj this
    rw [e]
    simp [List.getD, List.getElem?_eq_getElem h2]
  have mm : ∀ j (h1 : j < ys.length), numV ys[j] = some (ms.getD j 0) := fun j h1 => by
    have h2 : j < ms.length := by omega
    have := congrArg (fun l : List (Option Int) => l[j]?) em
    simp only [List.getElem?_map, List.getElem?_eq_getElem h1, List.getElem?_eq_getElem h2, Option.map_some] at this
    have e := Option.some.inj this
    rw [e]
    simp [List.getD, List.getElem?_eq_getElem h2]
  have both : ∀ j (h1 : j < its.toArray.size) (h2 : j < its2.toArray.size), (∃ i t k t', its.toArray[j] = .int i t ∧ its2.toArray[j] = .int k t' ∧ ns.getD j 0 = i ∧ ms.getD j 0 = k) ∨ ∃ i k, its.toArray[j] = .bool i ∧ its2.toArray[j] = .bool k ∧ ns.getD j 0 = b2i i ∧ ms.getD j 0 = b2i k := fun j h1 h2 => by
    have j1 : j < xs.length := by omega
    have j2 : j < ys.length := by omega
    obtain ⟨u1, g1, q1⟩ := r1.get (List.getElem?_eq_getElem j1)
    obtain ⟨u2, g2, q2⟩ := r2.get (List.getElem?_eq_getElem j2)
    have n1 := nn j j1
    have n2 := mm j j2
    have f1 : its.toArray[j] = u1 := by
      obtain ⟨_, e⟩ := List.getElem?_eq_some_iff.mp g1
      simpa using e
    have f2 : its2.toArray[j] = u2 := by
      obtain ⟨_, e⟩ := List.getElem?_eq_some_iff.mp g2
      simpa using e
    rcases hk j _ _ (List.getElem?_eq_getElem j1) (List.getElem?_eq_getElem j2) with ⟨i, k, ei, ek⟩ | ⟨i, k, ei, ek⟩
    · rw [ei] at q1 n1
      rw [ek] at q2 n2
      obtain ⟨t, rfl⟩ := q1
      obtain ⟨t', rfl⟩ := q2
      exact .inl ⟨i, t, k, t', f1, f2, (Option.some.inj n1).symm, (Option.some.inj n2).symm⟩
    · rw [ei] at q1 n1
      rw [ek] at q2 n2
      cases q1
      cases q2
      exact .inr ⟨i, k, f1, f2, (Option.some.inj n1).symm, (Option.some.inj n2).symm⟩
  have R := Ob.RcOp.tuples_lt (A := X.A) (s := s) (e := fun j => decide (ns.getD j 0 = ms.getD j 0)) (r := fun j => decide (ns.getD j 0 < ms.getD j 0)) p1 p2 hu (fun j h1 h2 => by
    rcases both j h1 h2 with ⟨i, t, k, t', q1, q2, e1, e2⟩ | ⟨i, k, q1, q2, e1, e2⟩
    · rw [q1, q2, e1, e2]
      have z : (i == k) = decide (i = k) := by
        by_cases q : i = k
        · rw [decide_eq_true q]; exact beq_iff_eq.mpr q
        · rw [decide_eq_false q]; exact beq_eq_false_iff_ne.mpr q
      rw [← z]
      exact SeqAt.EqAt.int_int _ _ _ _
    · rw [q1, q2, e1, e2]
      have z : decide (b2i i = b2i k) = eqV (.bl i) (.bl k) := by cases i <;> cases k <;> rfl
      rw [z]
      exact eqAt_V (y := .bl i) (x := .bl k) rfl rfl rfl rfl) (fun j h1 h2 _ => by
    rcases both j h1 h2 with ⟨i, t, k, t', q1, q2, e1, e2⟩ | ⟨i, k, q1, q2, e1, e2⟩
    · rw [q1, q2, e1, e2]
      exact Ob.RcOp.lt_int _ _ _ _
    · rw [q1, q2, e1, e2]
      exact rcLt_bool _ _)
  rw [e1, e2] at R
  have z : wpAny (model X.prog X.w) X.A (compareOp .Lt (.ref a) (.ref b)) (EP X pins σ Q) X.xe s := R X.prog X.w X.xe (EP X pins σ Q) ⟨.bl _, H, I, rfl, q⟩
  exact z
end
end Obr
namespace Obr
open PySem L2 PySem.Spec PyProof.Rows
section
variable {S : Type} {J : S → Hp → Hp → Prop} {K : PySem.W.Frag} {s : S} {F : Hp} {R : V → S → Hp → Prop}
/-- two pairs, by < -/
theorem rw_lt2 (hd : Hid J) {a b : Addr} {x1 x2 : V} {n1 n2 k1 k2 : Int} (ha : SqT K F a [x1, .int k1]) (hb : SqT K F b [x2, .int k2]) (e1 : numV x1 = some n1) (e2 : numV x2 = some n2)
    (hk : (∃ i k, x1 = V.int i ∧ x2 = V.int k) ∨ ∃ i k, x1 = V.bl i ∧ x2 = V.bl k) (h : R (.bl (decide (n1 < n2 ∨ (n1 = n2 ∧ k1 < k2)))) s F) : RW J (rLtM K) (.ref a) (.ref b) s F R := fun H j Q q => by
  refine ⟨a, b, [x1, .int k1], [x2, .int k2], [n1, k1], [n2, k2], rfl, rfl, hd.sqT j ha, hd.sqT j hb, ?_, ?_, ?_, ?_⟩
  · show [numV x1, some k1] = [some n1, some k1]
    rw [e1]
  · show [numV x2, some k2] = [some n2, some k2]
    rw [e2]
  · intro i x y hx hy
    match i, hx, hy with
    | 0, hx, hy =>
      have := Option.some.inj hx
      have := Option.some.inj hy
      subst_vars
      exact hk
    | 1, hx, hy =>
      have := Option.some.inj hx
      have := Option.some.inj hy
      subst_vars
      exact .inl ⟨_, _, rfl, rfl⟩
    | i + 2, hx, hy => simp at hx
  · have e : Ob.lexAt (fun j => decide (([n1, k1] : List Int).getD j 0 = ([n2, k2] : List Int).getD j 0)) (fun j => decide (([n1, k1] : List Int).getD j 0 < ([n2, k2] : List Int).getD j 0)) (decide (([n1, k1] : List Int).length < ([n2, k2] : List Int).length)) 0 (min ([n1, k1] : List Int).length ([n2, k2] : List Int).length) = decide (n1 < n2 ∨ (n1 = n2 ∧ k1 < k2)) := by
      show (if decide (n1 = n2) = true then (if decide (k1 = k2) = true then decide (2 < 2) else decide (k1 < k2)) else decide (n1 < n2)) = _
      by_cases c1 : n1 = n2
      · rw [if_pos (decide_eq_true c1)]
        by_cases c2 : k1 = k2
        · rw [if_pos (decide_eq_true c2)]
          rw [decide_eq_false (by omega), decide_eq_false (by omega)]
        · rw [if_neg (by simpa using c2)]
          by_cases c3 : k1 < k2
          · rw [decide_eq_true c3, decide_eq_true (by omega)]
          · rw [decide_eq_false c3, decide_eq_false (by omega)]
      · rw [if_neg (by simpa using c1)]
        by_cases c3 : n1 < n2
        · rw [decide_eq_true c3, decide_eq_true (by omega)]
        · rw [decide_eq_false c3, decide_eq_false (by omega)]
    rw [e]
    exact q _ _ _ _ j h
theorem rw_eqD (hd : Hid J) {x y : V} {d e : PyData} (h1 : Dp K F x d) (h2 : Dp K F y e) (s1 : SeqAt.shaped d = true) (s2 : SeqAt.shaped e = true) (h : R (.bl (PyData.eqv d e)) s F) : RW J (rEqD K) x y s F R := fun H j Q q =>
  ⟨d, e, dp_ex (hd.ex j) h1, dp_ex (hd.ex j) h2, s1, s2, q _ _ _ _ j h⟩
theorem rw_neD (hd : Hid J) {x y : V} {d e : PyData} (h1 : Dp K F x d) (h2 : Dp K F y e) (s1 : SeqAt.shaped d = true) (s2 : SeqAt.shaped e = true) (h : R (.bl (!PyData.eqv d e)) s F) : RW J (rNeD K) x y s F R := fun H j Q q =>
  ⟨d, e, dp_ex (hd.ex j) h1, dp_ex (hd.ex j) h2, s1, s2, q _ _ _ _ j h⟩
theorem mw_remD (hd : Hid J) {a : Addr} {vs : List V} {y : V} {d : PyData} {ds : List PyData} {j0 : Nat} {z : PyData} (h1 : F a = some (.lst vs)) (h2 : DpAll K F vs ds) (h3 : Dp K F y d) (s1 : SeqAt.shaped (.list ds) = true) (s2 : SeqAt.shaped d = true)
    (hz : ds[j0]? = some z) (he : PyData.eqv z d = true) (hno : ∀ (m : Nat) (z' : PyData), m < j0 → ds[m]? = some z' → PyData.eqv z' d = false) (h : R .non s (upd F a (.lst (vs.eraseIdx j0)))) : MW J (rRemD K) (.ref a) [y] s F R := fun H j Q q =>
  ⟨a, vs, y, d, ds, j0, z, rfl, rfl, hd.ex j _ _ h1, dps_ex (hd.ex j) h2, dp_ex (hd.ex j) h3, s1, s2, hz, he, hno, q _ _ _ _ (hd.mu j h1) h⟩
end
/-! ### flat data is shaped -/
def flatD : PyData → Bool
  | .none => true
  | .bool _ => true
  | .int _ => true
  | .str _ => true
  | _ => false
/-- data of depth n at most -/
def lowD : Nat → PyData → Bool
  | _, .none => true
  | _, .bool _ => true
  | _, .int _ => true
  | _, .str x => PyData.strOk x
  | n + 1, .list ds => ds.all (lowD n)
  | n + 1, .tuple ds => ds.all (lowD n)
  | _, _ => false
theorem lowD_ok : ∀ (n : Nat) (d : PyData), lowD n d = true → d.canLay0 = true ∧ d.depth ≤ n
  | _, .none, _ => by simp [PyData.canLay0, PyData.depth]
  | _, .bool _, _ => by simp [PyData.canLay0, PyData.depth]
  | _, .int _, _ => by simp [PyData.canLay0, PyData.depth]
  | _, .str x, h => by
    have h' : PyData.strOk x = true := by simpa [lowD] using h
    simp [PyData.canLay0, PyData.depth, h']
  | 0, .list ds, h => by simp [lowD] at h
  | 0, .tuple ds, h => by simp [lowD] at h
  | _, .dict ds, h => by simp [lowD] at h
  | n + 1, .list ds, h => by
    have : ∀ ds : List PyData, ds.all (lowD n) = true → PyData.canLayAll0 ds = true ∧ PyData.depthAll ds ≤ n := fun ds => by
      induction ds with
      | nil => intro _; simp [PyData.canLayAll0, PyData.depthAll]
      | cons d ds ih =>
        intro h
        simp only [List.all_cons, Bool.and_eq_true] at h
        have a := lowD_ok n d h.1
        have b := ih h.2
        simp only [PyData.canLayAll0, PyData.depthAll, Bool.and_eq_true]
        exact ⟨⟨a.1, b.1⟩, by omega⟩
    simp only [lowD] at h
    have := this ds h
    simp only [PyData.canLay0, PyData.depth]
    exact ⟨this.1, by omega⟩
  | n + 1, .tuple ds, h => by
    have : ∀ ds : List PyData, ds.all (lowD n) = true → PyData.canLayAll0 ds = true ∧ PyData.depthAll ds ≤ n := fun ds => by
      induction ds with
      | nil => intro _; simp [PyData.canLayAll0, PyData.depthAll]
      | cons d ds ih =>
        intro h
        simp only [List.all_cons, Bool.and_eq_true] at h
        have a := lowD_ok n d h.1
        have b := ih h.2
        simp only [PyData.canLayAll0, PyData.depthAll, Bool.and_eq_true]
        exact ⟨⟨a.1, b.1⟩, by omega⟩
    simp only [lowD] at h
    have := this ds h
    simp only [PyData.canLay0, PyData.depth]
    exact ⟨this.1, by omega⟩
theorem shaped_low {n : Nat} {d : PyData} (h : lowD n d = true) (hn : n ≤ 64 := by decide) : SeqAt.shaped d = true := by
  have := lowD_ok n d h
  show (d.canLay0 && decide (d.depth ≤ 64)) = true
  rw [Bool.and_eq_true]
  exact ⟨this.1, decide_eq_true (by omega)⟩
end Obr
theorem L2.Room.u65 {k : Nat} {A : PySem.Around} (r : L2.Room k A) : A.units + 65 < PySem.cLine := by have := r.un; omega
namespace Obr
open PySem L2
theorem cutV_one (a : V) (l : List V) : cutV (a :: l) (some 1) none = l := by
  unfold cutV HT.sIx
  simp
theorem at_zero {x : V} {xs : List V} : atI (x :: xs) 0 = some x := by
  have h : ixN (x :: xs).length 0 = some 0 := by
    unfold ixN
    rw [if_pos (by decide), if_pos (by simp only [List.length_cons]; omega)]
    rfl
  unfold atI
  rw [h]
  rfl
theorem nodup_map_inj {α β : Type} {f : α → β} : ∀ {l : List α} {a b : α}, (l.map f).Nodup → a ∈ l → b ∈ l → f a = f b → a = b
  | [], _, _, _, h, _, _ => by cases h
  | x :: l, a, b, hn, ha, hb, e => by
    rw [List.map_cons, List.nodup_cons] at hn
    rcases List.mem_cons.mp ha with ea | ha2
    · rcases List.mem_cons.mp hb with eb | hb2
      · rw [ea, eb]
      · exact absurd (by rw [← ea, e]; exact List.mem_map_of_mem hb2) hn.1
    · rcases List.mem_cons.mp hb with eb | hb2
      · exact absurd (by rw [← eb, ← e]; exact List.mem_map_of_mem ha2) hn.1
      · exact nodup_map_inj hn.2 ha2 hb2 e
theorem map_eraseIdx' {α β : Type} (f : α → β) : ∀ (l : List α) (j : Nat), (l.eraseIdx j).map f = (l.map f).eraseIdx j
  | [], _ => by simp
  | a :: l, 0 => by simp
  | a :: l, j + 1 => by simp [map_eraseIdx' f l j]
theorem perm_eraseIdx {α : Type} : ∀ {l : List α} {j : Nat} {b : α}, l[j]? = some b → l.Perm (b :: l.eraseIdx j)
  | [], _, _, h => by simp at h
  | a :: l, 0, b, h => by
    simp at h
    subst h
    exact .refl _
  | a :: l, j + 1, b, h => by
    simp only [List.getElem?_cons_succ] at h
    have := perm_eraseIdx h
    exact (List.Perm.cons a this).trans (List.Perm.swap b a _)
theorem dps_eraseIdx {K : PySem.W.Frag} {F : Hp} : ∀ {ds : List PyData} {vs : List V} (j : Nat), DpAll K F vs ds → DpAll K F (vs.eraseIdx j) (ds.eraseIdx j)
  | [], _, _, h => by cases h; exact .nil
  | d :: ds, _, 0, h => by cases h with | cons h1 h2 => exact h2
  | d :: ds, _, j + 1, h => by cases h with | cons h1 h2 => exact .cons h1 (dps_eraseIdx j h2)
theorem first_ix {α : Type} [DecidableEq α] : ∀ {l : List α} {b : α}, b ∈ l → ∃ j : Nat, l[j]? = some b ∧ ∀ (m : Nat) (x : α), m < j → l[m]? = some x → x ≠ b
  | [], _, h => by cases h
  | a :: l, b, h => by
    by_cases e : a = b
    · exact ⟨0, by simp [e], fun m x hm => by omega⟩
    · have h2 : b ∈ l := by
        rcases List.mem_cons.mp h with h | h
        · exact absurd h.symm e
        · exact h
      obtain ⟨j, h3, h4⟩ := first_ix h2
      refine ⟨j + 1, by simpa using h3, fun m x hm hx => ?_⟩
      cases m with
      | zero => simp at hx; rw [← hx]; exact e
      | succ m => exact h4 m x (by omega) (by simpa using hx)
end Obr
namespace Obr
open PySem L2 PySem.Spec PyProof.Rows

/-! ### dicts by keys -/
section
variable {κ : Type} [DecidableEq κ]
theorem valV_nd : ∀ {kvs : List (κ × V)} {i : Nat} {k : κ} {v : V}, (kvs.map (·.1)).Nodup → kvs[i]? = some (k, v) → valV kvs k = some v
  | [], _, _, _, _, h => by simp at h
  | p :: r, 0, k, v, _, h => by
    simp at h
    subst h
    exact valV_pos rfl
  | p :: r, i + 1, k, v, hn, h => by
    rw [List.map_cons, List.nodup_cons] at hn
    simp only [List.getElem?_cons_succ] at h
    have : p.1 ≠ k := fun e => hn.1 (by rw [e]; exact List.mem_map.mpr ⟨(k, v), List.mem_of_getElem? h, rfl⟩)
    rw [valV_neg this]
    exact valV_nd hn.2 h
theorem map_put {k : κ} {v : V} : ∀ {kvs : List (κ × V)} {i : Nat} {v0 : V}, (kvs.map (·.1)).Nodup → kvs[i]? = some (k, v0) → kvs.map (fun kv => if kv.1 = k then (kv.1, v) else kv) = kvs.set i (k, v)
  | [], _, _, _, h => by simp at h
  | p :: r, 0, v0, hn, h => by
    simp at h
    subst h
    rw [List.map_cons, List.nodup_cons] at hn
    have : r.map (fun kv => if kv.1 = k then (kv.1, v) else kv) = r := by
      conv => rhs; rw [← List.map_id r]
      refine List.map_congr_left fun x hx => ?_
      have : x.1 ≠ k := fun e => hn.1 (by show k ∈ _; rw [← e]; exact List.mem_map_of_mem hx)
      simp [this]
    simp [this]
  | p :: r, i + 1, v0, hn, h => by
    rw [List.map_cons, List.nodup_cons] at hn
    simp only [List.getElem?_cons_succ] at h
    have : p.1 ≠ k := fun e => hn.1 (by rw [e]; exact List.mem_map.mpr ⟨(k, v0), List.mem_of_getElem? h, rfl⟩)
    simp only [List.map_cons, if_neg this, List.set_cons_succ]
    rw [map_put hn.2 h]
theorem putK_nd {kvs : List (κ × V)} {i : Nat} {k : κ} {v v0 : V} (hn : (kvs.map (·.1)).Nodup) (h : kvs[i]? = some (k, v0)) : putK kvs k v = kvs.set i (k, v) := by
  unfold putK
  have : (kvs.any fun kv => decide (kv.1 = k)) = true := by
    rw [valV_any, valV_nd hn h]
    rfl
  rw [if_pos this]
  exact map_put hn h
end
section
variable {S : Type} {J : S → Hp → Hp → Prop} {K : PySem.W.Frag} {σ : L2.St} {s : S} {F : Hp} {R : V → S → Hp → Prop} {td ty tv te : TE} {D : En S}
theorem ew_dget (hd : Hid J) (h : EW J td σ s F fun x s1 F1 => EW J ty σ s1 F1 fun y s2 F2 => ∃ a kvs k v, x = .ref a ∧ y = kV k ∧ F2 a = some (.dK kvs) ∧ valV kvs k = some v ∧ R v s2 F2) : EW J (tDGet td ty) σ s F R := fun H j Q q =>
  h H j _ fun x s1 F1 H1 j1 h1 => h1 H1 j1 _ fun y s2 F2 H2 j2 ⟨a, kvs, k, v, e1, e2, hf, hv, k2⟩ => ⟨a, v, e1, by subst e2; rw [← hv]; exact DGet.k (hd.ex j2 _ _ hf), q _ _ _ _ j2 k2⟩
theorem sw_dput (hd : Hid J) (h : EW J tv σ s F fun v s1 F1 => EW J td σ s1 F1 fun x s2 F2 => EW J ty σ s2 F2 fun y s3 F3 => ∃ a kvs k, x = .ref a ∧ y = kV k ∧ F3 a = some (.dK kvs) ∧ kvs.length < 100000 ∧ D.nx σ s3 (upd F3 a (.dK (putK kvs k v)))) :
    SW J (sDPut td ty tv) D σ s F := fun H j D' l =>
  h H j _ fun v s1 F1 H1 j1 h1 => h1 H1 j1 _ fun x s2 F2 H2 j2 h2 => h2 H2 j2 _ fun y s3 F3 H3 j3 ⟨a, kvs, k, e1, e2, hf, hl, k2⟩ =>
    ⟨a, upd H3 a (.dK (putK kvs k v)), e1, by subst e2; exact DPut.k (hd.ex j3 _ _ hf) (Nat.lt_of_lt_of_le hl (by decide)), l.nx _ _ _ _ (hd.mu j3 hf) k2⟩
/-- the pairs of a display -/
def PPW {S : Type} (J : S → Hp → Hp → Prop) (trs : List (TE × TE)) (σ : L2.St) (s : S) (F : Hp) (R : List (V × V) → S → Hp → Prop) : Prop :=
  ∀ H, J s F H → ∀ Q : List (V × V) → Hp → Prop, (∀ ps s' F' H', J s' F' H' → R ps s' F' → Q ps H') → tPairs trs σ H Q
theorem ppw_nil {R : List (V × V) → S → Hp → Prop} (k : R [] s F) : PPW J [] σ s F R := fun H j Q q => q _ _ _ _ j k
theorem ppw_cons {tk tv : TE} {trs : List (TE × TE)} {R : List (V × V) → S → Hp → Prop} (h : EW J tk σ s F fun x s1 F1 => EW J tv σ s1 F1 fun y s2 F2 => PPW J trs σ s2 F2 fun ps s3 F3 => R ((x, y) :: ps) s3 F3) : PPW J ((tk, tv) :: trs) σ s F R := fun H j Q q =>
  h H j _ fun x s1 F1 H1 j1 h1 => h1 H1 j1 _ fun y s2 F2 H2 j2 h2 => h2 H2 j2 _ fun ps s3 F3 H3 j3 k => q _ _ _ _ j3 k
theorem ew_disp (hd : Hid J) {trs : List (TE × TE)} (h : ∀ p, F p = none → PPW J trs σ s (upd F p (.dK [])) fun ps s1 F1 => F1 p = some (.dK []) ∧ ∃ kvs : List (Key × V), ps = kvs.map (fun kv => (kV kv.1, kv.2)) ∧ kvs.length ≤ 15 ∧ R (.ref p) s1 (upd F1 p (.dK (mergeK [] kvs)))) :
    EW J (tDisp trs) σ s F R := fun H j Q q p hp => h p (hd.fresh j hp) _ (hd.al j hp) _ fun ps s1 F1 H1 j1 ⟨e, kvs, ek, hl, k⟩ => ⟨hd.ex j1 _ _ e, kvs, ek, hl, q _ _ _ _ (hd.mu j1 e) k⟩
end
section
variable {X : Cx}
/-- d.update(e), two dicts -/
def rUpdD : V → List V → Hp → VK → Prop := fun x vs H Q => ∃ d o kvs more, x = .ref d ∧ vs = [.ref o] ∧ d ≠ o ∧ H d = some (.dK kvs) ∧ H o = some (.dK more) ∧ kvs.length + more.length ≤ 1000 ∧ Q .non (upd H d (.dK (mergeK kvs more)))
theorem mt_dupdate : MtM X "dict.update" rUpdD := by
  intro pins s σ H x xs v us Q I rx rxs h
  obtain ⟨d, o, kvs, more, rfl, rfl, hne, e1, e2, hl, q⟩ := h
  cases rx
  obtain ⟨u, rfl, ru⟩ := rxs.one
  cases ru
  obtain ⟨z1, hd1, vs1, rel1, dd1⟩ := dk_of I.hok e1
  obtain ⟨z2, hd2, vs2, rel2, dd2⟩ := dk_of I.hok e2
  refine call_meetsIn PySem.F.slot_dict_update dd1.typeIs PySem.F.entry_dict_update (PySem.F.args_dict_update_2 _ _) (meets_dict_update (mixKind X.prog X.w) d o hne hd2)
    ⟨vs1, vs2, dd1, dd2, by rw [← rel1.length, ← rel2.length]; rw [sizeLine_eq]; omega, fun h' dd' _ hs => ?_⟩
  have he : ∃ q, h'.get? d = some q := let ⟨q, _, _, hq, _⟩ := dd'; ⟨q, hq⟩
  refine ⟨.non, _, d_write (t' := s.toks) I (by rw [e1]; exact True.intro) hs he (dk_new ?_ hd1 (rel2.merge rel1) dd'), rfl, q⟩
  have := length_mergeK more kvs
  rw [sizeLine_eq]
  omega
end
section
variable {S : Type} {J : S → Hp → Hp → Prop} {K : PySem.W.Frag} {σ : L2.St} {s : S} {F : Hp} {R : V → S → Hp → Prop} {te : TE} {tr : TA}
theorem ew_bmD (hd : Hid J) {r : V → List V → Hp → VK → Prop} (h : EW J te σ s F fun x s1 F1 => ∃ a kvs, x = .ref a ∧ F1 a = some (.dK kvs) ∧ AW J tr σ s1 F1 fun vs s2 F2 => MW J r x vs s2 F2 R) : EW J (tBM K "dict" r te tr) σ s F R := fun H j Q q =>
  h H j _ fun x s1 F1 H1 j1 ⟨a, kvs, e, l, h1⟩ => ⟨by subst e; exact Or.inr (Or.inr (Or.inl ⟨rfl, Or.inl ⟨kvs, hd.ex j1 _ _ l⟩⟩)), h1 H1 j1 _ fun vs s2 F2 H2 j2 h2 => h2 H2 j2 Q q⟩
theorem mw_upd (hd : Hid J) {d o : Addr} {kvs more : List (Key × V)} (hne : d ≠ o) (h1 : F d = some (.dK kvs)) (h2 : F o = some (.dK more)) (hl : kvs.length + more.length ≤ 1000) (h : R .non s (upd F d (.dK (mergeK kvs more)))) : MW J rUpdD (.ref d) [.ref o] s F R := fun H j Q q =>
  ⟨d, o, kvs, more, rfl, rfl, hne, hd.ex j _ _ h1, hd.ex j _ _ h2, hl, q _ _ _ _ (hd.mu j h1) h⟩
end

/-! ### owned cells: F0 knows none of them, F holds each -/
structure Own (F0 F : Hp) (own : List (Addr × HO)) : Prop where
  ex : Ex F0 F
  out : ∀ p ∈ own, F0 p.1 = none
  at_ : ∀ p ∈ own, F p.1 = some p.2
  nd : (own.map (·.1)).Nodup
section
variable {F0 F : Hp} {own : List (Addr × HO)}
theorem Own.get (h : Own F0 F own) {i : Nat} {a : Addr} {o : HO} (e : own[i]? = some (a, o)) : F a = some o := h.at_ (a, o) (List.mem_of_getElem? e)
theorem Own.none (h : Own F0 F own) {i : Nat} {a : Addr} {o : HO} (e : own[i]? = some (a, o)) : F0 a = Option.none := h.out (a, o) (List.mem_of_getElem? e)
theorem own_map_set {i : Nat} {a : Addr} {o o' : HO} (e : own[i]? = some (a, o)) : (own.set i (a, o')).map (·.1) = own.map (·.1) := by
  rw [List.map_set]
  have h : (own.map (·.1))[i]? = some a := by rw [List.getElem?_map, e]; rfl
  refine List.ext_getElem? fun j => ?_
  rw [List.getElem?_set]
  by_cases c : i = j
  · subst c
    rw [if_pos rfl, h]
    have hi : i < own.length := (List.getElem?_eq_some_iff.mp e).1
    simp [hi]
  · rw [if_neg c]
theorem Own.set (h : Own F0 F own) {i : Nat} {a : Addr} {o o' : HO} (e : own[i]? = some (a, o)) : Own F0 (upd F a o') (own.set i (a, o')) where
  ex := h.ex.out (h.none e)
  out := fun p hp => by
    rcases List.mem_or_eq_of_mem_set hp with hp | rfl
    · exact h.out p hp
    · exact h.none e
  at_ := fun p hp => by
    obtain ⟨j, hj⟩ := List.getElem?_of_mem hp
    rw [List.getElem?_set] at hj
    by_cases c : i = j
    · subst c
      rw [if_pos rfl] at hj
      simp at hj
      rw [← hj.2]
      exact upd_same
    · rw [if_neg c] at hj
      have : p.1 ≠ a := fun q => c (nd_ix h.nd (x := a) (by rw [List.getElem?_map, e]; rfl) (by rw [List.getElem?_map, hj]; exact congrArg some q))
      rw [upd_ne this]
      exact h.at_ p (List.mem_of_getElem? hj)
  nd := by rw [own_map_set e]; exact h.nd
/-- a new thing: known to both, or to F alone -/
theorem Own.new (h : Own F0 F own) {p : Addr} {o : HO} (hp : F p = Option.none) : Own (upd F0 p o) (upd F p o) own where
  ex := h.ex.upd
  out := fun q hq => by rw [upd_ne (ne_of_none (h.at_ q hq) hp)]; exact h.out q hq
  at_ := fun q hq => by rw [upd_ne (ne_of_none (h.at_ q hq) hp)]; exact h.at_ q hq
  nd := h.nd
theorem Own.new' (h : Own F0 F own) {p : Addr} {o : HO} (hp : F p = Option.none) : Own F0 (upd F p o) own where
  ex := h.ex.new hp
  out := h.out
  at_ := fun q hq => by rw [upd_ne (ne_of_none (h.at_ q hq) hp)]; exact h.at_ q hq
  nd := h.nd
/-- a new thing that is owned -/
theorem Own.more (h : Own F0 F own) {p : Addr} {o : HO} (hp : F p = Option.none) : Own F0 (upd F p o) ((p, o) :: own) where
  ex := h.ex.new hp
  out := fun q hq => by
    rcases List.mem_cons.mp hq with rfl | hq
    · exact h.ex.free hp
    · exact h.out q hq
  at_ := fun q hq => by
    rcases List.mem_cons.mp hq with rfl | hq
    · exact upd_same
    · rw [upd_ne (ne_of_none (h.at_ q hq) hp)]; exact h.at_ q hq
  nd := by
    rw [List.map_cons, List.nodup_cons]
    refine ⟨fun hm => ?_, h.nd⟩
    obtain ⟨q, hq, e⟩ := List.mem_map.mp hm
    have := h.at_ q hq
    rw [e, hp] at this
    cases this
theorem Own.perm (h : Own F0 F own) {own' : List (Addr × HO)} (p : own'.Perm own) : Own F0 F own' where
  ex := h.ex
  out := fun q hq => h.out q (p.mem_iff.mp hq)
  at_ := fun q hq => h.at_ q (p.mem_iff.mp hq)
  nd := (p.map (·.1)).nodup_iff.mpr h.nd
/-- what is no longer written is known to F0 -/
theorem Own.freeze (h : Own F0 F own) {a : Addr} {o : HO} {own' : List (Addr × HO)} (e : own = (a, o) :: own') : Own (upd F0 a o) F own' := by
  subst e
  exact {
    ex := fun b u hb => by
      by_cases c : b = a
      · subst c
        rw [upd_same] at hb
        rw [← hb]
        exact h.at_ (b, o) List.mem_cons_self
      · rw [upd_ne c] at hb
        exact h.ex b u hb
    out := fun q hq => by
      have : q.1 ≠ a := fun c => by
        have hn := h.nd
        rw [List.map_cons, List.nodup_cons] at hn
        exact hn.1 (by show a ∈ _; rw [← c]; exact List.mem_map_of_mem hq)
      rw [upd_ne this]
      exact h.out q (List.mem_cons_of_mem _ hq)
    at_ := fun q hq => h.at_ q (List.mem_cons_of_mem _ hq)
    nd := (List.nodup_cons.mp (by have := h.nd; rwa [List.map_cons] at this)).2 }
theorem own_nil {F : Hp} : Own F F [] := ⟨.refl _, (fun _ h => by cases h), (fun _ h => by cases h), List.nodup_nil⟩
end
end Obr
namespace Obr
open PySem L2 PySem.Spec PyProof.Rows
theorem Own.grow {F0 F F' : Hp} {own : List (Addr × HO)} (h : Own F0 F own) (g : Ex F F') : Own F0 F' own := ⟨h.ex.trans g, h.out, fun p hp => g _ _ (h.at_ p hp), h.nd⟩
theorem mergeK_nd : ∀ (more acc : List (Key × V)), ((acc ++ more).map (·.1)).Nodup → mergeK acc more = acc ++ more
  | [], acc, _ => by simp [mergeK]
  | (k, v) :: more, acc, h => by
    have h1 : valV acc k = none := by
      have : (acc.any fun kv => decide (kv.1 = k)) = false := by
        rw [List.any_eq_false]
        intro x hx
        simp only [decide_eq_true_eq]
        intro e
        rw [List.map_append, List.map_cons, List.nodup_append] at h
        exact h.2.2 x.1 (List.mem_map_of_mem hx) k List.mem_cons_self e
      rw [valV_any] at this
      cases e : valV acc k with
      | none => rfl
      | some y => rw [e] at this; cases this
    have : mergeK acc ((k, v) :: more) = mergeK (acc ++ [(k, v)]) more := by
      show mergeK (putK acc k v) more = _
      rw [putK_new v h1]
    rw [this, mergeK_nd more (acc ++ [(k, v)]) (by simpa using h)]
    simp
theorem rep_flat (n : Nat) (v : V) : (List.replicate n [v]).flatten = List.replicate n v := by
  induction n with
  | zero => rfl
  | succ n ih => simp [List.replicate_succ, ih]
theorem map_const {α : Type} (l : List α) (v : V) : l.map (fun _ => v) = List.replicate l.length v := by
  induction l with
  | nil => rfl
  | cons a l ih => simp [List.replicate_succ, ih]
end Obr
namespace Obr
open PySem L2 PySem.Spec PyProof.Rows
/-- some of what is owned, in another turn -/
theorem Own.pick {F0 F : Hp} {own : List (Addr × HO)} (h : Own F0 F own) (idx : List Nat) (hn : idx.Nodup) : Own F0 F (idx.filterMap fun i => own[i]?) where
  ex := h.ex
  out := fun p hp => by
    obtain ⟨i, _, e⟩ := List.mem_filterMap.mp hp
    exact h.out p (List.mem_of_getElem? e)
  at_ := fun p hp => by
    obtain ⟨i, _, e⟩ := List.mem_filterMap.mp hp
    exact h.at_ p (List.mem_of_getElem? e)
  nd := by
    induction idx with
    | nil => exact List.nodup_nil
    | cons i idx ih =>
      rw [List.nodup_cons] at hn
      rw [List.filterMap_cons]
      cases e : own[i]? with
      | none => exact ih hn.2
      | some p =>
        show (p.1 :: _).Nodup
        rw [List.nodup_cons]
        refine ⟨fun hm => ?_, ih hn.2⟩
        obtain ⟨q, hq, eq⟩ := List.mem_map.mp hm
        obtain ⟨j, hj, e2⟩ := List.mem_filterMap.mp hq
        have : i = j := nd_ix h.nd (x := p.1) (by rw [List.getElem?_map, e]; rfl) (by rw [List.getElem?_map, e2]; exact congrArg some eq)
        exact hn.1 (this ▸ hj)
end Obr
namespace Obr
open PySem L2 PySem.Spec PyProof.Rows
/-- the list that a comprehension makes stands at D, hidden, with what it has so far -/
def JD {S : Type} (J : S → Hp → Hp → Prop) (D : Addr) (acc : List V) : S → Hp → Hp → Prop := fun s F H => F D = none ∧ J s (upd F D (.lst acc)) H
theorem Hid.jd {S : Type} {J : S → Hp → Hp → Prop} {D : Addr} {acc : List V} (hd : Hid J) : Hid (JD J D acc) where
  ex := fun {s F H} ⟨fd, j⟩ a o e => hd.ex j a o (by rw [upd_ne (fun q => by rw [q, fd] at e; cases e)]; exact e)
  al := fun {s F H p o} ⟨fd, j⟩ hp => by
    have e := hd.fresh j hp
    have n : p ≠ D := fun q => by rw [q, upd_same] at e; cases e
    refine ⟨by rw [upd_ne n.symm]; exact fd, ?_⟩
    have c : upd (upd F p o) D (.lst acc) = upd (upd F D (.lst acc)) p o := by
      funext x
      unfold upd
      by_cases h1 : x = D
      · by_cases h2 : x = p
        · exact absurd (h2.symm.trans h1) n
        · simp [h1, n.symm]
      · by_cases h2 : x = p
        · simp [h2, n]
        · simp [h1, h2]
    rw [c]
    exact hd.al j hp
  mu := fun {s F H a o o'} ⟨fd, j⟩ e => by
    have n : a ≠ D := fun q => by rw [q, fd] at e; cases e
    refine ⟨by rw [upd_ne n.symm]; exact fd, ?_⟩
    have c : upd (upd F a o') D (.lst acc) = upd (upd F D (.lst acc)) a o' := by
      funext x
      unfold upd
      by_cases h1 : x = D
      · by_cases h2 : x = a
        · exact absurd (h2.symm.trans h1) n
        · simp [h1, n.symm]
      · by_cases h2 : x = a
        · simp [h2, n]
        · simp [h1, h2]
    rw [c]
    refine hd.mu j (o := o) ?_
    rw [upd_ne n]
    exact e
section
variable {S : Type} {J : S → Hp → Hp → Prop} {K : PySem.W.Frag} {σ : L2.St} {s : S} {F : Hp} {R : V → S → Hp → Prop} {tl te : TE} {g : TG} {tt : TT} {vs : List Nat} {ta : TA}
/-- what one turn of a comprehension asks -/
def LcTurn (J : S → Hp → Hp → Prop) (Dl : Addr) (g : TG) (tt : TT) (te : TE) (vs : List Nat) (σ : L2.St) (acc : List V) (x : V) (s : S) (F : Hp) (P : List V → S → Hp → Prop) : Prop :=
  GW (JD J Dl acc) g x (wipe σ vs) s F fun σ2 s2 F2 => wipe σ2 vs = wipe σ vs ∧ TW (JD J Dl acc) tt σ2 s2 F2 fun b s3 F3 => (b = true → EW (JD J Dl acc) te σ2 s3 F3 fun y s4 F4 => P (acc ++ [y]) s4 F4) ∧ (b = false → P acc s3 F3)
theorem lc_step (hd : Hid J) {Dl : Addr} {acc : List V} {x : V} {P : List V → S → Hp → Prop} (hz : acc.length < 100000) (h : LcTurn J Dl g tt te vs σ acc x s F P) {H : Hp} (fd : F Dl = none) (j : J s (upd F Dl (.lst acc)) H) {Nx : Hp → Prop}
    (q : ∀ acc s F H, F Dl = none → J s (upd F Dl (.lst acc)) H → P acc s F → Nx H) : g x (wipe σ vs) H fun σ2 H2 => wipe σ2 vs = wipe σ vs ∧ tt σ2 H2 fun b H3 =>
      if b = true then te σ2 H3 fun y H4 => ∃ acc, H4 Dl = some (.lst acc) ∧ acc.length < sizeLine ∧ Nx (upd H4 Dl (.lst (acc ++ [y]))) else Nx H3 :=
  h H ⟨fd, j⟩ _ fun σ2 s2 F2 H2 j2 ⟨hw, k⟩ => ⟨hw, k H2 j2 _ fun b s3 F3 H3 j3 k => by
    cases b with
    | true =>
      refine k.1 rfl H3 j3 _ fun y s4 F4 H4 ⟨fd4, j4⟩ k4 => ⟨acc, hd.ex j4 _ _ upd_same, Nat.lt_of_lt_of_le hz (by decide), q (acc ++ [y]) s4 F4 _ fd4 ?_ k4⟩
      have := hd.mu (o' := .lst (acc ++ [y])) j4 upd_same
      rw [upd_upd] at this
      exact this
    | false => exact q acc s3 F3 _ j3.1 j3.2 (k.2 rfl)⟩
theorem ew_lcT (hd : Hid J) (h : EW J tl σ s F fun v s1 F1 => ∃ a xs, v = .ref a ∧ SqT K F1 a xs ∧ xs.length ≤ 100000 ∧ ∀ Dl, F1 Dl = none → ∃ Pv : Nat → List V → S → Hp → Prop, Pv 0 [] s1 F1 ∧
      (∀ i acc s F, i ≤ xs.length → F Dl = none → Pv i acc s F → SqT K F a xs ∧ acc.length ≤ i) ∧ (∀ (i : Nat) acc x s F, xs[i]? = some x → F Dl = none → Pv i acc s F → LcTurn J Dl g tt te vs σ acc x s F (Pv (i + 1))) ∧
      (∀ acc s F, F Dl = none → Pv xs.length acc s F → R (.ref Dl) s (upd F Dl (.lst acc)))) : EW J (tLc (iTup K tl) g tt te vs) σ s F R := fun H j Q q =>
  h H j _ fun v s1 F1 H1 j1 ⟨a, xs, e, l1, hz, k⟩ => ⟨a, e, ⟨xs, hd.sqT j1 l1⟩, fun Dl hD => by
    have fD := hd.fresh j1 hD
    obtain ⟨Pv, h0, hl, hs, hdn⟩ := k Dl fD
    refine lc_tup (xs := xs) (fun i H => ∃ acc s F, i ≤ xs.length ∧ F Dl = none ∧ J s (upd F Dl (.lst acc)) H ∧ Pv i acc s F) ⟨[], s1, F1, Nat.zero_le _, fD, hd.al j1 hD, h0⟩ (fun i H' hi ⟨acc, s', F', _, f1, j', p⟩ => ?_) (fun i x H' hi ⟨acc, s', F', hle, f1, j', p⟩ => ?_) (fun H' ⟨acc, s', F', _, f1, j', p⟩ => q _ _ _ _ j' (hdn acc s' F' f1 p))
    · refine hd.sqT j' ?_
      obtain ⟨f2, _⟩ := hl i acc s' F' hi f1 p
      exact Ex.sqT (Ex.out (Ex.refl _) f1) f2
    · have hlt := (List.getElem?_eq_some_iff.mp hi).1
      obtain ⟨f2, f3⟩ := hl i acc s' F' hle f1 p
      exact lc_step hd (by omega) (hs i acc x s' F' hi f1 p) f1 j' fun acc s F H fd j p => ⟨acc, s, F, by omega, fd, j, p⟩⟩
theorem ew_lcL (hd : Hid J) (h : EW J tl σ s F fun v s1 F1 => ∃ a xs, v = .ref a ∧ SqL K F1 a xs ∧ xs.length ≤ 100000 ∧ ∀ Dl, F1 Dl = none → ∃ Pv : Nat → List V → S → Hp → Prop, Pv 0 [] s1 F1 ∧
      (∀ i acc s F, i ≤ xs.length → F Dl = none → Pv i acc s F → SqL K F a xs ∧ acc.length ≤ i) ∧ (∀ (i : Nat) acc x s F, xs[i]? = some x → F Dl = none → Pv i acc s F → LcTurn J Dl g tt te vs σ acc x s F (Pv (i + 1))) ∧
      (∀ acc s F, F Dl = none → Pv xs.length acc s F → R (.ref Dl) s (upd F Dl (.lst acc)))) : EW J (tLc (iList K tl) g tt te vs) σ s F R := fun H j Q q =>
  h H j _ fun v s1 F1 H1 j1 ⟨a, xs, e, l1, hz, k⟩ => ⟨a, e, ⟨xs, hd.sqL j1 l1⟩, fun Dl hD => by
    have fD := hd.fresh j1 hD
    obtain ⟨Pv, h0, hl, hs, hdn⟩ := k Dl fD
    refine lc_list (xs := xs) (fun i H => ∃ acc s F, i ≤ xs.length ∧ F Dl = none ∧ J s (upd F Dl (.lst acc)) H ∧ Pv i acc s F) ⟨[], s1, F1, Nat.zero_le _, fD, hd.al j1 hD, h0⟩ (fun i H' hi ⟨acc, s', F', _, f1, j', p⟩ => ?_) (fun i x H' hi ⟨acc, s', F', hle, f1, j', p⟩ => ?_) (fun H' ⟨acc, s', F', _, f1, j', p⟩ => q _ _ _ _ j' (hdn acc s' F' f1 p))
    · refine hd.sqL j' ?_
      obtain ⟨f2, _⟩ := hl i acc s' F' hi f1 p
      exact Ex.sqL (Ex.out (Ex.refl _) f1) f2
    · have hlt := (List.getElem?_eq_some_iff.mp hi).1
      obtain ⟨f2, f3⟩ := hl i acc s' F' hle f1 p
      exact lc_step hd (by omega) (hs i acc x s' F' hi f1 p) f1 j' fun acc s F H fd j p => ⟨acc, s, F, by omega, fd, j, p⟩⟩
theorem ew_lcR (hd : Hid J) (h : AW J ta σ s F fun ws s1 F1 => ∃ n : Int, ws = [.int n] ∧ n ≤ 100000 ∧ -100000 ≤ n ∧ ∀ Dl, F1 Dl = none → ∃ Pv : Nat → List V → S → Hp → Prop, Pv 0 [] s1 F1 ∧
      (∀ (i : Nat) acc s F, i ≤ n.toNat → F Dl = none → Pv i acc s F → acc.length ≤ i) ∧ (∀ (i : Nat) acc s F, (i : Int) < n → F Dl = none → Pv i acc s F → LcTurn J Dl g tt te vs σ acc (.int (i : Int)) s F (Pv (i + 1))) ∧
      (∀ acc s F, F Dl = none → Pv n.toNat acc s F → R (.ref Dl) s (upd F Dl (.lst acc)))) : EW J (tLc (iRng1 ta) g tt te vs) σ s F R := fun H j Q q =>
  h H j _ fun v s1 F1 H1 j1 ⟨n, e, hz, hz2, k⟩ => ⟨n, e, by omega, by omega, fun Dl hD => by
    have fD := hd.fresh j1 hD
    obtain ⟨Pv, h0, hl, hs, hdn⟩ := k Dl fD
    refine lc_range (lo := 0) (n := n.toNat) (fun i H => ∃ acc s F, i ≤ n.toNat ∧ F Dl = none ∧ J s (upd F Dl (.lst acc)) H ∧ Pv i acc s F) ⟨[], s1, F1, Nat.zero_le _, fD, hd.al j1 hD, h0⟩ (fun i H' hi ⟨acc, s', F', hle, f1, j', p⟩ => ?_) (fun H' ⟨acc, s', F', _, f1, j', p⟩ => q _ _ _ _ j' (hdn acc s' F' f1 p))
    have f3 := hl i acc s' F' hle f1 p
    have e0 : (0 : Int) + (i : Int) = (i : Int) := Int.zero_add _
    rw [e0]
    exact lc_step hd (by omega) (hs i acc s' F' (by omega) f1 p) f1 j' fun acc s F H fd j p => ⟨acc, s, F, by omega, fd, j, p⟩⟩
end
end Obr
namespace Obr
open PySem L2
def top (i : Nat) : Stmt := PySem.Challenge.pw_onebreath_k04_whole_rounds_for_ever.main.body.getD i (.Pass ⟨0, 0, 0, 0⟩)

local macro_rules | `(tactic| walk_at "ob_at") => `(tactic| first
  | assumption
  | exact upd_same
  | (refine Eq.trans (upd_ne ?obn) ?obr; (case obn => walk_at "ob_ne"); (case obr => walk_at "ob_at")))
local macro_rules | `(tactic| walk_at "ob_ne") => `(tactic| first
  | assumption
  | (refine Ne.symm ?obs; (case obs => assumption))
  | (refine' ne_of_none (H := ?_) ?obe ?obh; (case obh => assumption); (case obe => walk_at "ob_at"))
  | (refine Ne.symm ?obs; (case obs => (refine' ne_of_none (H := ?_) ?obe ?obh; (case obh => assumption); (case obe => walk_at "ob_at")))))
local macro_rules | `(tactic| walk_at "ob_fr") => `(tactic| first
  | assumption
  | (refine Eq.trans (upd_ne ?obn) ?obr; (case obn => walk_at "ob_ne"); (case obr => walk_at "ob_fr"))
  | (refine Ex.free (G := ?_) (by assumption) ?obh; (case obh => walk_at "ob_fr")))
local macro_rules | `(tactic| walk_at "ob_ex") => `(tactic| first
  | assumption
  | exact Ex.refl _
  | (refine Ex.out ?obg ?obh; (case obh => assumption); (case obg => walk_at "ob_ex"))
  | (refine Ex.new ?obg ?obh; (case obh => assumption); (case obg => walk_at "ob_ex"))
  | (refine Ex.new ?obg ?obh; (case obh => walk_at "ob_fr"); (case obg => walk_at "ob_ex")))
local macro_rules | `(tactic| walk_at "ob_sq") => `(tactic| first
  | assumption
  | (refine SqL.of ?oba; (case oba => walk_at "ob_at"))
  | (refine SqT.of ?oba; (case oba => walk_at "ob_at")))
local macro_rules | `(tactic| walk_at "ob_side") => `(tactic| first | exact rfl | assumption | decide | omega | exact ⟨by decide, by decide, by decide⟩ | exact Or.inr ⟨by decide, by decide⟩ | exact Or.inl ⟨by decide, by decide⟩)
local macro_rules | `(tactic| walk_at "ob1") => `(tactic| first
  | with_reducible refine sw_seq ?_
  | with_reducible refine sw_asg ?_
  | with_reducible refine sw_ret ?_
  | with_reducible refine sw_drop ?_
  | with_reducible refine sw_if ?_
  | with_reducible refine sw_next ?_
  | with_reducible refine gw_name ?_
  | with_reducible refine ew_c ?_
  | ((with_reducible refine' ew_var (v := ?_) ?obv ?_); (case obv => exact rfl))
  | with_reducible refine ew_op ?_
  | with_reducible refine ew_un ?_
  | with_reducible refine ew_cb ?_
  | with_reducible refine ew_if ?_
  | with_reducible refine aw_nil ?_
  | with_reducible refine aw_cons ?_
  | with_reducible refine rw_I0 ?_
  | ((with_reducible refine rw_I ?obc ?_); (case obc => walk_at "ob_side"))
  | ((with_reducible refine rw_eq ?obc ?_); (case obc => exact rfl))
  | ((with_reducible refine rw_ne ?obc ?_); (case obc => exact rfl))
  | with_reducible refine cw_max2 ?_
  | with_reducible refine cw_min2 ?_
  | with_reducible refine tw_test ?_
  | with_reducible refine tw_B ?_
  | with_reducible refine tw_not ?_
  | with_reducible refine ⟨_, rfl, ?_⟩
  | ((with_reducible refine' rw_ixL (v := ?_) (xs := ?_) (by assumption) ?obl ?oba ?_); (case obl => walk_at "ob_sq"); (case oba => exact rfl))
  | ((with_reducible refine' rw_ixT (v := ?_) (xs := ?_) (by assumption) ?obl ?oba ?_); (case obl => walk_at "ob_sq"); (case oba => exact rfl))
  | ((with_reducible refine' ew_lst (by assumption) ?_))
  | ((with_reducible refine' ew_tup (by assumption) ?_)))
local macro_rules | `(tactic| walk_at "ob") => `(tactic| repeat walk_at "ob1")

abbrev sNext : Stmt := top 49
def N_next : List Str := ["_law_h", "_law_many", "_law_cell"]
theorem sc_next : FnScope N_next ["_law_h", "_law_many"] (defScope sNext) := ⟨rfl, rfl, rfl, by decide +kernel, rfl, by decide +kernel, by decide +kernel⟩
section
variable {P : Program} {w : World} {K : PySem.W.Frag} {mg : Str → Option Value} {base : Heap}

theorem ok_next {f : Addr} {fd : FuncData} (Fn : Fun K "_law_next" "_law_next" sNext f fd) (B : Blt mg) : FnOk P w K mg base CX0 1 f fd ["_law_h", "_law_many"] (LN aNext) := by
  refine Fn.ok sc_next (fun vs H Q E h => ?_) (fun cdv A outer s H vs Q E hr h => ?_)
  · obtain ⟨h, c, J, F, R, ws, hd, rfl, j, ⟨n, rfl, _⟩, _⟩ := h
    rfl
  · have nd := sc_next.nd
    obtain ⟨h, c, J, F, R, ws, hd, rfl, ⟨G, m, p, cells, g, fh, fc, m0, m1, p0, l, gh, gc, j⟩, ⟨n, rfl, n0, n1, k⟩, q⟩ := h
    have hc : h ≠ c := fun e => by
      subst e
      rw [gh] at gc
      have := Option.some.inj gc
      unfold hL cL at this
      injection this with e1
      cases cells with
      | nil => cases e1
      | cons z t => cases t with
        | nil => cases e1
        | cons z2 t =>
          have := (List.cons.inj (List.cons.inj e1).2).1
          cases this
    refine ⟨_, (pss_cons (ps_set (i := 2) nd rfl (Or.inl rfl) (pe_ix ix_list (pe_op op_cat (pe_ix ix_list (pv 0) pe_int (fun _ _ => rfl)) (pe_lst (pa_cons pe_int pa_nil))) (pe_op op_mod (pe_ix ix_list (pv 0) pe_int (fun _ _ => rfl)) (pe_callB (call_max2 rfl) (by rfl) B.max (by decide +kernel) (pa_cons pe_int (pa_cons (pe_callB call_len_seq (by rfl) B.len (by decide +kernel) (pa_cons (pe_ix ix_list (pv 0) pe_int (fun _ _ => rfl)) pa_nil)) pa_nil)))) (fun _ _ => rfl)))
      (pss_cons (ps_if (pt_cmpR op_ge (pv 2) (pe_op op_pow pe_int pe_int) (nomark _)) (pss_cons (ps_asg (pe_op op_fdivW (pv 2) (pv 1)) (pg_sub (pe_ix ix_list (pv 0) pe_int (fun _ _ => rfl)) (pe_op op_mod (pe_ix ix_list (pv 0) pe_int (fun _ _ => rfl)) (pe_callB call_len_seq (by rfl) B.len (by decide +kernel) (pa_cons (pe_ix ix_list (pv 0) pe_int (fun _ _ => rfl)) pa_nil))) set_list))
      (pss_one (ps_ret (pe_op op_mod (pv 2) (pv 1))))) pss_nil)
      (pss_cons (ps_asg (pe_op op_mod (pe_op op_add (pe_op op_add (pe_op op_mul (pe_ix ix_list (pv 0) pe_int (fun _ _ => rfl)) pe_int) (pe_op op_mul (pv 2) pe_int)) pe_int) pe_int) (pg_sub (pv 0) pe_int set_list))
      (pss_cons (ps_asg (pe_op op_add (pe_ix ix_list (pv 0) pe_int (fun _ _ => rfl)) pe_int) (pg_sub (pv 0) pe_int set_list))
      (pss_one (ps_ret (pe_op op_mod (pe_op op_fdivW (pe_ix ix_list (pv 0) pe_int (fun _ _ => rfl)) pe_int) (pv 1)))))))), ?_⟩
    refine LS.body j (R := fun v G => ∃ (m p : Int) (cells : List Int), Ex F G ∧ 0 ≤ m ∧ m < 2147483647 ∧ 0 ≤ p ∧ cells.length ≤ 63 ∧ G h = some (hL c m p) ∧ G c = some (cL cells) ∧ R v F)
      (fun v G' H' j' ⟨m', p', cells', g1, g4, g5, g6, g7, e1, e2, r⟩ => q v F H' ⟨G', m', p', cells', g1, fh, fc, g4, g5, g6, g7, e1, e2, j'⟩ r) ?_
    walk_at "ob"
    refine ⟨by decide, fun p1 hp1 => ?_⟩
    walk_at "ob"
    refine rw_cat hd (xs := cells.map V.int) (zs := [V.int 0]) (by walk_at "ob_at") (by walk_at "ob_at") (by simp; omega) fun p2 hp2 => ?_
    walk_at "ob"
    refine cw_lenS hd (ys := cells.map V.int) (Or.inl (by walk_at "ob_sq")) ?_
    walk_at "ob"
    have M0 : 0 < (if ((cells.map V.int).length : Int) > 1 then ((cells.map V.int).length : Int) else 1) := by split <;> omega
    have e0 := Int.emod_nonneg p (show (if ((cells.map V.int).length : Int) > 1 then ((cells.map V.int).length : Int) else 1) ≠ 0 by omega)
    have e1 := Int.emod_lt_of_pos p M0
    generalize ei : p % (if ((cells.map V.int).length : Int) > 1 then ((cells.map V.int).length : Int) else 1) = i at e0 e1
    have e2 : i < ((cells ++ [0]).length : Nat) := by
      rw [List.length_append]
      rw [List.length_map] at e1
      simp only [List.length_singleton]
      split at e1 <;> omega
    have e3 : (cells.map V.int) ++ [V.int 0] = (cells ++ [0]).map V.int := by rw [List.map_append]; rfl
    rw [e3]
    refine rw_ixL hd (SqL.of (by walk_at "ob_at")) (at_ints e0 e2) ?_
    generalize ez : (cells ++ [0]).getD i.toNat 0 = z
    walk_at "ob"
    have e18 : (10 : Int) ^ (18 : Int).toNat = 1000000000000000000 := by decide
    refine ⟨fun hb => ?_, fun hb => ?_⟩
    · have hz := of_decide_eq_true hb
      rw [e18] at hz
      have hcells : 0 < cells.length := by
        cases cells with
        | nil =>
          simp only [List.nil_append] at ez
          cases hi : i.toNat with
          | zero => rw [hi] at ez; simp at ez; omega
          | succ k => rw [hi] at ez; simp at ez; omega
        | cons a t => simp
      walk_at "ob"
      refine rw_I (wide_div (b := 60) n0 (by omega) (by decide) (by decide)) ?_
      refine gw_subL hd ?_
      walk_at "ob"
      refine cw_lenS hd (ys := cells.map V.int) (Or.inl (by walk_at "ob_sq")) ?_
      walk_at "ob"
      have L0 : 0 < ((cells.map V.int).length : Int) := by rw [List.length_map]; omega
      refine rw_I L0 ?_
      have f0 := Int.emod_nonneg p (show ((cells.map V.int).length : Int) ≠ 0 by omega)
      have f1 := Int.emod_lt_of_pos p L0
      refine ⟨c, _, _, _, rfl, rfl, (by walk_at "ob_at"), ixN_of f0 (by exact f1), ?_⟩
      walk_at "ob"
      refine ⟨m, p, cells.set (p % ((cells.map V.int).length : Int)).toNat (z / n), by walk_at "ob_ex", m0, m1, p0, by rw [List.length_set]; exact l, by walk_at "ob_at", ?_, k _ (Int.emod_nonneg _ (by omega)) (Int.emod_lt_of_pos _ n0)⟩
      rw [map_set_int]
      exact upd_same
    · walk_at "ob"
      refine gw_subL hd ?_
      walk_at "ob"
      refine ⟨h, _, _, _, rfl, rfl, (by walk_at "ob_at"), rfl, ?_⟩
      walk_at "ob"
      refine gw_subL hd ?_
      walk_at "ob"
      refine ⟨h, _, _, _, rfl, rfl, (by walk_at "ob_at"), rfl, ?_⟩
      walk_at "ob"
      refine rw_I (wide_div (b := 10) (by decide) (by decide) (by decide) (by decide)) ?_
      walk_at "ob"
      refine ⟨_, p + 1, cells, by walk_at "ob_ex", ?_, ?_, by omega, l, upd_same, by walk_at "ob_at", k _ (Int.emod_nonneg _ (by omega)) (Int.emod_lt_of_pos _ n0)⟩
      · exact Int.emod_nonneg _ (by decide)
      · exact Int.emod_lt_of_pos _ (by decide)
end
end Obr
namespace Obr
open PySem L2
local macro_rules | `(tactic| walk_at "ob_at") => `(tactic| first
  | assumption
  | exact upd_same
  | (refine Eq.trans (upd_ne ?obn) ?obr; (case obn => walk_at "ob_ne"); (case obr => walk_at "ob_at")))
local macro_rules | `(tactic| walk_at "ob_ne") => `(tactic| first
  | assumption
  | (refine Ne.symm ?obs; (case obs => assumption))
  | (refine' ne_of_none (H := ?_) ?obe ?obh; (case obh => assumption); (case obe => walk_at "ob_at"))
  | (refine Ne.symm ?obs; (case obs => (refine' ne_of_none (H := ?_) ?obe ?obh; (case obh => assumption); (case obe => walk_at "ob_at")))))
local macro_rules | `(tactic| walk_at "ob_fr") => `(tactic| first
  | assumption
  | (refine Eq.trans (upd_ne ?obn) ?obr; (case obn => walk_at "ob_ne"); (case obr => walk_at "ob_fr"))
  | (refine Ex.free (G := ?_) (by assumption) ?obh; (case obh => walk_at "ob_fr")))
local macro_rules | `(tactic| walk_at "ob_ex") => `(tactic| first
  | assumption
  | exact Ex.refl _
  | (refine Ex.out ?obg ?obh; (case obh => assumption); (case obg => walk_at "ob_ex"))
  | (refine Ex.new ?obg ?obh; (case obh => assumption); (case obg => walk_at "ob_ex"))
  | (refine Ex.new ?obg ?obh; (case obh => walk_at "ob_fr"); (case obg => walk_at "ob_ex")))
local macro_rules | `(tactic| walk_at "ob_sq") => `(tactic| first
  | assumption
  | (refine SqL.of ?oba; (case oba => walk_at "ob_at"))
  | (refine SqT.of ?oba; (case oba => walk_at "ob_at")))
local macro_rules | `(tactic| walk_at "ob_side") => `(tactic| first | exact rfl | assumption | decide | omega | exact ⟨by decide, by decide, by decide⟩ | exact Or.inr ⟨by decide, by decide⟩ | exact Or.inl ⟨by decide, by decide⟩)
local macro_rules | `(tactic| walk_at "ob1") => `(tactic| first
  | with_reducible refine sw_seq ?_
  | with_reducible refine sw_asg ?_
  | with_reducible refine sw_ret ?_
  | with_reducible refine sw_drop ?_
  | with_reducible refine sw_if ?_
  | with_reducible refine sw_next ?_
  | with_reducible refine gw_name ?_
  | with_reducible refine ew_c ?_
  | ((with_reducible refine' ew_var (v := ?_) ?obv ?_); (case obv => exact rfl))
  | ((with_reducible refine ew_next (by assumption) ?obv ?_); (case obv => exact rfl))
  | ((with_reducible refine ew_world (by assumption) ?obv ?_); (case obv => exact rfl))
  | ((with_reducible refine ew_rule (by assumption) ?obv ?_); (case obv => exact rfl))
  | with_reducible refine ew_op ?_
  | with_reducible refine ew_un ?_
  | with_reducible refine ew_cb ?_
  | with_reducible refine ew_if ?_
  | with_reducible refine aw_nil ?_
  | with_reducible refine aw_cons ?_
  | with_reducible refine rw_I0 ?_
  | ((with_reducible refine rw_I ?obc ?_); (case obc => walk_at "ob_side"))
  | ((with_reducible refine rw_eq ?obc ?_); (case obc => exact rfl))
  | ((with_reducible refine rw_ne ?obc ?_); (case obc => exact rfl))
  | with_reducible refine cw_max2 ?_
  | with_reducible refine cw_min2 ?_
  | with_reducible refine tw_test ?_
  | with_reducible refine tw_B ?_
  | with_reducible refine tw_not ?_
  | (refine' Exists.intro _ (And.intro (show V.bl _ = V.bl _ from rfl) ?_))
  | (refine' Exists.intro _ (And.intro (show V.int _ = V.int _ from rfl) ?_))
  | ((with_reducible refine' rw_ixL (v := ?_) (xs := ?_) (by assumption) ?obl ?oba ?_); (case obl => walk_at "ob_sq"); (case oba => exact rfl))
  | ((with_reducible refine' rw_ixT (v := ?_) (xs := ?_) (by assumption) ?obl ?oba ?_); (case obl => walk_at "ob_sq"); (case oba => exact rfl))
  | ((with_reducible refine' ew_lst (by assumption) ?_))
  | ((with_reducible refine' ew_tup (by assumption) ?_)))
local macro_rules | `(tactic| walk_at "ob_len") => `(tactic| first | exact Nat.le_of_ble_eq_true rfl | (simp; done) | omega)
local macro_rules | `(tactic| walk_at "ob") => `(tactic| repeat walk_at "ob1")

abbrev sMix : Stmt := top 48
def N_mix : List Str := ["_law_script", "_law_seed", "_law_mixed", "_law_cell"]
theorem sc_mix : FnScope N_mix ["_law_script", "_law_seed"] (defScope sMix) := ⟨rfl, rfl, rfl, by decide +kernel, rfl, by decide +kernel, by decide +kernel⟩
abbrev sRule : Stmt := top 52
def N_rule : List Str := ["_law_h"]
theorem sc_rule : FnScope N_rule ["_law_h"] (defScope sRule) := ⟨rfl, rfl, rfl, by decide +kernel, rfl, by decide +kernel, by decide +kernel⟩
section
variable {P : Program} {w : World} {K : PySem.W.Frag} {mg : Str → Option Value} {base : Heap}
theorem ok_mix {f : Addr} {fd : FuncData} (Fn : Fun K "_law_mix" "_law_mix" sMix f fd) (B : Blt mg) : FnOk P w K mg base CX0 1 f fd ["_law_script", "_law_seed"] (LS (aMix K)) := by
  refine Fn.ok sc_mix (fun vs H Q E h => ?_) (fun cdv A outer s H vs Q E hr h => ?_)
  · obtain ⟨J, F, R, hd, j, ⟨a, ns, z, rfl, _⟩, _⟩ := h
    rfl
  · have nd := sc_mix.nd
    obtain ⟨J, F, R, hd, j, ⟨a, ns, z, rfl, hl, z0, z1, k⟩, q⟩ := h
    refine ⟨_, (pss_cons (ps_set (i := 2) nd rfl (Or.inl rfl) (pv 1))
      (pss_cons (ps_for PassesOwn.never rfl (pi_list (pv 0)) (pg_name (i := 3) nd rfl (Or.inl rfl)) (pss_one (ps_set (i := 2) nd rfl (Or.inl rfl) (pe_op op_mod (pe_op op_add (pe_op op_add (pe_op op_mul (pv 2) pe_int) (pe_op op_mod (pv 3) pe_int)) pe_int) pe_int))))
      (pss_one (ps_ret (pe_lst (pa_cons (pv 2) (pa_cons (pe_callTy call_list_of (by rfl) B.list (by decide +kernel) (pa_cons (pv 0) pa_nil)) (pa_cons pe_int pa_nil)))))))), ?_⟩
    refine LS.body j q ?_
    walk_at "ob"
    refine sw_forL hd ?_
    walk_at "ob"
    refine ⟨a, ns.map V.int, fun i σ s G => G = F ∧ ∃ (m : Int) (y : Option V), σ = [some (.ref a), some (.int z), some (.int m), y] ∧ 0 ≤ m ∧ m < 2147483647, rfl, hl, ⟨rfl, z, none, rfl, z0, z1⟩, ?_, ?_, ?_⟩
    · rintro i σ s G hi ⟨rfl, _⟩
      exact hl
    · rintro i x σ s G hi ⟨rfl, m, y, rfl, m0, m1⟩
      obtain ⟨u, rfl⟩ : ∃ u, x = V.int u := by
        rw [List.getElem?_map] at hi
        cases e : ns[i]? with
        | none => rw [e] at hi; cases hi
        | some u => rw [e] at hi; exact ⟨u, (Option.some.inj hi).symm⟩
      walk_at "ob"
      exact ⟨rfl, _, _, rfl, Int.emod_nonneg _ (by decide), Int.emod_lt_of_pos _ (by decide)⟩
    · rintro σ s G ⟨rfl, m, y, rfl, m0, m1⟩
      walk_at "ob"
      refine cw_list hd (ys := ns.map V.int) (Or.inl (by exact hl)) fun c hc => ?_
      walk_at "ob"
      refine ⟨by walk_at "ob_len", fun h hh => ?_⟩
      exact k m c h m0 m1 hc (Ex.free (Ex.new (Ex.refl _) hc) hh) (ne_of_none upd_same hh)
theorem ok_rule {f f1 : Addr} {fd fd1 : FuncData} (Fn : Fun K "_law_rule" "_law_rule" sRule f fd) (B : Blt mg)
    (C_law_next : Cal K mg "_law_next" f1 fd1 ["_law_h", "_law_many"]) (G_law_next : FnOk P w K mg base CX0 1 f1 fd1 ["_law_h", "_law_many"] (LN aNext)) :
    FnOk P w K mg base CX0 2 f fd ["_law_h"] (LN (aRule K)) := by
  refine Fn.ok sc_rule (fun vs H Q E h => ?_) (fun cdv A outer s H vs Q E hr h => ?_)
  · obtain ⟨h, c, J, F, R, ws, hd, rfl, j, ⟨rfl, _⟩, _⟩ := h
    rfl
  · have nd := sc_rule.nd
    obtain ⟨h, c, J, F, R, ws, hd0, rfl, j, ⟨rfl, k⟩, q⟩ := h
    have hd := hd0.hj (h := h) (c := c)
    refine ⟨_, (pss_one (ps_ret (pe_tup (pa_cons (pe_ix ix_list (pe_lst (pa_cons pe_str (pa_cons pe_str (pa_cons pe_str (pa_cons pe_str pa_nil))))) (pe_call G_law_next (hr.mono (by decide)) (by rfl) C_law_next.g C_law_next.k C_law_next.a .nil pass0 (pa_cons (pv 0) (pa_cons pe_int pa_nil))) (fun _ _ => rfl)) (pa_cons (pe_cmpR op_eq (pe_call G_law_next (hr.mono (by decide)) (by rfl) C_law_next.g C_law_next.k C_law_next.a .nil pass0 (pa_cons (pv 0) (pa_cons pe_int pa_nil))) pe_int (nomark _)) pa_nil))))), ?_⟩
    refine LN.body j q ?_
    walk_at "ob"
    refine ⟨by walk_at "ob_len", fun p hp => ?_⟩
    walk_at "ob"
    refine ⟨by decide, by decide, fun r r0 r1 => ?_⟩
    obtain ⟨rg, er⟩ : ∃ rg : Rgt, atI [V.str "rank", V.str "turns", V.str "wait", V.str "least"] r = some (V.str (rgtS rg)) := by
      have : r = 0 ∨ r = 1 ∨ r = 2 ∨ r = 3 := by omega
      rcases this with rfl | rfl | rfl | rfl
      · exact ⟨.rank, rfl⟩
      · exact ⟨.turns, rfl⟩
      · exact ⟨.wait, rfl⟩
      · exact ⟨.least, rfl⟩
    refine rw_ixL hd (SqL.of upd_same) er ?_
    walk_at "ob"
    refine ⟨by decide, by decide, fun r2 r20 r21 => ?_⟩
    walk_at "ob"
    refine ⟨by walk_at "ob_len", fun t ht => ?_⟩
    exact k _ _ rg _ (by walk_at "ob_ex") (.tup (SqT.of upd_same) (.cons (.str _) (.cons (.bl _) .nil)))
end
end Obr
namespace Obr
open PySem L2
local macro_rules | `(tactic| walk_at "ob_at") => `(tactic| first
  | assumption
  | exact upd_same
  | (refine Eq.trans (upd_ne ?obn) ?obr; (case obn => walk_at "ob_ne"); (case obr => walk_at "ob_at")))
local macro_rules | `(tactic| walk_at "ob_ne") => `(tactic| first
  | assumption
  | (refine Ne.symm ?obs; (case obs => assumption))
  | (refine' ne_of_none (H := ?_) ?obe ?obh; (case obh => assumption); (case obe => walk_at "ob_at"))
  | (refine Ne.symm ?obs; (case obs => (refine' ne_of_none (H := ?_) ?obe ?obh; (case obh => assumption); (case obe => walk_at "ob_at")))))
local macro_rules | `(tactic| walk_at "ob_fr") => `(tactic| first
  | assumption
  | (refine Eq.trans (upd_ne ?obn) ?obr; (case obn => walk_at "ob_ne"); (case obr => walk_at "ob_fr"))
  | (refine Ex.free (G := ?_) (by assumption) ?obh; (case obh => walk_at "ob_fr")))
local macro_rules | `(tactic| walk_at "ob_ex") => `(tactic| first
  | assumption
  | exact Ex.refl _
  | (refine Ex.out ?obg ?obh; (case obh => assumption); (case obg => walk_at "ob_ex"))
  | (refine Ex.new ?obg ?obh; (case obh => assumption); (case obg => walk_at "ob_ex"))
  | (refine Ex.new ?obg ?obh; (case obh => walk_at "ob_fr"); (case obg => walk_at "ob_ex")))
local macro_rules | `(tactic| walk_at "ob_sq") => `(tactic| first
  | assumption
  | (refine SqL.of ?oba; (case oba => walk_at "ob_at"))
  | (refine SqT.of ?oba; (case oba => walk_at "ob_at")))
local macro_rules | `(tactic| walk_at "ob_side") => `(tactic| first | exact rfl | assumption | decide | omega | exact ⟨by decide, by decide, by decide⟩ | exact Or.inr ⟨by decide, by decide⟩ | exact Or.inl ⟨by decide, by decide⟩ | exact wide_div (b := 60) (by first | decide | omega) (by first | decide | omega) (by decide) (by decide))
local macro_rules | `(tactic| walk_at "ob1") => `(tactic| first
  | with_reducible refine sw_seq ?_
  | with_reducible refine sw_asg ?_
  | with_reducible refine sw_ret ?_
  | with_reducible refine sw_drop ?_
  | with_reducible refine sw_if ?_
  | with_reducible refine sw_next ?_
  | with_reducible refine gw_name ?_
  | with_reducible refine ew_c ?_
  | ((with_reducible refine' ew_var (v := ?_) ?obv ?_); (case obv => exact rfl))
  | ((with_reducible refine ew_next (by assumption) ?obv ?_); (case obv => exact rfl))
  | ((with_reducible refine ew_world (by assumption) ?obv ?_); (case obv => exact rfl))
  | ((with_reducible refine ew_rule (by assumption) ?obv ?_); (case obv => exact rfl))
  | with_reducible refine ew_op ?_
  | with_reducible refine ew_un ?_
  | with_reducible refine ew_cb ?_
  | with_reducible refine ew_if ?_
  | with_reducible refine aw_nil ?_
  | with_reducible refine aw_cons ?_
  | with_reducible refine rw_I0 ?_
  | ((with_reducible refine rw_I ?obc ?_); (case obc => walk_at "ob_side"))
  | ((with_reducible refine rw_eq ?obc ?_); (case obc => exact rfl))
  | ((with_reducible refine rw_ne ?obc ?_); (case obc => exact rfl))
  | with_reducible refine cw_max2 ?_
  | with_reducible refine cw_min2 ?_
  | with_reducible refine tw_test ?_
  | with_reducible refine tw_B ?_
  | with_reducible refine tw_not ?_
  | (refine' Exists.intro _ (And.intro (show V.bl _ = V.bl _ from rfl) ?_))
  | (refine' Exists.intro _ (And.intro (show V.int _ = V.int _ from rfl) ?_))
  | ((with_reducible refine' rw_ixL (v := ?_) (xs := ?_) (by assumption) ?obl ?oba ?_); (case obl => walk_at "ob_sq"); (case oba => exact rfl))
  | ((with_reducible refine' rw_ixT (v := ?_) (xs := ?_) (by assumption) ?obl ?oba ?_); (case obl => walk_at "ob_sq"); (case oba => exact rfl))
  | ((with_reducible refine' ew_lst (by assumption) ?_))
  | ((with_reducible refine' ew_tup (by assumption) ?_)))
local macro_rules | `(tactic| walk_at "ob_len") => `(tactic| first | exact Nat.le_of_ble_eq_true rfl | (simp; done) | omega)
local macro_rules | `(tactic| walk_at "ob") => `(tactic| repeat walk_at "ob1")

abbrev sWorld : Stmt := top 51
def N_world : List Str := ["_law_h", "_law_most", "_law_cap", "_law_store", "_law_machines", "_law_k", "_law_steps", "_law_time", "_law_draw", "_law_back"]
theorem sc_world : FnScope N_world ["_law_h", "_law_most", "_law_cap"] (defScope sWorld) := ⟨rfl, rfl, rfl, by decide +kernel, rfl, by decide +kernel, by decide +kernel⟩
section
variable {P : Program} {w : World} {K : PySem.W.Frag} {mg : Str → Option Value} {base : Heap}
theorem ok_world {f f1 : Addr} {fd fd1 : FuncData} (Fn : Fun K "_law_world" "_law_world" sWorld f fd) (B : Blt mg)
    (C_law_next : Cal K mg "_law_next" f1 fd1 ["_law_h", "_law_many"]) (G_law_next : FnOk P w K mg base CX0 1 f1 fd1 ["_law_h", "_law_many"] (LN aNext)) :
    FnOk P w K mg base CX0 2 f fd ["_law_h", "_law_most", "_law_cap"] (LN (aWorld K)) := by
  refine Fn.ok sc_world (fun vs H Q E h => ?_) (fun cdv A outer s H vs Q E hr h => ?_)
  · obtain ⟨h, c, J, F, R, ws, hd, rfl, j, ⟨most, cap, rfl, _⟩, _⟩ := h
    rfl
  · have nd := sc_world.nd
    obtain ⟨h, c, J, F, R, ws, hd0, rfl, j, ⟨most, cap, rfl, mo0, mo1, c0, c1, k⟩, q⟩ := h
    have hd := hd0.hj (h := h) (c := c)
    refine ⟨_, (pss_cons (ps_set (i := 3) nd rfl (Or.inl rfl) (pe_tup (pa_cons (pe_op op_add pe_int (pe_call G_law_next (hr.mono (by decide)) (by rfl) C_law_next.g C_law_next.k C_law_next.a .nil pass0 (pa_cons (pv 0) (pa_cons (pv 2) pa_nil)))) (pa_cons pe_int (pa_cons (pe_ix ix_list (pe_lst (pa_cons pe_int (pa_cons pe_int (pa_cons pe_int (pa_cons pe_int (pa_cons (pe_call G_law_next (hr.mono (by decide)) (by rfl) C_law_next.g C_law_next.k C_law_next.a .nil pass0 (pa_cons (pv 0) (pa_cons pe_int pa_nil))) pa_nil)))))) (pe_call G_law_next (hr.mono (by decide)) (by rfl) C_law_next.g C_law_next.k C_law_next.a .nil pass0 (pa_cons (pv 0) (pa_cons pe_int pa_nil))) (fun _ _ => rfl)) pa_nil)))))
      (pss_cons (ps_set (i := 3) nd rfl (Or.inl rfl) (pe_tup (pa_cons (pe_ix ix_tup (pv 3) pe_int (fun _ _ => rfl)) (pa_cons (pe_call G_law_next (hr.mono (by decide)) (by rfl) C_law_next.g C_law_next.k C_law_next.a .nil pass0 (pa_cons (pv 0) (pa_cons (pe_op op_add (pe_ix ix_tup (pv 3) pe_int (fun _ _ => rfl)) pe_int) pa_nil))) (pa_cons (pe_ix ix_tup (pv 3) pe_int (fun _ _ => rfl)) pa_nil)))))
      (pss_cons (ps_set (i := 4) nd rfl (Or.inl rfl) (pe_lst pa_nil))
      (pss_cons (ps_for PassesOwn.never rfl (pi_range1 rfl B.range (pa_cons (pe_call G_law_next (hr.mono (by decide)) (by rfl) C_law_next.g C_law_next.k C_law_next.a .nil pass0 (pa_cons (pv 0) (pa_cons (pe_op op_add (pv 1) pe_int) pa_nil))) pa_nil)) (pg_name (i := 5) nd rfl (Or.inl rfl)) (pss_cons (ps_set (i := 6) nd rfl (Or.inl rfl) (pe_lst pa_nil))
      (pss_cons (ps_for PassesOwn.never rfl (pi_range1 rfl B.range (pa_cons (pe_call G_law_next (hr.mono (by decide)) (by rfl) C_law_next.g C_law_next.k C_law_next.a .nil pass0 (pa_cons (pv 0) (pa_cons pe_int pa_nil))) pa_nil)) (pg_name (i := 7) nd rfl (Or.inl rfl)) (pss_cons (ps_set (i := 8) nd rfl (Or.inl rfl) (pe_ifExp (pt_cmpR op_eq (pe_call G_law_next (hr.mono (by decide)) (by rfl) C_law_next.g C_law_next.k C_law_next.a .nil pass0 (pa_cons (pv 0) (pa_cons pe_int pa_nil))) pe_int (nomark _)) (pe_call G_law_next (hr.mono (by decide)) (by rfl) C_law_next.g C_law_next.k C_law_next.a .nil pass0 (pa_cons (pv 0) (pa_cons (pe_op op_add (pe_ix ix_tup (pv 3) pe_int (fun _ _ => rfl)) pe_int) pa_nil))) (pe_call G_law_next (hr.mono (by decide)) (by rfl) C_law_next.g C_law_next.k C_law_next.a .nil pass0 (pa_cons (pv 0) (pa_cons (pe_op op_add (pe_callB (call_min2 rfl) (by rfl) B.min (by decide +kernel) (pa_cons pe_int (pa_cons (pe_ix ix_tup (pv 3) pe_int (fun _ _ => rfl)) pa_nil))) pe_int) pa_nil)))))
      (pss_cons (ps_set (i := 9) nd rfl (Or.inl rfl) (pe_ix ix_list (pe_lst (pa_cons pe_int (pa_cons (pv 8) (pa_cons (pe_call G_law_next (hr.mono (by decide)) (by rfl) C_law_next.g C_law_next.k C_law_next.a .nil pass0 (pa_cons (pv 0) (pa_cons (pe_op op_add (pv 8) pe_int) pa_nil))) pa_nil)))) (pe_call G_law_next (hr.mono (by decide)) (by rfl) C_law_next.g C_law_next.k C_law_next.a .nil pass0 (pa_cons (pv 0) (pa_cons pe_int pa_nil))) (fun _ _ => rfl)))
      (pss_one (ps_expr (pe_bm PySem.F.plainAttrs_list PySem.F.slot_list_append PySem.F.type_list_append mt_append (pv 6) (pa_cons (pe_tup (pa_cons (pv 8) (pa_cons (pe_op op_add pe_int (pe_call G_law_next (hr.mono (by decide)) (by rfl) C_law_next.g C_law_next.k C_law_next.a .nil pass0 (pa_cons (pv 0) (pa_cons (pe_ix ix_list (pe_lst (pa_cons pe_int (pa_cons pe_int pa_nil))) (pe_op op_fdivW (pe_call G_law_next (hr.mono (by decide)) (by rfl) C_law_next.g C_law_next.k C_law_next.a .nil pass0 (pa_cons (pv 0) (pa_cons pe_int pa_nil))) pe_int) (fun _ _ => rfl)) pa_nil)))) (pa_cons (pv 9) pa_nil)))) pa_nil)))))))
      (pss_one (ps_expr (pe_bm PySem.F.plainAttrs_list PySem.F.slot_list_append PySem.F.type_list_append mt_append (pv 4) (pa_cons (pe_callTy call_tuple_of (by rfl) B.tuple (by decide +kernel) (pa_cons (pv 6) pa_nil)) pa_nil)))))))
      (pss_one (ps_ret (pe_tup (pa_cons (pv 3) (pa_cons (pe_callTy call_tuple_of (by rfl) B.tuple (by decide +kernel) (pa_cons (pv 4) pa_nil)) pa_nil))))))))), ?_⟩
    refine LN.body j q ?_
    walk_at "ob"
    refine ⟨by omega, by omega, fun r1 r10 r11 => ?_⟩
    walk_at "ob"
    refine ⟨by decide, by decide, fun r2 r20 r21 => ?_⟩
    walk_at "ob"
    refine ⟨by walk_at "ob_len", fun p1 hp1 => ?_⟩
    walk_at "ob"
    refine ⟨by decide, by decide, fun r3 r30 r31 => ?_⟩
    obtain ⟨rf, erf, rf0, rf1⟩ : ∃ rf : Int, atI [V.int 0, V.int 1, V.int 1, V.int 2, V.int r2] r3 = some (V.int rf) ∧ 0 ≤ rf ∧ rf ≤ 9 := by
      have : r3 = 0 ∨ r3 = 1 ∨ r3 = 2 ∨ r3 = 3 ∨ r3 = 4 := by omega
      rcases this with rfl | rfl | rfl | rfl | rfl
      · exact ⟨0, rfl, by omega, by omega⟩
      · exact ⟨1, rfl, by omega, by omega⟩
      · exact ⟨1, rfl, by omega, by omega⟩
      · exact ⟨2, rfl, by omega, by omega⟩
      · exact ⟨r2, rfl, by omega, by omega⟩
    refine rw_ixL hd (SqL.of upd_same) erf ?_
    walk_at "ob"
    refine ⟨by walk_at "ob_len", fun p2 hp2 => ?_⟩
    walk_at "ob"
    refine ⟨by omega, by omega, fun r4 r40 r41 => ?_⟩
    walk_at "ob"
    refine ⟨by walk_at "ob_len", fun st hst => ?_⟩
    walk_at "ob"
    refine ⟨by walk_at "ob_len", fun ml hml => ?_⟩
    walk_at "ob"
    refine sw_forR1 ?_
    walk_at "ob"
    refine ⟨by omega, by omega, fun nm nm0 nm1 => ?_⟩
    walk_at "ob"
    refine ⟨nm, fun i σ _ G => ∃ (x5 x6 x7 x8 x9 : Option V) (G0 : Hp) (vs : List V) (mss : List (List Stp)), σ = [some (.ref h), some (.int most), some (.int cap), some (.ref st), some (.ref ml), x5, x6, x7, x8, x9] ∧
      Ex F G0 ∧ Ex G0 G ∧ G0 ml = none ∧ G ml = some (.lst vs) ∧ G0 st = some (.tup [.int (1 + r1), .int r4, .int rf]) ∧ DpAll K G0 vs (mss.map macD) ∧ mss.length = i ∧ (∀ ss ∈ mss, ss.length ≤ 4) ∧ ∀ ss ∈ mss, ∀ s ∈ ss, StpOk (1 + r1) s,
      rfl, by omega, by omega, ⟨none, none, none, none, none, _, [], [], rfl, ?_, Ex.new (Ex.refl _) hml, hml, upd_same, upd_same, .nil, rfl, ?_, ?_⟩, ?_, ?_⟩
    · walk_at "ob_ex"
    · intro ss hss; cases hss
    · intro ss hss; cases hss
    · rintro i σ _ G hi ⟨x5, x6, x7, x8, x9, G0, vs, mss, rfl, g1, g2, e1, e2, e3, dv, hl, ok1, ok2⟩
      walk_at "ob"
      refine ⟨by walk_at "ob_len", fun sl hsl => ?_⟩
      have nsl : ml ≠ sl := ne_of_none e2 hsl
      have e4 : G0 sl = none := g2.free hsl
      walk_at "ob"
      refine sw_forR1 ?_
      walk_at "ob"
      refine ⟨by decide, by decide, fun ns ns0 ns1 => ?_⟩
      walk_at "ob"
      refine ⟨ns, fun k σ _ G => ∃ (x7 x8 x9 : Option V) (G1 : Hp) (ws : List V) (ss : List Stp), σ = [some (.ref h), some (.int most), some (.int cap), some (.ref st), some (.ref ml), some (.int (i : Int)), some (.ref sl), x7, x8, x9] ∧
        Ex G0 G1 ∧ Ex G1 G ∧ G1 ml = none ∧ G1 sl = none ∧ G ml = some (.lst vs) ∧ G sl = some (.lst ws) ∧ DpAll K G1 ws (ss.map stpD) ∧ ss.length = k ∧ ∀ s ∈ ss, StpOk (1 + r1) s,
        rfl, by omega, by omega, ⟨x7, x8, x9, G0, [], [], rfl, Ex.refl _, Ex.new g2 hsl, e1, e4, by walk_at "ob_at", upd_same, .nil, rfl, ?_⟩, ?_, ?_⟩
      · intro s hs; cases hs
      · rintro kk σ _ G hk ⟨x7, x8, x9, G1, ws, ss, rfl, g3, g4, e1, e4, e2, e5, dw, hss, oks⟩
        have est : G st = some (.tup [.int (1 + r1), .int r4, .int rf]) := g4 _ _ (g3 _ _ e3)
        refine gw_name ?_
        refine sw_seq (sw_asg ?_)
        refine EW.imp (R := fun v _ G' => G' = G ∧ ∃ dr : Int, v = .int dr ∧ 0 ≤ dr ∧ dr ≤ 1 + r1) ?_ ?_
        · walk_at "ob"
          refine ⟨by decide, by decide, fun q0 q00 q01 => ?_⟩
          walk_at "ob"
          refine ⟨fun hb => ?_, fun hb => ?_⟩
          · walk_at "ob"
            exact ⟨by omega, by omega, fun r5 r50 r51 => ⟨rfl, r5, rfl, r50, by omega⟩⟩
          · walk_at "ob"
            refine ⟨by split <;> omega, by split <;> omega, fun r5 r50 r51 => ⟨rfl, r5, rfl, r50, ?_⟩⟩
            split at r51 <;> omega
        · rintro v _ G' ⟨rfl, dr, rfl, d0, d1⟩
          walk_at "ob"
          refine ⟨by omega, by omega, fun r6 r60 r61 => ?_⟩
          walk_at "ob"
          refine ⟨by walk_at "ob_len", fun p3 hp3 => ?_⟩
          walk_at "ob"
          refine ⟨by decide, by decide, fun r7 r70 r71 => ?_⟩
          obtain ⟨bk, ebk, b0, b1⟩ : ∃ bk : Int, atI [V.int 0, V.int dr, V.int r6] r7 = some (V.int bk) ∧ 0 ≤ bk ∧ bk ≤ dr := by
            have : r7 = 0 ∨ r7 = 1 ∨ r7 = 2 := by omega
            rcases this with rfl | rfl | rfl
            · exact ⟨0, rfl, by omega, by omega⟩
            · exact ⟨dr, rfl, by omega, by omega⟩
            · exact ⟨r6, rfl, by omega, by omega⟩
          refine rw_ixL hd (SqL.of upd_same) ebk ?_
          walk_at "ob"
          refine ew_bmL hd ?_
          walk_at "ob"
          refine ⟨sl, ws, rfl, SqL.of (by walk_at "ob_at"), ?_⟩
          walk_at "ob"
          refine ⟨by walk_at "ob_len", fun p4 hp4 => ?_⟩
          walk_at "ob"
          refine ⟨by decide, by decide, fun r8 r80 r81 => ?_⟩
          walk_at "ob"
          obtain ⟨lo, elo, l0, l1⟩ : ∃ lo : Int, atI [V.int 3, V.int 9] (r8 / 3) = some (V.int lo) ∧ 0 < lo ∧ lo ≤ 9 := by
            have : r8 / 3 = 0 ∨ r8 / 3 = 1 := by omega
            rcases this with e | e
            · exact ⟨3, by rw [e]; rfl, by omega, by omega⟩
            · exact ⟨9, by rw [e]; rfl, by omega, by omega⟩
          refine rw_ixL hd (SqL.of upd_same) elo ?_
          refine ⟨lo, rfl, l0, by omega, fun r9 r90 r91 => ?_⟩
          walk_at "ob"
          refine ⟨by walk_at "ob_len", fun t ht => ?_⟩
          walk_at "ob"
          refine mw_append hd (xs := ws) (by walk_at "ob_at") (by have := dps_len dw; simp at this; omega) ?_
          have n1 : ml ≠ t := by walk_at "ob_ne"
          have n2 : sl ≠ t := by walk_at "ob_ne"
          have hp5 : G1 t = none := Ex.free (Ex.new (Ex.new g4 hp3) hp4) ht
          refine ⟨_, _, _, upd G1 t (.tup [.int dr, .int (1 + r9), .int bk]), ws ++ [.ref t], ss ++ [⟨dr, 1 + r9, bk⟩], rfl, Ex.new g3 hp5, ?_, ?_, ?_, by walk_at "ob_at", upd_same, ?_, by simp [hss], ?_⟩
          · refine Ex.out (Ex.upd (by walk_at "ob_ex")) ?_
            refine Eq.trans (upd_ne ?_) e4
            walk_at "ob_ne"
          · refine Eq.trans (upd_ne ?_) e1
            walk_at "ob_ne"
          · refine Eq.trans (upd_ne ?_) e4
            walk_at "ob_ne"
          · rw [List.map_append]
            refine dps_snoc (dps_ex (Ex.new (Ex.refl _) hp5) dw) (.tup (SqT.of upd_same) (.cons (.int _) (.cons (.int _) (.cons (.int _) .nil))))
          · intro s hs
            rcases List.mem_append.mp hs with hs | hs
            · exact oks s hs
            · simp at hs
              subst hs
              exact ⟨d0, d1, by show 1 ≤ 1 + r9; omega, by show 1 + r9 ≤ 9; omega, b0, b1⟩
      · rintro σ _ G ⟨x7, x8, x9, G1, ws, ss, rfl, g3, g4, e1, e4, e2, e5, dw, hss, oks⟩
        walk_at "ob"
        refine ew_bmL hd ?_
        walk_at "ob"
        refine ⟨ml, vs, rfl, SqL.of e2, ?_⟩
        walk_at "ob"
        refine cw_tuple hd (ys := ws) (SqL.of e5) fun t ht => ?_
        walk_at "ob"
        refine mw_append hd (xs := vs) (by walk_at "ob_at") (by have := dps_len dv; simp at this; omega) ?_
        have n1 : ml ≠ t := by walk_at "ob_ne"
        have hp5 : G1 t = none := g4.free ht
        refine ⟨_, _, _, _, _, upd G1 t (.tup ws), vs ++ [.ref t], mss ++ [ss], rfl, g1.trans (Ex.new g3 hp5), ?_, ?_, upd_same, ?_, ?_, by simp [hl], ?_, ?_⟩
        · refine Ex.out (Ex.upd g4) ?_
          refine Eq.trans (upd_ne ?_) e1
          walk_at "ob_ne"
        · refine Eq.trans (upd_ne ?_) e1
          walk_at "ob_ne"
        · exact Ex.new g3 hp5 _ _ e3
        · rw [List.map_append]
          refine dps_snoc (dps_ex (Ex.new g3 hp5) dv) (.tup (SqT.of upd_same) (dps_ex (Ex.new (Ex.refl _) hp5) dw))
        · intro s hs
          rcases List.mem_append.mp hs with hs | hs
          · exact ok1 s hs
          · simp at hs
            subst hs
            omega
        · intro s hs
          rcases List.mem_append.mp hs with hs | hs
          · exact ok2 s hs
          · simp at hs
            subst hs
            exact oks
    · rintro σ _ G ⟨x5, x6, x7, x8, x9, G0, vs, mss, rfl, g1, g2, e1, e2, e3, dv, hl, ok1, ok2⟩
      walk_at "ob"
      refine cw_tuple hd (ys := vs) (SqL.of e2) fun t ht => ?_
      walk_at "ob"
      refine ⟨by walk_at "ob_len", fun a ha => ?_⟩
      have gA : Ex G0 (upd (upd G t (.tup vs)) a (.tup [.ref st, .ref t])) := by walk_at "ob_ex"
      refine k _ _ ⟨1 + r1, r4, rf, mss⟩ (g1.trans gA) ?_ ⟨?_, ?_, r40, ?_, rf0, rf1, ?_, ?_, ok2⟩ ?_ ?_ ok1
      · refine .tup (SqT.of upd_same) (.cons (.tup (SqT.of (gA _ _ e3)) (.cons (.int _) (.cons (.int _) (.cons (.int _) .nil)))) (.cons (.tup (SqT.of (xs := vs) ?_) (dps_ex gA dv)) .nil))
        walk_at "ob_at"
      · show 1 ≤ 1 + r1; omega
      · show 1 + r1 ≤ 99; omega
      · show r4 ≤ 1 + r1; omega
      · show mss.length ≤ 5; omega
      · intro ss hs
        have := ok1 ss hs
        omega
      · show 1 + r1 ≤ cap; omega
      · show ((mss.length : Nat) : Int) ≤ most; omega
end
end Obr
namespace Obr
open PySem L2 PyProof.Rows
local macro_rules | `(tactic| walk_at "ob_at") => `(tactic| first
  | assumption
  | exact upd_same
  | (refine Eq.trans (upd_ne ?obn) ?obr; (case obn => walk_at "ob_ne"); (case obr => walk_at "ob_at")))
local macro_rules | `(tactic| walk_at "ob_ne") => `(tactic| first
  | assumption
  | (refine Ne.symm ?obs; (case obs => assumption))
  | (refine' ne_of_none (H := ?_) ?obe ?obh; (case obh => assumption); (case obe => walk_at "ob_at"))
  | (refine Ne.symm ?obs; (case obs => (refine' ne_of_none (H := ?_) ?obe ?obh; (case obh => assumption); (case obe => walk_at "ob_at")))))
local macro_rules | `(tactic| walk_at "ob_fr") => `(tactic| first
  | assumption
  | (refine Eq.trans (upd_ne ?obn) ?obr; (case obn => walk_at "ob_ne"); (case obr => walk_at "ob_fr"))
  | (refine Ex.free (G := ?_) (by assumption) ?obh; (case obh => walk_at "ob_fr")))
local macro_rules | `(tactic| walk_at "ob_ex") => `(tactic| first
  | assumption
  | exact Ex.refl _
  | (refine Ex.out ?obg ?obh; (case obh => assumption); (case obg => walk_at "ob_ex"))
  | (refine Ex.new ?obg ?obh; (case obh => assumption); (case obg => walk_at "ob_ex"))
  | (refine Ex.new ?obg ?obh; (case obh => walk_at "ob_fr"); (case obg => walk_at "ob_ex")))
local macro_rules | `(tactic| walk_at "ob_sq") => `(tactic| first
  | assumption
  | (refine SqL.of ?oba; (case oba => walk_at "ob_at"))
  | (refine Ex.sqT (F := ?_) ?obg ?obh; (case obh => assumption); (case obg => walk_at "ob_ex"))
  | (refine Ex.sqL (F := ?_) ?obg ?obh; (case obh => assumption); (case obg => walk_at "ob_ex"))
  | (refine SqT.of ?oba; (case oba => walk_at "ob_at")))
local macro_rules | `(tactic| walk_at "ob_side") => `(tactic| first | exact rfl | assumption | decide | omega | exact ⟨by decide, by decide, by decide⟩ | exact Or.inr ⟨by decide, by decide⟩ | exact Or.inl ⟨by decide, by decide⟩ | exact wide_div (b := 60) (by first | decide | omega) (by first | decide | omega) (by decide) (by decide))
local macro_rules | `(tactic| walk_at "ob1") => `(tactic| first
  | with_reducible refine sw_seq ?_
  | with_reducible refine sw_asg ?_
  | with_reducible refine sw_ret ?_
  | with_reducible refine sw_par ?_
  | with_reducible refine ⟨_, _, rfl, ?_⟩
  | with_reducible refine sw_drop ?_
  | with_reducible refine sw_if ?_
  | with_reducible refine sw_next ?_
  | with_reducible refine gw_name ?_
  | with_reducible refine ew_c ?_
  | ((with_reducible refine' ew_var (v := ?_) ?obv ?_); (case obv => exact rfl))
  | ((with_reducible refine ew_next (by assumption) ?obv ?_); (case obv => exact rfl))
  | ((with_reducible refine ew_world (by assumption) ?obv ?_); (case obv => exact rfl))
  | ((with_reducible refine ew_rule (by assumption) ?obv ?_); (case obv => exact rfl))
  | with_reducible refine ew_op ?_
  | with_reducible refine ew_un ?_
  | with_reducible refine ew_cb ?_
  | with_reducible refine ew_if ?_
  | with_reducible refine ew_slL (by assumption) ?_
  | with_reducible refine ow_some ?_
  | with_reducible refine ow_none ?_
  | with_reducible refine aw_nil ?_
  | with_reducible refine aw_cons ?_
  | with_reducible refine rw_I0 ?_
  | ((with_reducible refine rw_I ?obc ?_); (case obc => walk_at "ob_side"))
  | ((with_reducible refine rw_eq ?obc ?_); (case obc => exact rfl))
  | ((with_reducible refine rw_ne ?obc ?_); (case obc => exact rfl))
  | with_reducible refine cw_max2 ?_
  | with_reducible refine cw_min2 ?_
  | with_reducible refine tw_test ?_
  | with_reducible refine tw_B ?_
  | with_reducible refine tw_not ?_
  | (refine' Exists.intro _ (And.intro (show V.bl _ = V.bl _ from rfl) ?_))
  | (refine' Exists.intro _ (And.intro (show V.int _ = V.int _ from rfl) ?_))
  | ((with_reducible refine' rw_ixL (v := ?_) (xs := ?_) (by assumption) ?obl ?oba ?_); (case obl => walk_at "ob_sq"); (case oba => first | exact rfl | exact at_zero))
  | ((with_reducible refine' rw_ixT (v := ?_) (xs := ?_) (by assumption) ?obl ?oba ?_); (case obl => walk_at "ob_sq"); (case oba => first | exact rfl | exact at_zero))
  | ((with_reducible refine' ew_lst (by assumption) ?_))
  | ((with_reducible refine' ew_tup (by assumption) ?_)))
local macro_rules | `(tactic| walk_at "ob_len") => `(tactic| first | exact Nat.le_of_ble_eq_true rfl | (simp; done) | omega)
local macro_rules | `(tactic| walk_at "ob") => `(tactic| repeat walk_at "ob1")

/-! ### _law_turn: the claims by their keys -/
structure Clm where
  k : Int
  draw : Int
  since : Int
  deriving DecidableEq
def clmD (c : Clm) : PyData := .tuple [.int c.k, .int c.draw, .int c.since]
def ckey (r : Rgt) (last : Int) (c : Clm) : Int := match r with
  | .rank => 0
  | .turns => b2i (decide (c.k ≤ last))
  | .wait => c.since
  | .least => c.draw
def cLt (r : Rgt) (last : Int) (a b : Clm) : Prop := ckey r last a < ckey r last b ∨ (ckey r last a = ckey r last b ∧ a.k < b.k)
instance (r : Rgt) (last : Int) (a b : Clm) : Decidable (cLt r last a b) := by unfold cLt; infer_instance
theorem cLt_trans {r last a b c} (h : cLt r last a b) (h2 : cLt r last b c) : cLt r last a c := by unfold cLt at *; omega
theorem cLt_or {r last a b} (h : a.k ≠ b.k) : cLt r last a b ∨ cLt r last b a := by unfold cLt at *; omega
theorem clmD_eqv (a b : Clm) : PyData.eqv (clmD a) (clmD b) = decide (a = b) := by
  have e : PyData.eqv (clmD a) (clmD b) = ((a.k == b.k) && ((a.draw == b.draw) && ((a.since == b.since) && true))) := by simp only [clmD, PyData.eqv, PyData.eqvAll]
  rw [e]
  obtain ⟨a1, a2, a3⟩ := a
  obtain ⟨b1, b2, b3⟩ := b
  by_cases h : (⟨a1, a2, a3⟩ : Clm) = ⟨b1, b2, b3⟩
  · cases h; simp
  · rw [decide_eq_false h]
    simp only [Clm.mk.injEq, not_and] at h
    by_cases h1 : a1 = b1
    · by_cases h2 : a2 = b2
      · simp [h1, h2, h h1 h2]
      · simp [h1, h2]
    · simp [h1]
theorem clmD_low (c : Clm) : lowD 1 (clmD c) = true := by simp [clmD, lowD]
theorem clmsD_low (cs : List Clm) : lowD 2 (.list (cs.map clmD)) = true := by
  simp only [lowD, List.all_map, List.all_eq_true]
  intro c _
  exact clmD_low c
/-- _law_turn(right, claims, last): the claims in their turn -/
def aTurn (K : PySem.W.Frag) : List V → Hp → VK → Prop := fun vs F R => ∃ (F0 : Hp) (r : Rgt) (last : Int) (ca : Addr) (cvs : List V) (cs : List Clm), vs = [.str (rgtS r), .ref ca, .int last] ∧ Ex F0 F ∧ SqL K F ca cvs ∧ DpAll K F0 cvs (cs.map clmD) ∧ cs.length ≤ 60 ∧ (cs.map Clm.k).Nodup ∧
  ∀ (p : Addr) (F' : Hp) (ts : List Clm) (vs2 : List V), Ex F F' → F p = none → F' p = some (.lst vs2) → DpAll K F0 vs2 (ts.map clmD) → ts.Perm cs → ts.Pairwise (cLt r last) → R (.ref p) F'
abbrev sTurn : Stmt := top 53
def N_turn : List Str := ["_law_right", "_law_claims", "_law_last", "_law_found", "_law_left", "_law_best", "_law_one", "_law_sooner"]
theorem sc_turn : FnScope N_turn ["_law_right", "_law_claims", "_law_last"] (defScope sTurn) := ⟨rfl, rfl, rfl, by decide +kernel, rfl, by decide +kernel, by decide +kernel⟩
section
variable {P : Program} {w : World} {K : PySem.W.Frag} {mg : Str → Option Value} {base : Heap}
theorem ok_turn {f : Addr} {fd : FuncData} (Fn : Fun K "_law_turn" "_law_turn" sTurn f fd) (B : Blt mg) :
    FnOk P w K mg base CX0 1 f fd ["_law_right", "_law_claims", "_law_last"] (LS (aTurn K)) := by
  refine Fn.ok sc_turn (fun vs H Q E h => ?_) (fun cdv A outer s H vs Q E hr h => ?_)
  · obtain ⟨J, F, R, hd, j, ⟨F0, r, last, ca, cvs, cs, rfl, _⟩, _⟩ := h
    rfl
  · have nd := sc_turn.nd
    obtain ⟨J, F, R, hd, j, ⟨F0, r, last, ca, cvs, cs, rfl, hF0, hcl, hca, hl, hnd, k⟩, q⟩ := h
    refine ⟨_, (pss_cons (ps_par (i := 3) (j := 4) rfl nd rfl rfl (by decide) rfl rfl (pa_cons (pe_lst pa_nil) (pa_cons (pe_callTy call_list_of (by rfl) B.list (by decide +kernel) (pa_cons (pv 1) pa_nil)) pa_nil)) (by rfl))
      (pss_cons (ps_while PassesOwn.never (pt_cmpR (op_neD hr.units) (pv 4) (pe_lst pa_nil) (nomark _)) (pss_cons (ps_set (i := 5) nd rfl (Or.inl rfl) (pe_ix ix_list (pv 4) pe_int (fun _ _ => rfl)))
      (pss_cons (ps_for PassesOwn.never rfl (pi_list (pe_slice sl_list (pv 4) (po_some pe_int) po_none)) (pg_name (i := 6) nd rfl (Or.inl rfl)) (pss_cons (ps_if (pt_cmpR op_eq (pv 0) pe_str (nomark _)) (pss_one (ps_set (i := 7) nd rfl (Or.inl rfl) (pe_cmpR (op_ltM hr.units0) (pe_tup (pa_cons (pe_cmpR op_le (pe_ix ix_tup (pv 6) pe_int (fun _ _ => rfl)) (pv 2) (nomark _)) (pa_cons (pe_ix ix_tup (pv 6) pe_int (fun _ _ => rfl)) pa_nil))) (pe_tup (pa_cons (pe_cmpR op_le (pe_ix ix_tup (pv 5) pe_int (fun _ _ => rfl)) (pv 2) (nomark _)) (pa_cons (pe_ix ix_tup (pv 5) pe_int (fun _ _ => rfl)) pa_nil))) (nomark _)))) (pss_one (ps_if (pt_cmpR op_eq (pv 0) pe_str (nomark _)) (pss_one (ps_set (i := 7) nd rfl (Or.inl rfl) (pe_cmpR (op_ltM hr.units0) (pe_tup (pa_cons (pe_ix ix_tup (pv 6) pe_int (fun _ _ => rfl)) (pa_cons (pe_ix ix_tup (pv 6) pe_int (fun _ _ => rfl)) pa_nil))) (pe_tup (pa_cons (pe_ix ix_tup (pv 5) pe_int (fun _ _ => rfl)) (pa_cons (pe_ix ix_tup (pv 5) pe_int (fun _ _ => rfl)) pa_nil))) (nomark _)))) (pss_one (ps_if (pt_cmpR op_eq (pv 0) pe_str (nomark _)) (pss_one (ps_set (i := 7) nd rfl (Or.inl rfl) (pe_cmpR (op_ltM hr.units0) (pe_tup (pa_cons (pe_ix ix_tup (pv 6) pe_int (fun _ _ => rfl)) (pa_cons (pe_ix ix_tup (pv 6) pe_int (fun _ _ => rfl)) pa_nil))) (pe_tup (pa_cons (pe_ix ix_tup (pv 5) pe_int (fun _ _ => rfl)) (pa_cons (pe_ix ix_tup (pv 5) pe_int (fun _ _ => rfl)) pa_nil))) (nomark _)))) (pss_one (ps_set (i := 7) nd rfl (Or.inl rfl) (pe_cmpR op_lt (pe_ix ix_tup (pv 6) pe_int (fun _ _ => rfl)) (pe_ix ix_tup (pv 5) pe_int (fun _ _ => rfl)) (nomark _)))))))))
      (pss_one (ps_set (i := 5) nd rfl (Or.inl rfl) (pe_ifExp (pt_val (pv 7)) (pv 6) (pv 5))))))
      (pss_cons (ps_expr (pe_bm PySem.F.plainAttrs_list PySem.F.slot_list_remove PySem.F.type_list_remove (mt_removeD hr.u65) (pv 4) (pa_cons (pv 5) pa_nil)))
      (pss_one (ps_expr (pe_bm PySem.F.plainAttrs_list PySem.F.slot_list_append PySem.F.type_list_append mt_append (pv 3) (pa_cons (pv 5) pa_nil))))))))
      (pss_one (ps_ret (pv 3))))), ?_⟩
    refine LS.body j q ?_
    walk_at "ob"
    refine ⟨by walk_at "ob_len", fun fo hfo => ?_⟩
    walk_at "ob"
    refine cw_list hd (ys := cvs) (Or.inl ((Ex.new (Ex.refl _) hfo).sqL hcl)) fun le hle => ?_
    walk_at "ob"
    have hfl : fo ≠ le := ne_of_none upd_same hle
    refine sw_while (fun m σ _ G => ∃ (x5 x6 x7 : Option V) (G0 : Hp) (vs ws : List V) (dn lf : List Clm), σ = [some (.str (rgtS r)), some (.ref ca), some (.int last), some (.ref fo), some (.ref le), x5, x6, x7] ∧
      Ex F G0 ∧ Ex G0 G ∧ G0 fo = none ∧ G0 le = none ∧ G fo = some (.lst vs) ∧ G le = some (.lst ws) ∧ DpAll K F0 vs (dn.map clmD) ∧ DpAll K F0 ws (lf.map clmD) ∧ (dn ++ lf).Perm cs ∧ dn.Pairwise (cLt r last) ∧
      (∀ a ∈ dn, ∀ b ∈ lf, cLt r last a b) ∧ m = lf.length) cs.length ?_ ?_
    · refine ⟨none, none, none, F, [], cvs, [], cs, rfl, Ex.refl _, by walk_at "ob_ex", hfo, (Ex.new (Ex.refl _) hfo).free hle, by walk_at "ob_at", upd_same, .nil, hca, .refl _, .nil, ?_, rfl⟩
      intro a ha; cases ha
    · rintro m σ _ G ⟨x5, x6, x7, G0, vs, ws, dn, lf, rfl, g1, g2, e1, e2, e3, e4, dv, dw, hpm, ho, hb, rfl⟩
      walk_at "ob"
      refine ⟨by walk_at "ob_len", fun t ht => ?_⟩
      have gx : Ex G0 (upd G t (.lst [])) := by walk_at "ob_ex"
      refine rw_neD hd (d := .list (lf.map clmD)) (e := .list []) (.lst (SqL.of (by walk_at "ob_at")) (dps_ex (hF0.trans (g1.trans gx)) dw)) (.lst (SqL.of upd_same) .nil) (shaped_low (clmsD_low lf)) (shaped_low (n := 1) rfl) ?_
      walk_at "ob"
      refine ⟨fun hne => ?_, fun hne => ?_⟩
      · cases lf with
        | nil => simp [PyData.eqv, PyData.eqvAll] at hne
        | cons c0 lr =>
        cases dw with
        | cons dw0 dwr =>
        rename_i w0 wr
        walk_at "ob"
        refine sw_forL hd ?_
        walk_at "ob"
        refine ⟨le, w0 :: wr, rfl, SqL.of (by walk_at "ob_at"), fun p hp => ?_⟩
        rw [cutV_one]
        have hdw : DpAll K F0 wr (lr.map clmD) := dwr
        have hwl : wr.length = lr.length := by have := dps_len dwr; simpa using this
        have gL : Ex (upd (upd G t (.lst [])) p (.lst wr)) (upd (upd G t (.lst [])) p (.lst wr)) := Ex.refl _
        refine ⟨p, wr, fun i σ _ G' => ∃ (vb : V) (b : Clm) (x6 x7 : Option V), σ = [some (.str (rgtS r)), some (.ref ca), some (.int last), some (.ref fo), some (.ref le), some vb, x6, x7] ∧ Ex (upd (upd G t (.lst [])) p (.lst wr)) G' ∧ Dp K F0 vb (clmD b) ∧
          b ∈ c0 :: lr ∧ ∀ c ∈ (c0 :: lr).take (i + 1), c = b ∨ cLt r last b c, rfl, SqL.of upd_same, ⟨w0, c0, x6, x7, rfl, Ex.refl _, dw0, List.mem_cons_self, ?_⟩, ?_, ?_, ?_⟩
        · intro c hc
          simp at hc
          exact .inl hc
        · rintro i σ _ G' hi ⟨vb, b, x6, x7, rfl, g3, _⟩
          exact SqL.of (g3 _ _ upd_same)
        · rintro i x σ _ G' hi ⟨vb, b, x6, x7, rfl, g3, db, hbm, hmin⟩
          obtain ⟨dd, hdd, dx⟩ := dps_get' hdw hi
          rw [List.getElem?_map] at hdd
          obtain ⟨one, hone, rfl⟩ : ∃ one, lr[i]? = some one ∧ clmD one = dd := by
            cases e : lr[i]? with
            | none => rw [e] at hdd; cases hdd
            | some u => rw [e] at hdd; exact ⟨u, rfl, Option.some.inj hdd⟩
          obtain ⟨a1, xs1, rfl, q1, d1⟩ := dp_tup dx
          obtain ⟨_, _, _, rfl, f1, f2, f3⟩ := dps3 d1
          cases dp_int f1; cases dp_int f2; cases dp_int f3
          obtain ⟨a2, xs2, rfl, q2, d2⟩ := dp_tup db
          obtain ⟨_, _, _, rfl, f4, f5, f6⟩ := dps3 d2
          cases dp_int f4; cases dp_int f5; cases dp_int f6
          have gG : Ex F0 G' := hF0.trans (g1.trans (Ex.trans (Ex.trans g2 (Ex.new (Ex.new (Ex.refl _) ht) hp)) g3))
          have gF : Ex (upd (upd G t (.lst [])) p (.lst wr)) G' := g3
          refine gw_name ?_
          refine sw_seq ?_
          refine sw_mid (fun σ _ G2 => σ = [some (.str (rgtS r)), some (.ref ca), some (.int last), some (.ref fo), some (.ref le), some (.ref a2), some (.ref a1), some (.bl (decide (cLt r last one b)))] ∧ Ex G' G2) ?_ ?_
          · cases r with
            | rank =>
              walk_at "ob"
              refine ⟨fun hb => absurd hb (by decide +kernel), fun _ => ?_⟩
              walk_at "ob"
              refine ⟨fun hb => absurd hb (by decide +kernel), fun _ => ?_⟩
              walk_at "ob"
              refine ⟨fun hb => absurd hb (by decide +kernel), fun _ => ?_⟩
              walk_at "ob"
              have e : decide (cLt .rank last one b) = decide (one.k < b.k) := decide_eq_decide.mpr (by simp [cLt, ckey])
              exact ⟨by rw [e]; rfl, Ex.refl _⟩
            | turns =>
              walk_at "ob"
              refine ⟨fun _ => ?_, fun hb => absurd hb (by decide +kernel)⟩
              walk_at "ob"
              refine ⟨by walk_at "ob_len", fun u1 hu1 => ?_⟩
              walk_at "ob"
              refine ⟨by walk_at "ob_len", fun u2 hu2 => ?_⟩
              refine rw_lt2 hd (SqT.of (by walk_at "ob_at")) (SqT.of upd_same) rfl rfl (.inr ⟨_, _, rfl, rfl⟩) ?_
              walk_at "ob"
              exact ⟨rfl, by walk_at "ob_ex"⟩
            | wait =>
              walk_at "ob"
              refine ⟨fun hb => absurd hb (by decide +kernel), fun _ => ?_⟩
              walk_at "ob"
              refine ⟨fun _ => ?_, fun hb => absurd hb (by decide +kernel)⟩
              walk_at "ob"
              refine ⟨by walk_at "ob_len", fun u1 hu1 => ?_⟩
              walk_at "ob"
              refine ⟨by walk_at "ob_len", fun u2 hu2 => ?_⟩
              refine rw_lt2 hd (SqT.of (by walk_at "ob_at")) (SqT.of upd_same) rfl rfl (.inl ⟨_, _, rfl, rfl⟩) ?_
              walk_at "ob"
              exact ⟨rfl, by walk_at "ob_ex"⟩
            | least =>
              walk_at "ob"
              refine ⟨fun hb => absurd hb (by decide +kernel), fun _ => ?_⟩
              walk_at "ob"
              refine ⟨fun hb => absurd hb (by decide +kernel), fun _ => ?_⟩
              walk_at "ob"
              refine ⟨fun _ => ?_, fun hb => absurd hb (by decide +kernel)⟩
              walk_at "ob"
              refine ⟨by walk_at "ob_len", fun u1 hu1 => ?_⟩
              walk_at "ob"
              refine ⟨by walk_at "ob_len", fun u2 hu2 => ?_⟩
              refine rw_lt2 hd (SqT.of (by walk_at "ob_at")) (SqT.of upd_same) rfl rfl (.inl ⟨_, _, rfl, rfl⟩) ?_
              walk_at "ob"
              exact ⟨rfl, by walk_at "ob_ex"⟩
          · rintro σ _ G2 ⟨rfl, g4⟩
            have hom : one ∈ c0 :: lr := List.mem_cons_of_mem _ (List.mem_of_getElem? hone)
            have htk : ∀ c ∈ (c0 :: lr).take (i + 1 + 1), c ∈ (c0 :: lr).take (i + 1) ∨ c = one := fun c hc => by
              have hil : i < lr.length := (List.getElem?_eq_some_iff.mp hone).1
              have e : (c0 :: lr).take (i + 1 + 1) = (c0 :: lr).take (i + 1) ++ [one] := by
                rw [List.take_succ, List.getElem?_cons_succ, hone]
                rfl
              rw [e] at hc
              rcases List.mem_append.mp hc with hc | hc
              · exact .inl hc
              · exact .inr (by simpa using hc)
            walk_at "ob"
            refine ⟨fun hb => ?_, fun hb => ?_⟩
            · have hb := of_decide_eq_true hb
              walk_at "ob"
              refine ⟨_, one, _, _, rfl, g3.trans g4, .tup q1 (.cons (.int _) (.cons (.int _) (.cons (.int _) .nil))), hom, fun c hc => ?_⟩
              rcases htk c hc with hc | hc
              · rcases hmin c hc with rfl | hc
                · exact .inr hb
                · exact .inr (cLt_trans hb hc)
              · exact .inl hc
            · have hb := of_decide_eq_false hb
              walk_at "ob"
              refine ⟨_, b, _, _, rfl, g3.trans g4, .tup q2 (.cons (.int _) (.cons (.int _) (.cons (.int _) .nil))), hbm, fun c hc => ?_⟩
              rcases htk c hc with hc | rfl
              · exact hmin c hc
              · by_cases e : c = b
                · exact .inl e
                · right
                  have hnl : ((c0 :: lr).map Clm.k).Nodup := by
                    have := (hpm.map Clm.k).nodup_iff.mpr hnd
                    rw [List.map_append] at this
                    exact (List.nodup_append.mp this).2.1
                  have hk : c.k ≠ b.k := fun ek => by
                    have := nodup_map_inj hnl hom hbm ek
                    exact e this
                  exact (cLt_or hk).resolve_left hb
        · rintro σ _ G' ⟨vb, b, x6, x7, rfl, g3, db, hbm, hmin⟩
          have hmin : ∀ c ∈ c0 :: lr, c = b ∨ cLt r last b c := fun c hc => hmin c (by rw [List.take_of_length_le (by simp; omega)]; exact hc)
          have gG0 : Ex G0 G' := Ex.trans (Ex.trans g2 (Ex.new (Ex.new (Ex.refl _) ht) hp)) g3
          have gG : Ex F0 G' := hF0.trans (g1.trans gG0)
          have he3 : G' fo = some (.lst vs) := g3 _ _ (by walk_at "ob_at")
          have he4 : G' le = some (.lst (w0 :: wr)) := g3 _ _ (by walk_at "ob_at")
          obtain ⟨jj, hj1, hj2⟩ := first_ix hbm
          walk_at "ob"
          refine ew_bmL hd ?_
          walk_at "ob"
          refine ⟨le, w0 :: wr, rfl, SqL.of he4, ?_⟩
          walk_at "ob"
          refine mw_remD hd (d := clmD b) (ds := (c0 :: lr).map clmD) (j0 := jj) (z := clmD b) he4 (dps_ex gG (.cons dw0 dwr)) (dp_ex gG db) (shaped_low (clmsD_low _)) (shaped_low (clmD_low b)) (by rw [List.getElem?_map, hj1]; rfl) (by rw [clmD_eqv]; simp) ?_ ?_
          · intro m z' hm hz
            rw [List.getElem?_map] at hz
            cases e : (c0 :: lr)[m]? with
            | none => rw [e] at hz; cases hz
            | some u =>
              rw [e] at hz
              cases hz
              rw [clmD_eqv]
              exact decide_eq_false (hj2 m u hm e)
          · walk_at "ob"
            refine ew_bmL hd ?_
            walk_at "ob"
            refine ⟨fo, vs, rfl, SqL.of (by walk_at "ob_at"), ?_⟩
            walk_at "ob"
            refine mw_append hd (xs := vs) (by walk_at "ob_at") ?_ ?_
            · have := dps_len dv
              have h2 := hpm.length_eq
              simp at this h2
              omega
            · have hpe : (c0 :: lr).Perm (b :: (c0 :: lr).eraseIdx jj) := perm_eraseIdx hj1
              have hnl : ((b :: (c0 :: lr).eraseIdx jj).map Clm.k).Nodup := by
                have h1 := (hpm.map Clm.k).nodup_iff.mpr hnd
                rw [List.map_append] at h1
                exact ((hpe.map Clm.k).nodup_iff).mp (List.nodup_append.mp h1).2.1
              have hlen : ((c0 :: lr).eraseIdx jj).length + 1 = (c0 :: lr).length := by have := hpe.length_eq; simpa using this.symm
              refine ⟨((c0 :: lr).eraseIdx jj).length, by omega, some vb, x6, x7, G0, vs ++ [vb], (w0 :: wr).eraseIdx jj, dn ++ [b], (c0 :: lr).eraseIdx jj, rfl, g1, ?_, e1, e2, upd_same, ?_, ?_, ?_, ?_, ?_, ?_, rfl⟩
              · exact Ex.out (Ex.out gG0 e2) e1
              · refine Eq.trans (upd_ne hfl.symm) upd_same
              · rw [List.map_append]
                exact dps_snoc dv db
              · have := dps_eraseIdx jj (DpAll.cons dw0 dwr)
                rw [← List.map_cons, ← map_eraseIdx'] at this
                exact this
              · rw [List.append_assoc]
                exact (List.Perm.append_left dn hpe.symm).trans hpm
              · refine List.pairwise_append.mpr ⟨ho, List.pairwise_singleton _ _, fun a ha c hc => ?_⟩
                simp at hc
                subst hc
                exact hb a ha _ hbm
              · intro a ha c hc
                have hcl : c ∈ c0 :: lr := List.mem_of_mem_eraseIdx hc
                rcases List.mem_append.mp ha with ha | ha
                · exact hb a ha c hcl
                · simp at ha
                  subst ha
                  rcases hmin c hcl with rfl | h
                  · exfalso
                    have h3 := (List.nodup_cons.mp hnl).1
                    exact h3 (List.mem_map_of_mem hc)
                  · exact h
      · cases lf with
        | cons c0 lr => simp [PyData.eqv, PyData.eqvAll] at hne
        | nil =>
          walk_at "ob"
          rw [List.append_nil] at hpm
          exact k fo _ dn vs (g1.trans (by walk_at "ob_ex")) hfo (by walk_at "ob_at") dv hpm ho
end
end Obr
namespace Obr
open PySem L2 PyProof.Rows
local macro_rules | `(tactic| walk_at "ob_at") => `(tactic| first
  | assumption
  | exact upd_same
  | (refine Eq.trans (upd_ne ?obn) ?obr; (case obn => walk_at "ob_ne"); (case obr => walk_at "ob_at")))
local macro_rules | `(tactic| walk_at "ob_ne") => `(tactic| first
  | assumption
  | (refine Ne.symm ?obs; (case obs => assumption))
  | (refine' ne_of_none (H := ?_) ?obe ?obh; (case obh => assumption); (case obe => walk_at "ob_at"))
  | (refine Ne.symm ?obs; (case obs => (refine' ne_of_none (H := ?_) ?obe ?obh; (case obh => assumption); (case obe => walk_at "ob_at")))))
local macro_rules | `(tactic| walk_at "ob_fr") => `(tactic| first
  | assumption
  | (refine Eq.trans (upd_ne ?obn) ?obr; (case obn => walk_at "ob_ne"); (case obr => walk_at "ob_fr"))
  | (refine Ex.free (G := ?_) (by assumption) ?obh; (case obh => walk_at "ob_fr")))
local macro_rules | `(tactic| walk_at "ob_ex") => `(tactic| first
  | assumption
  | exact Ex.refl _
  | (refine Ex.out ?obg ?obh; (case obh => assumption); (case obg => walk_at "ob_ex"))
  | (refine Ex.new ?obg ?obh; (case obh => assumption); (case obg => walk_at "ob_ex"))
  | (refine Ex.new ?obg ?obh; (case obh => walk_at "ob_fr"); (case obg => walk_at "ob_ex")))
local macro_rules | `(tactic| walk_at "ob_sq") => `(tactic| first
  | assumption
  | (refine SqL.of ?oba; (case oba => walk_at "ob_at"))
  | (refine Ex.sqT (F := ?_) ?obg ?obh; (case obh => assumption); (case obg => walk_at "ob_ex"))
  | (refine Ex.sqL (F := ?_) ?obg ?obh; (case obh => assumption); (case obg => walk_at "ob_ex"))
  | (refine SqT.of ?oba; (case oba => walk_at "ob_at")))
local macro_rules | `(tactic| walk_at "ob_side") => `(tactic| first | exact rfl | assumption | decide | omega | exact ⟨by decide, by decide, by decide⟩ | exact Or.inr ⟨by decide, by decide⟩ | exact Or.inl ⟨by decide, by decide⟩ | exact wide_div (b := 60) (by first | decide | omega) (by first | decide | omega) (by decide) (by decide))
local macro_rules | `(tactic| walk_at "ob1") => `(tactic| first
  | with_reducible refine sw_seq ?_
  | with_reducible refine sw_asg ?_
  | with_reducible refine sw_ret ?_
  | with_reducible refine sw_par ?_
  | with_reducible refine ⟨_, _, rfl, ?_⟩
  | with_reducible refine sw_drop ?_
  | with_reducible refine sw_if ?_
  | with_reducible refine sw_next ?_
  | with_reducible refine gw_name ?_
  | with_reducible refine ew_c ?_
  | ((with_reducible refine' ew_var (v := ?_) ?obv ?_); (case obv => exact rfl))
  | ((with_reducible refine ew_next (by assumption) ?obv ?_); (case obv => exact rfl))
  | ((with_reducible refine ew_world (by assumption) ?obv ?_); (case obv => exact rfl))
  | ((with_reducible refine ew_rule (by assumption) ?obv ?_); (case obv => exact rfl))
  | with_reducible refine ew_op ?_
  | with_reducible refine ew_un ?_
  | with_reducible refine ew_dget (by assumption) ?_
  | with_reducible refine uw_I ?_
  | with_reducible refine ppw_nil ?_
  | with_reducible refine ppw_cons ?_
  | with_reducible refine sw_dput (by assumption) ?_
  | with_reducible refine ew_cb ?_
  | with_reducible refine ew_if ?_
  | with_reducible refine ew_slL (by assumption) ?_
  | with_reducible refine ow_some ?_
  | with_reducible refine ow_none ?_
  | with_reducible refine aw_nil ?_
  | with_reducible refine aw_cons ?_
  | with_reducible refine rw_I0 ?_
  | ((with_reducible refine rw_I ?obc ?_); (case obc => walk_at "ob_side"))
  | ((with_reducible refine rw_eq ?obc ?_); (case obc => exact rfl))
  | ((with_reducible refine rw_ne ?obc ?_); (case obc => exact rfl))
  | with_reducible refine cw_max2 ?_
  | with_reducible refine cw_min2 ?_
  | with_reducible refine tw_test ?_
  | with_reducible refine tw_B ?_
  | with_reducible refine tw_not ?_
  | (refine' Exists.intro _ (And.intro (show V.bl _ = V.bl _ from rfl) ?_))
  | (refine' Exists.intro _ (And.intro (show V.int _ = V.int _ from rfl) ?_))
  | ((with_reducible refine' rw_ixL (v := ?_) (xs := ?_) (by assumption) ?obl ?oba ?_); (case obl => walk_at "ob_sq"); (case oba => first | exact rfl | exact at_zero))
  | ((with_reducible refine' rw_ixT (v := ?_) (xs := ?_) (by assumption) ?obl ?oba ?_); (case obl => walk_at "ob_sq"); (case oba => first | exact rfl | exact at_zero))
  | ((with_reducible refine' ew_lst (by assumption) ?_))
  | ((with_reducible refine' ew_tup (by assumption) ?_)))
local macro_rules | `(tactic| walk_at "ob_len") => `(tactic| first | exact Nat.le_of_ble_eq_true rfl | (simp; done) | omega)
local macro_rules | `(tactic| walk_at "ob") => `(tactic| repeat walk_at "ob1")
/-! ### the law's own machines: their state, and where it stands -/
structure Mac where
  at_ : Int
  over : Int
  since : Int
  done : Int
  waits : Int
  ends : Option Int
structure LSt where
  level : Int
  last : Int
  beat : Int
  ms : List Mac
structure WAd where
  w : Addr
  at_ : Addr
  over : Addr
  since : Addr
  done : Addr
  waits : Addr
  ends : Addr
  store : V
  machines : V
  rule : V
def oV : Option Int → V
  | none => .non
  | some i => .int i
def wkeys : List Key := [.inr "store", .inr "machines", .inr "rule", .inr "level", .inr "at", .inr "over", .inr "since", .inr "last", .inr "beat", .inr "done", .inr "waits", .inr "ends"]
theorem wkeys_nd : wkeys.Nodup := by decide +kernel
def wkvs (A : WAd) (t : LSt) : List (Key × V) := [(.inr "store", A.store), (.inr "machines", A.machines), (.inr "rule", A.rule), (.inr "level", .int t.level), (.inr "at", .ref A.at_), (.inr "over", .ref A.over), (.inr "since", .ref A.since),
  (.inr "last", .int t.last), (.inr "beat", .int t.beat), (.inr "done", .ref A.done), (.inr "waits", .ref A.waits), (.inr "ends", .ref A.ends)]
theorem wkvs_nd (A : WAd) (t : LSt) : ((wkvs A t).map (·.1)).Nodup := wkeys_nd
def wown (A : WAd) (t : LSt) : List (Addr × HO) := [(A.w, .dK (wkvs A t)), (A.at_, .lst (t.ms.map fun m => .int m.at_)), (A.over, .lst (t.ms.map fun m => .int m.over)), (A.since, .lst (t.ms.map fun m => .int m.since)),
  (A.done, .lst (t.ms.map fun m => .int m.done)), (A.waits, .lst (t.ms.map fun m => .int m.waits)), (A.ends, .lst (t.ms.map fun m => oV m.ends))]
def stoD (w : Wld) : PyData := .tuple [.int w.cap, .int w.start, .int w.refill]
structure WAt (K : PySem.W.Frag) (F0 F : Hp) (A : WAd) (t : LSt) (w : Wld) (r : Rgt) (p : Bool) (ex : List (Addr × HO)) : Prop where
  own : Own F0 F (wown A t ++ ex)
  st : Dp K F0 A.store (stoD w)
  mc : Dp K F0 A.machines (.tuple (w.ms.map macD))
  ru : Dp K F0 A.rule (rulD r p)
  len : t.ms.length = w.ms.length
/-- all as it is ahead of beat 0 -/
def lBegun (w : Wld) : LSt := ⟨w.start, -1, 0, w.ms.map fun ss => ⟨0, -1, 0, 0, 0, if ss.isEmpty then some 0 else none⟩⟩
/-- _law_begun(world, rule) -/
def aBegun (K : PySem.W.Frag) : List V → Hp → VK → Prop := fun vs F R => ∃ (x y : V) (w : Wld) (r : Rgt) (p : Bool), vs = [x, y] ∧ Dp K F x (wldD w) ∧ Dp K F y (rulD r p) ∧ w.ms.length ≤ 5 ∧ (∀ ss ∈ w.ms, ss.length ≤ 12) ∧
  ∀ (F0 F' : Hp) (A : WAd), Ex F F0 → WAt K F0 F' A (lBegun w) w r p [] → R (.ref A.w) F'
def bk1 (sa ma : Addr) (y : V) (z : Int) (c1 : Addr) : List (Key × V) := [(.inr "store", .ref sa), (.inr "machines", .ref ma), (.inr "rule", y), (.inr "level", .int z), (.inr "at", .ref c1)]
def bk2 (c2 c3 c4 c5 : Addr) : List (Key × V) := [(.inr "over", .ref c2), (.inr "since", .ref c3), (.inr "last", .int (-1)), (.inr "beat", .int 0), (.inr "done", .ref c4), (.inr "waits", .ref c5)]
theorem bk1_m {sa ma y z c1} : mergeK [] (bk1 sa ma y z c1) = bk1 sa ma y z c1 := mergeK_nd _ [] (show (wkeys.take 5).Nodup from by decide +kernel)
theorem bk2_m {c2 c3 c4 c5} : mergeK [] (bk2 c2 c3 c4 c5) = bk2 c2 c3 c4 c5 := mergeK_nd _ [] (show ((wkeys.drop 5).take 6).Nodup from by decide +kernel)
theorem bk12_m {sa ma y z c1 c2 c3 c4 c5} : mergeK (bk1 sa ma y z c1) (bk2 c2 c3 c4 c5) = bk1 sa ma y z c1 ++ bk2 c2 c3 c4 c5 := mergeK_nd _ _ (show (wkeys.take 11).Nodup from by decide +kernel)
theorem bk12_e {sa ma y z c1 c2 c3 c4 c5} {v : V} : putK (bk1 sa ma y z c1 ++ bk2 c2 c3 c4 c5) (.inr "ends") v = bk1 sa ma y z c1 ++ bk2 c2 c3 c4 c5 ++ [(.inr "ends", v)] := mergeK_nd [(.inr "ends", v)] (bk1 sa ma y z c1 ++ bk2 c2 c3 c4 c5) (show wkeys.Nodup from by decide +kernel)
theorem stpD_low (s : Stp) : lowD 1 (stpD s) = true := by simp [stpD, lowD]
theorem macD_low (ss : List Stp) : lowD 2 (macD ss) = true := by
  simp only [macD, lowD, List.all_map, List.all_eq_true]
  intro s _
  exact stpD_low s
abbrev sBegun : Stmt := top 54
def N_begun : List Str := ["_law_world_here", "_law_rule_here", "_law_many", "_law_w", "_law_steps"]
theorem sc_begun : FnScope N_begun ["_law_world_here", "_law_rule_here"] (defScope sBegun) := ⟨rfl, rfl, rfl, by decide +kernel, rfl, by decide +kernel, by decide +kernel⟩
section
variable {P : Program} {w : World} {K : PySem.W.Frag} {mg : Str → Option Value} {base : Heap}
theorem ok_begun {f : Addr} {fd : FuncData} (Fn : Fun K "_law_begun" "_law_begun" sBegun f fd) (B : Blt mg) :
    FnOk P w K mg base CX0 1 f fd ["_law_world_here", "_law_rule_here"] (LS (aBegun K)) := by
  refine Fn.ok sc_begun (fun vs H Q E h => ?_) (fun cdv A outer s H vs Q E hr h => ?_)
  · obtain ⟨J, F, R, hd, j, ⟨x, y, w, r, p, rfl, _⟩, _⟩ := h
    rfl
  · have nd := sc_begun.nd
    obtain ⟨J, F, R, hd, j, ⟨x, y, w, r, p, rfl, hx, hy, hm5, hss, k⟩, q⟩ := h
    refine ⟨_, (pss_cons (ps_set (i := 2) nd rfl (Or.inl rfl) (pe_callB call_len_seq (by rfl) B.len (by decide +kernel) (pa_cons (pe_ix ix_tup (pv 0) pe_int (fun _ _ => rfl)) pa_nil)))
      (pss_cons (ps_set (i := 3) nd rfl (Or.inl rfl) (pe_disp (pps_cons pe_str (pe_ix ix_tup (pv 0) pe_int (fun _ _ => rfl)) (pps_cons pe_str (pe_ix ix_tup (pv 0) pe_int (fun _ _ => rfl)) (pps_cons pe_str (pv 1) (pps_cons pe_str (pe_ix ix_tup (pe_ix ix_tup (pv 0) pe_int (fun _ _ => rfl)) pe_int (fun _ _ => rfl)) (pps_cons pe_str (pe_op op_rep (pe_lst (pa_cons pe_int pa_nil)) (pv 2)) pps_nil))))) (by rfl) (by rfl) (fun z => by cases z) (by decide)))
      (pss_cons (ps_expr (pe_bm PySem.F.plainAttrs_dict PySem.F.slot_dict_update PySem.F.type_dict_update mt_dupdate (pv 3) (pa_cons (pe_disp (pps_cons pe_str (pe_op op_rep (pe_lst (pa_cons (pe_un un_neg pe_int) pa_nil)) (pv 2)) (pps_cons pe_str (pe_op op_rep (pe_lst (pa_cons pe_int pa_nil)) (pv 2)) (pps_cons pe_str (pe_un un_neg pe_int) (pps_cons pe_str pe_int (pps_cons pe_str (pe_op op_rep (pe_lst (pa_cons pe_int pa_nil)) (pv 2)) (pps_cons pe_str (pe_op op_rep (pe_lst (pa_cons pe_int pa_nil)) (pv 2)) pps_nil)))))) (by rfl) (by rfl) (fun z => by cases z) (by decide)) pa_nil)))
      (pss_cons (ps_dput (hu_of hr) (pv 3) pe_str (pe_lc (own := [("_law_steps", 4)]) (te := (tIf (tTest (tOp (rEqD K) (tVar 4) (tTup tNil))) (tC (.int 0)) (tC .non))) (tt := tYes) (by rfl) nd (pi_tup (pe_ix ix_tup (pv 0) pe_int (fun _ _ => rfl))) (blkOk_by (own := [("_law_steps", 4)]) (N := N_begun) (sc := defScope sBegun) (by decide +kernel)) (fun _ _ _ _ _ => (pg_name (i := 4) nd rfl (Or.inl rfl))) (fun _ _ _ _ _ => pts_nil) (fun _ _ _ _ _ => (pe_ifExp (pt_cmpR (op_eqD (by exact hr.units)) (pv 4) (pe_tup pa_nil) (nomark _)) pe_int pe_non))) rfl)
      (pss_one (ps_ret (pv 3))))))), ?_⟩
    refine LS.body j q ?_
    obtain ⟨xa, xs, rfl, sx, dx⟩ := dp_tup hx
    obtain ⟨vst, vmc, rfl, dst, dmc⟩ := dps2 dx
    obtain ⟨sa, sv, rfl, ssa, dsa⟩ := dp_tup dst
    obtain ⟨_, _, _, rfl, d1, d2, d3⟩ := dps3 dsa
    cases dp_int d1; cases dp_int d2; cases dp_int d3
    obtain ⟨ma, mv, rfl, sma, dma⟩ := dp_tup dmc
    have hmv : mv.length = w.ms.length := by have := dps_len dma; simpa using this
    walk_at "ob"
    refine cw_lenS hd (ys := mv) (Or.inr sma) ?_
    rw [hmv]
    walk_at "ob"
    refine ew_disp hd (fun d hd0 => ?_)
    have o1 : Own F (upd F d (.dK [])) [(d, .dK [])] := own_nil.more hd0
    walk_at "ob"
    refine ⟨by walk_at "ob_len", fun z1 hz1 => ?_⟩
    walk_at "ob"
    refine rw_rep hd (xs := [V.int 0]) upd_same (by omega) (by simp; omega) fun c1 hc1 => ?_
    rw [rep_flat]
    have o2 := ((o1.new' (o := .lst [V.int 0]) hz1).more (o := .lst (List.replicate (w.ms.length : Int).toNat (V.int 0))) hc1)
    walk_at "ob"
    refine ⟨by walk_at "ob_at", bk1 sa ma y w.start c1, rfl, Nat.le_of_ble_eq_true rfl, ?_⟩
    rw [bk1_m]
    have o3 := o2.set (i := 1) (a := d) (o' := .dK (bk1 sa ma y w.start c1)) rfl
    generalize hG : upd (upd (upd (upd F d (HO.dK [])) z1 (HO.lst [V.int 0])) c1 (HO.lst (List.replicate (w.ms.length : Int).toNat (V.int 0)))) d _ = G1 at o3 ⊢
    clear o1 o2 hG
    have gx := o3.ex
    have ed : G1 d = some (.dK (bk1 sa ma y w.start c1)) := o3.get (i := 1) rfl
    walk_at "ob"
    refine ew_bmD hd ?_
    walk_at "ob"
    refine ⟨d, _, rfl, ed, ?_⟩
    walk_at "ob"
    refine ew_disp hd (fun d2 hd2 => ?_)
    have n2 : d ≠ d2 := ne_of_none ed hd2
    have p1 := o3.more (o := .dK []) hd2
    walk_at "ob"
    refine ⟨by walk_at "ob_len", fun z2 hz2 => ?_⟩
    walk_at "ob"
    refine rw_rep hd (xs := [V.int (-1)]) upd_same (by omega) (by simp; omega) fun c2 hc2 => ?_
    rw [rep_flat]
    have p2 := (p1.new' (o := .lst [V.int (-1)]) hz2).more (o := .lst (List.replicate (w.ms.length : Int).toNat (V.int (-1)))) hc2
    walk_at "ob"
    refine ⟨by walk_at "ob_len", fun z3 hz3 => ?_⟩
    walk_at "ob"
    refine rw_rep hd (xs := [V.int 0]) upd_same (by omega) (by simp; omega) fun c3 hc3 => ?_
    rw [rep_flat]
    have p3 := (p2.new' (o := .lst [V.int 0]) hz3).more (o := .lst (List.replicate (w.ms.length : Int).toNat (V.int 0))) hc3
    walk_at "ob"
    refine ⟨by walk_at "ob_len", fun z4 hz4 => ?_⟩
    walk_at "ob"
    refine rw_rep hd (xs := [V.int 0]) upd_same (by omega) (by simp; omega) fun c4 hc4 => ?_
    rw [rep_flat]
    have p4 := (p3.new' (o := .lst [V.int 0]) hz4).more (o := .lst (List.replicate (w.ms.length : Int).toNat (V.int 0))) hc4
    walk_at "ob"
    refine ⟨by walk_at "ob_len", fun z5 hz5 => ?_⟩
    walk_at "ob"
    refine rw_rep hd (xs := [V.int 0]) upd_same (by omega) (by simp; omega) fun c5 hc5 => ?_
    rw [rep_flat]
    have p5 := (p4.new' (o := .lst [V.int 0]) hz5).more (o := .lst (List.replicate (w.ms.length : Int).toNat (V.int 0))) hc5
    walk_at "ob"
    refine ⟨by walk_at "ob_at", bk2 c2 c3 c4 c5, rfl, Nat.le_of_ble_eq_true rfl, ?_⟩
    rw [bk2_m]
    have p6 := p5.set (i := 4) (a := d2) (o' := .dK (bk2 c2 c3 c4 c5)) rfl
    generalize hG : upd (upd _ c5 _) d2 _ = G2 at p6 ⊢
    clear p1 p2 p3 p4 p5 hG
    walk_at "ob"
    refine mw_upd hd n2 (p6.get (i := 6) rfl) (p6.get (i := 4) rfl) (Nat.le_of_ble_eq_true rfl) ?_
    rw [bk12_m]
    have p7 := p6.set (i := 6) (a := d) (o' := .dK (bk1 sa ma y w.start c1 ++ bk2 c2 c3 c4 c5)) rfl
    generalize hG : upd G2 d _ = G3 at p7 ⊢
    have gx3 := p7.ex
    clear p6 hG
    walk_at "ob"
    refine ew_lcT hd ?_
    walk_at "ob"
    refine ⟨ma, mv, rfl, gx3.sqT sma, by omega, fun Dl hDl => ?_⟩
    refine ⟨fun i acc _ G => acc = (w.ms.take i).map (fun ss => oV (if ss.isEmpty then some 0 else none)) ∧ Ex G3 G, ⟨rfl, .refl _⟩, ?_, ?_, ?_⟩
    · rintro i acc _ G hi gd ⟨rfl, g⟩
      exact ⟨g.sqT (gx3.sqT sma), by simp; omega⟩
    · rintro i acc x _ G hi gd ⟨rfl, g⟩
      have hd' := hd.jd (D := Dl) (acc := (w.ms.take i).map (fun ss => oV (if ss.isEmpty then some 0 else none)))
      obtain ⟨dd, hdd, dx⟩ := dps_get' dma hi
      rw [List.getElem?_map] at hdd
      obtain ⟨ss, hss2, rfl⟩ : ∃ ss, w.ms[i]? = some ss ∧ macD ss = dd := by
        cases e : w.ms[i]? with
        | none => rw [e] at hdd; cases hdd
        | some u => rw [e] at hdd; exact ⟨u, rfl, Option.some.inj hdd⟩
      refine gw_name ⟨rfl, tw_yes ⟨fun _ => ?_, fun h => by cases h⟩⟩
      walk_at "ob"
      refine ⟨by walk_at "ob_len", fun t ht => ?_⟩
      refine rw_eqD hd' (d := macD ss) (e := .tuple []) (dp_ex (by walk_at "ob_ex") (dp_ex (gx3.trans g) dx)) (.tup (SqT.of upd_same) .nil) (shaped_low (macD_low ss)) (shaped_low (n := 1) rfl) ?_
      have fin : ∀ (o : Option Int) (y : V), y = oV o → o = (if ss.isEmpty = true then some 0 else none) → (w.ms.take i).map (fun ss => oV (if ss.isEmpty then some 0 else none)) ++ [y] = (w.ms.take (i + 1)).map (fun ss => oV (if ss.isEmpty then some 0 else none)) := fun o y e1 e2 => by
        rw [List.take_succ, hss2, List.map_append, e1, e2]
        rfl
      cases ss with
      | nil =>
        walk_at "ob"
        refine ⟨fun _ => ?_, fun h => absurd h (by simp [macD, PyData.eqv, PyData.eqvAll])⟩
        walk_at "ob"
        exact ⟨fin (some 0) _ rfl rfl, by walk_at "ob_ex"⟩
      | cons a b =>
        walk_at "ob"
        refine ⟨fun h => absurd h (by simp [macD, PyData.eqv, PyData.eqvAll]), fun _ => ?_⟩
        walk_at "ob"
        exact ⟨fin none _ rfl rfl, by walk_at "ob_ex"⟩
    · rintro acc _ G gd ⟨rfl, g⟩
      have p8 := (p7.grow g).more (o := .lst ((w.ms.take mv.length).map (fun ss => oV (if ss.isEmpty then some 0 else none)))) gd
      walk_at "ob"
      refine ⟨d, _, .inr "ends", rfl, rfl, p8.get (i := 7) rfl, Nat.lt_of_le_of_lt (Nat.le_of_ble_eq_true (m := 11) rfl) (by decide), ?_⟩
      rw [bk12_e]
      have p9 := p8.set (i := 7) (a := d) (o' := .dK (bk1 sa ma y w.start c1 ++ bk2 c2 c3 c4 c5 ++ [(.inr "ends", .ref Dl)])) rfl
      walk_at "ob"
      have em : (w.ms.take mv.length) = w.ms := List.take_of_length_le (by omega)
      rw [em] at p9
      have p10 := p9.pick [7, 6, 4, 3, 2, 1, 0] (by decide)
      have hn : ∀ (f : Mac → Int) (z : Int), (∀ ss : List Stp, f ⟨0, -1, 0, 0, 0, if ss.isEmpty then some 0 else none⟩ = z) → List.replicate (w.ms.length : Int).toNat (V.int z) = (lBegun w).ms.map fun m => .int (f m) := fun f z hz => by
        show _ = (w.ms.map _).map _
        rw [List.map_map]
        have : ((fun m => V.int (f m)) ∘ fun ss : List Stp => (⟨0, -1, 0, 0, 0, if ss.isEmpty then some 0 else none⟩ : Mac)) = fun _ => V.int z := by
          funext ss
          show V.int (f _) = V.int z
          rw [hz]
        rw [this, map_const]
        rfl
      refine k F _ ⟨d, c1, c2, c3, c4, c5, Dl, .ref sa, .ref ma, y⟩ (.refl _) ⟨?_, dst, dmc, hy, by simp [lBegun]⟩
      have e : wown ⟨d, c1, c2, c3, c4, c5, Dl, .ref sa, .ref ma, y⟩ (lBegun w) = [(d, .dK (bk1 sa ma y w.start c1 ++ bk2 c2 c3 c4 c5 ++ [(.inr "ends", .ref Dl)])), (c1, .lst (List.replicate (w.ms.length : Int).toNat (V.int 0))), (c2, .lst (List.replicate (w.ms.length : Int).toNat (V.int (-1)))),
          (c3, .lst (List.replicate (w.ms.length : Int).toNat (V.int 0))), (c4, .lst (List.replicate (w.ms.length : Int).toNat (V.int 0))), (c5, .lst (List.replicate (w.ms.length : Int).toNat (V.int 0))), (Dl, .lst (w.ms.map (fun ss => oV (if ss.isEmpty then some 0 else none))))] := by
        rw [hn (·.at_) 0 (fun _ => rfl), hn (·.over) (-1) (fun _ => rfl)]
        have e2 : w.ms.map (fun ss => oV (if ss.isEmpty then some 0 else none)) = (lBegun w).ms.map fun m => oV m.ends := by
          show _ = (w.ms.map _).map _
          rw [List.map_map]
          rfl
        rw [e2]
        have e3 := hn (·.at_) 0 (fun _ => rfl)
        have e4 : (lBegun w).ms.map (fun m => V.int m.since) = (lBegun w).ms.map (fun m => V.int m.at_) := by rw [← e3, hn (·.since) 0 (fun _ => rfl)]
        have e5 : (lBegun w).ms.map (fun m => V.int m.done) = (lBegun w).ms.map (fun m => V.int m.at_) := by rw [← e3, hn (·.done) 0 (fun _ => rfl)]
        have e6 : (lBegun w).ms.map (fun m => V.int m.waits) = (lBegun w).ms.map (fun m => V.int m.at_) := by rw [← e3, hn (·.waits) 0 (fun _ => rfl)]
        unfold wown
        rw [e4, e5, e6]
        rfl
      rw [List.append_nil, e, em]
      exact p10
end
end Obr
namespace Obr
open PySem L2 PyProof.Rows
/-! ### reading and writing the law's machines -/
theorem atI_int {xs : List V} {i : Int} {v : V} (h0 : 0 ≤ i) (h : xs[i.toNat]? = some v) : atI xs i = some v := by
  obtain ⟨j, rfl⟩ : ∃ j : Nat, i = (j : Int) := ⟨i.toNat, by omega⟩
  exact atI_nat (by simpa using h)
theorem map_at {α β : Type} {f : α → β} {l : List α} {k : Nat} {m : α} (h : l[k]? = some m) : (l.map f)[k]? = some (f m) := by rw [List.getElem?_map, h]; rfl
theorem set_same {α β : Type} {f : α → β} {l : List α} {k : Nat} {m : α} (h : l[k]? = some m) : (l.map f).set k (f m) = l.map f := by
  refine List.ext_getElem? fun j => ?_
  rw [List.getElem?_set]
  by_cases c : k = j
  · subst c
    rw [if_pos rfl, map_at h]
    have : k < (l.map f).length := by rw [List.length_map]; exact (List.getElem?_eq_some_iff.mp h).1
    rw [if_pos this]
  · rw [if_neg c]
section
variable {S : Type} {J : S → Hp → Hp → Prop} {K : PySem.W.Frag} {σ : L2.St} {s : S} {F0 F : Hp} {A : WAd} {t : LSt} {w : Wld} {r : Rgt} {p : Bool} {ex : List (Addr × HO)} {R : V → S → Hp → Prop} {D : L2.St → S → Hp → Prop}
theorem WAt.dg (h : WAt K F0 F A t w r p ex) {i : Nat} {k : Key} {v : V} {R : V → Prop} (e : (wkvs A t)[i]? = some (k, v)) (hR : R v) :
    ∃ a kvs k' v', V.ref A.w = .ref a ∧ kV k = kV k' ∧ F a = some (.dK kvs) ∧ valV kvs k' = some v' ∧ R v' :=
  ⟨A.w, wkvs A t, k, v, rfl, rfl, h.own.get (i := 0) rfl, valV_nd (wkvs_nd A t) e, hR⟩
theorem WAt.g_store (h : WAt K F0 F A t w r p ex) {R : V → Prop} (hR : R (A.store)) : ∃ a kvs k' v', V.ref A.w = .ref a ∧ V.str "store" = kV k' ∧ F a = some (.dK kvs) ∧ valV kvs k' = some v' ∧ R v' := h.dg (i := 0) (k := .inr "store") rfl hR
theorem WAt.g_machines (h : WAt K F0 F A t w r p ex) {R : V → Prop} (hR : R (A.machines)) : ∃ a kvs k' v', V.ref A.w = .ref a ∧ V.str "machines" = kV k' ∧ F a = some (.dK kvs) ∧ valV kvs k' = some v' ∧ R v' := h.dg (i := 1) (k := .inr "machines") rfl hR
theorem WAt.g_rule (h : WAt K F0 F A t w r p ex) {R : V → Prop} (hR : R (A.rule)) : ∃ a kvs k' v', V.ref A.w = .ref a ∧ V.str "rule" = kV k' ∧ F a = some (.dK kvs) ∧ valV kvs k' = some v' ∧ R v' := h.dg (i := 2) (k := .inr "rule") rfl hR
theorem WAt.g_level (h : WAt K F0 F A t w r p ex) {R : V → Prop} (hR : R (.int t.level)) : ∃ a kvs k' v', V.ref A.w = .ref a ∧ V.str "level" = kV k' ∧ F a = some (.dK kvs) ∧ valV kvs k' = some v' ∧ R v' := h.dg (i := 3) (k := .inr "level") rfl hR
theorem WAt.g_at (h : WAt K F0 F A t w r p ex) {R : V → Prop} (hR : R (.ref A.at_)) : ∃ a kvs k' v', V.ref A.w = .ref a ∧ V.str "at" = kV k' ∧ F a = some (.dK kvs) ∧ valV kvs k' = some v' ∧ R v' := h.dg (i := 4) (k := .inr "at") rfl hR
theorem WAt.g_over (h : WAt K F0 F A t w r p ex) {R : V → Prop} (hR : R (.ref A.over)) : ∃ a kvs k' v', V.ref A.w = .ref a ∧ V.str "over" = kV k' ∧ F a = some (.dK kvs) ∧ valV kvs k' = some v' ∧ R v' := h.dg (i := 5) (k := .inr "over") rfl hR
theorem WAt.g_since (h : WAt K F0 F A t w r p ex) {R : V → Prop} (hR : R (.ref A.since)) : ∃ a kvs k' v', V.ref A.w = .ref a ∧ V.str "since" = kV k' ∧ F a = some (.dK kvs) ∧ valV kvs k' = some v' ∧ R v' := h.dg (i := 6) (k := .inr "since") rfl hR
theorem WAt.g_last (h : WAt K F0 F A t w r p ex) {R : V → Prop} (hR : R (.int t.last)) : ∃ a kvs k' v', V.ref A.w = .ref a ∧ V.str "last" = kV k' ∧ F a = some (.dK kvs) ∧ valV kvs k' = some v' ∧ R v' := h.dg (i := 7) (k := .inr "last") rfl hR
theorem WAt.g_beat (h : WAt K F0 F A t w r p ex) {R : V → Prop} (hR : R (.int t.beat)) : ∃ a kvs k' v', V.ref A.w = .ref a ∧ V.str "beat" = kV k' ∧ F a = some (.dK kvs) ∧ valV kvs k' = some v' ∧ R v' := h.dg (i := 8) (k := .inr "beat") rfl hR
theorem WAt.g_done (h : WAt K F0 F A t w r p ex) {R : V → Prop} (hR : R (.ref A.done)) : ∃ a kvs k' v', V.ref A.w = .ref a ∧ V.str "done" = kV k' ∧ F a = some (.dK kvs) ∧ valV kvs k' = some v' ∧ R v' := h.dg (i := 9) (k := .inr "done") rfl hR
theorem WAt.g_waits (h : WAt K F0 F A t w r p ex) {R : V → Prop} (hR : R (.ref A.waits)) : ∃ a kvs k' v', V.ref A.w = .ref a ∧ V.str "waits" = kV k' ∧ F a = some (.dK kvs) ∧ valV kvs k' = some v' ∧ R v' := h.dg (i := 10) (k := .inr "waits") rfl hR
theorem WAt.g_ends (h : WAt K F0 F A t w r p ex) {R : V → Prop} (hR : R (.ref A.ends)) : ∃ a kvs k' v', V.ref A.w = .ref a ∧ V.str "ends" = kV k' ∧ F a = some (.dK kvs) ∧ valV kvs k' = some v' ∧ R v' := h.dg (i := 11) (k := .inr "ends") rfl hR
theorem WAt.r_at_ (h : WAt K F0 F A t w r p ex) (hd : Hid J) {k : Nat} {m : Mac} (hm : t.ms[k]? = some m) (hR : R (.int m.at_) s F) : RW J (rIxL K) (.ref A.at_) (.int (k : Int)) s F R :=
  rw_ixL hd (SqL.of (h.own.get (i := 1) rfl)) (atI_nat (map_at hm)) hR
theorem WAt.r_over (h : WAt K F0 F A t w r p ex) (hd : Hid J) {k : Nat} {m : Mac} (hm : t.ms[k]? = some m) (hR : R (.int m.over) s F) : RW J (rIxL K) (.ref A.over) (.int (k : Int)) s F R :=
  rw_ixL hd (SqL.of (h.own.get (i := 2) rfl)) (atI_nat (map_at hm)) hR
theorem WAt.r_since (h : WAt K F0 F A t w r p ex) (hd : Hid J) {k : Nat} {m : Mac} (hm : t.ms[k]? = some m) (hR : R (.int m.since) s F) : RW J (rIxL K) (.ref A.since) (.int (k : Int)) s F R :=
  rw_ixL hd (SqL.of (h.own.get (i := 3) rfl)) (atI_nat (map_at hm)) hR
theorem WAt.r_done (h : WAt K F0 F A t w r p ex) (hd : Hid J) {k : Nat} {m : Mac} (hm : t.ms[k]? = some m) (hR : R (.int m.done) s F) : RW J (rIxL K) (.ref A.done) (.int (k : Int)) s F R :=
  rw_ixL hd (SqL.of (h.own.get (i := 4) rfl)) (atI_nat (map_at hm)) hR
theorem WAt.r_waits (h : WAt K F0 F A t w r p ex) (hd : Hid J) {k : Nat} {m : Mac} (hm : t.ms[k]? = some m) (hR : R (.int m.waits) s F) : RW J (rIxL K) (.ref A.waits) (.int (k : Int)) s F R :=
  rw_ixL hd (SqL.of (h.own.get (i := 5) rfl)) (atI_nat (map_at hm)) hR
theorem WAt.r_mac (h : WAt K F0 F A t w r p ex) (hd : Hid J) {k : Nat} {ss : List Stp} (hs : w.ms[k]? = some ss) (hR : ∀ v, Dp K F0 v (macD ss) → R v s F) : RW J (rIxT K) A.machines (.int (k : Int)) s F R := by
  obtain ⟨a, xs, e, l, d⟩ := dp_tup h.mc
  obtain ⟨v, hv, dv⟩ := dps_get d (map_at hs)
  rw [e]
  exact rw_ixT hd (h.own.ex.sqT l) (atI_nat hv) (hR v dv)
theorem TW.imp {tt : TT} {R R' : Bool → S → Hp → Prop} (h : TW J tt σ s F R) (i : ∀ b s' F', R b s' F' → R' b s' F') : TW J tt σ s F R' := fun H j Q q => h H j Q fun v s' F' H' j' r => q v s' F' H' j' (i _ _ _ r)
theorem r_stp (hd : Hid J) (g : Ex F0 F) {v : V} {ss : List Stp} {i : Int} {st : Stp} (hv : Dp K F0 v (macD ss)) (h0 : 0 ≤ i) (hs : ss[i.toNat]? = some st) (hR : ∀ u, Dp K F0 u (stpD st) → R u s F) : RW J (rIxT K) v (.int i) s F R := by
  obtain ⟨a, xs, e, l, d⟩ := dp_tup hv
  obtain ⟨u, hu, du⟩ := dps_get d (map_at hs)
  rw [e]
  exact rw_ixT hd (g.sqT l) (atI_int h0 hu) (hR u du)
theorem r_fld (hd : Hid J) (g : Ex F0 F) {u : V} {st : Stp} (hu : Dp K F0 u (stpD st)) : (R (.int st.draw) s F → RW J (rIxT K) u (.int 0) s F R) ∧ (R (.int st.long) s F → RW J (rIxT K) u (.int 1) s F R) ∧ (R (.int st.back) s F → RW J (rIxT K) u (.int 2) s F R) := by
  obtain ⟨a, xs, e, l, d⟩ := dp_tup hu
  obtain ⟨_, _, _, rfl, d1, d2, d3⟩ := dps3 d
  cases dp_int d1; cases dp_int d2; cases dp_int d3
  rw [e]
  exact ⟨fun hR => rw_ixT hd (g.sqT l) rfl hR, fun hR => rw_ixT hd (g.sqT l) rfl hR, fun hR => rw_ixT hd (g.sqT l) rfl hR⟩
theorem WAt.r_right (h : WAt K F0 F A t w r p ex) (hd : Hid J) (hR : R (.str (rgtS r)) s F) : RW J (rIxT K) A.rule (.int 0) s F R := by
  obtain ⟨a, xs, e, l, d⟩ := dp_tup h.ru
  obtain ⟨_, _, rfl, d1, d2⟩ := dps2 d
  cases dp_str d1; cases dp_bl d2
  rw [e]
  exact rw_ixT hd (h.own.ex.sqT l) rfl hR
theorem WAt.r_pass (h : WAt K F0 F A t w r p ex) (hd : Hid J) (hR : R (.bl p) s F) : RW J (rIxT K) A.rule (.int 1) s F R := by
  obtain ⟨a, xs, e, l, d⟩ := dp_tup h.ru
  obtain ⟨_, _, rfl, d1, d2⟩ := dps2 d
  cases dp_str d1; cases dp_bl d2
  rw [e]
  exact rw_ixT hd (h.own.ex.sqT l) rfl hR
/-- the value under a written key is put anew -/
theorem WAt.dp (h : WAt K F0 F A t w r p ex) {i : Nat} {k : Key} {v v0 : V} {t' : LSt} (e : (wkvs A t)[i]? = some (k, v0)) (e2 : wkvs A t' = (wkvs A t).set i (k, v)) (em : t'.ms = t.ms) (hN : ∀ F', WAt K F0 F' A t' w r p ex → D σ s F') :
    ∃ a kvs k', V.ref A.w = .ref a ∧ kV k = kV k' ∧ F a = some (.dK kvs) ∧ kvs.length < 100000 ∧ D σ s (upd F a (.dK (putK kvs k' v))) := by
  refine ⟨A.w, wkvs A t, k, rfl, rfl, h.own.get (i := 0) rfl, Nat.lt_of_le_of_lt (Nat.le_of_ble_eq_true (m := 12) rfl) (by decide), hN _ ⟨?_, h.st, h.mc, h.ru, by rw [em]; exact h.len⟩⟩
  have o := h.own.set (i := 0) (a := A.w) (o' := .dK (putK (wkvs A t) k v)) rfl
  have e3 : wown A t' ++ ex = (wown A t ++ ex).set 0 (A.w, .dK (putK (wkvs A t) k v)) := by
    rw [putK_nd (wkvs_nd A t) e, ← e2]
    unfold wown
    rw [em]
    rfl
  rw [e3]
  exact o
theorem WAt.p_level (h : WAt K F0 F A t w r p ex) {z : Int} (hN : ∀ F', WAt K F0 F' A { t with level := z } w r p ex → D σ s F') :
    ∃ a kvs k', V.ref A.w = .ref a ∧ V.str "level" = kV k' ∧ F a = some (.dK kvs) ∧ kvs.length < 100000 ∧ D σ s (upd F a (.dK (putK kvs k' (.int z)))) := h.dp (i := 3) (k := .inr "level") (v := .int z) (t' := { t with level := z }) rfl rfl rfl hN
theorem WAt.p_last (h : WAt K F0 F A t w r p ex) {z : Int} (hN : ∀ F', WAt K F0 F' A { t with last := z } w r p ex → D σ s F') :
    ∃ a kvs k', V.ref A.w = .ref a ∧ V.str "last" = kV k' ∧ F a = some (.dK kvs) ∧ kvs.length < 100000 ∧ D σ s (upd F a (.dK (putK kvs k' (.int z)))) := h.dp (i := 7) (k := .inr "last") (v := .int z) (t' := { t with last := z }) rfl rfl rfl hN
theorem WAt.p_beat (h : WAt K F0 F A t w r p ex) {z : Int} (hN : ∀ F', WAt K F0 F' A { t with beat := z } w r p ex → D σ s F') :
    ∃ a kvs k', V.ref A.w = .ref a ∧ V.str "beat" = kV k' ∧ F a = some (.dK kvs) ∧ kvs.length < 100000 ∧ D σ s (upd F a (.dK (putK kvs k' (.int z)))) := h.dp (i := 8) (k := .inr "beat") (v := .int z) (t' := { t with beat := z }) rfl rfl rfl hN
theorem WAt.s_at_ (h : WAt K F0 F A t w r p ex) {k : Nat} {m : Mac} {z : Int} (hm : t.ms[k]? = some m) (hN : ∀ F', WAt K F0 F' A { t with ms := t.ms.set k { m with at_ := z } } w r p ex → D σ s F') :
    ∃ p xs k' j, V.ref A.at_ = .ref p ∧ V.int (k : Int) = .int k' ∧ F p = some (.lst xs) ∧ ixN xs.length k' = some j ∧ D σ s (upd F p (.lst (xs.set j (.int z)))) := by
  have hk : k < t.ms.length := (List.getElem?_eq_some_iff.mp hm).1
  have o := h.own.set (i := 1) (a := A.at_) (o' := .lst ((t.ms.map fun m => V.int m.at_).set k (.int z))) rfl
  refine ⟨A.at_, _, _, k, rfl, rfl, h.own.get (i := 1) rfl, ?_, hN _ ⟨?_, h.st, h.mc, h.ru, by rw [List.length_set]; exact h.len⟩⟩
  · have := ixN_of (n := (t.ms.map fun m : Mac => V.int m.at_).length) (i := (k : Int)) (by omega) (by rw [List.length_map]; omega)
    exact this
  · have e3 : wown A { t with ms := t.ms.set k { m with at_ := z } } ++ ex = (wown A t ++ ex).set 1 (A.at_, .lst ((t.ms.map fun m => V.int m.at_).set k (.int z))) := by
      unfold wown
      simp only [List.map_set]
      rw [set_same (f := fun m : Mac => V.int m.over) hm, set_same (f := fun m : Mac => V.int m.since) hm, set_same (f := fun m : Mac => V.int m.done) hm, set_same (f := fun m : Mac => V.int m.waits) hm, set_same (f := fun m : Mac => oV m.ends) hm]
      rfl
    rw [e3]
    exact o
theorem WAt.s_over (h : WAt K F0 F A t w r p ex) {k : Nat} {m : Mac} {z : Int} (hm : t.ms[k]? = some m) (hN : ∀ F', WAt K F0 F' A { t with ms := t.ms.set k { m with over := z } } w r p ex → D σ s F') :
    ∃ p xs k' j, V.ref A.over = .ref p ∧ V.int (k : Int) = .int k' ∧ F p = some (.lst xs) ∧ ixN xs.length k' = some j ∧ D σ s (upd F p (.lst (xs.set j (.int z)))) := by
  have hk : k < t.ms.length := (List.getElem?_eq_some_iff.mp hm).1
  have o := h.own.set (i := 2) (a := A.over) (o' := .lst ((t.ms.map fun m => V.int m.over).set k (.int z))) rfl
  refine ⟨A.over, _, _, k, rfl, rfl, h.own.get (i := 2) rfl, ?_, hN _ ⟨?_, h.st, h.mc, h.ru, by rw [List.length_set]; exact h.len⟩⟩
  · have := ixN_of (n := (t.ms.map fun m : Mac => V.int m.over).length) (i := (k : Int)) (by omega) (by rw [List.length_map]; omega)
    exact this
  · have e3 : wown A { t with ms := t.ms.set k { m with over := z } } ++ ex = (wown A t ++ ex).set 2 (A.over, .lst ((t.ms.map fun m => V.int m.over).set k (.int z))) := by
      unfold wown
      simp only [List.map_set]
      rw [set_same (f := fun m : Mac => V.int m.at_) hm, set_same (f := fun m : Mac => V.int m.since) hm, set_same (f := fun m : Mac => V.int m.done) hm, set_same (f := fun m : Mac => V.int m.waits) hm, set_same (f := fun m : Mac => oV m.ends) hm]
      rfl
    rw [e3]
    exact o
theorem WAt.s_since (h : WAt K F0 F A t w r p ex) {k : Nat} {m : Mac} {z : Int} (hm : t.ms[k]? = some m) (hN : ∀ F', WAt K F0 F' A { t with ms := t.ms.set k { m with since := z } } w r p ex → D σ s F') :
    ∃ p xs k' j, V.ref A.since = .ref p ∧ V.int (k : Int) = .int k' ∧ F p = some (.lst xs) ∧ ixN xs.length k' = some j ∧ D σ s (upd F p (.lst (xs.set j (.int z)))) := by
  have hk : k < t.ms.length := (List.getElem?_eq_some_iff.mp hm).1
  have o := h.own.set (i := 3) (a := A.since) (o' := .lst ((t.ms.map fun m => V.int m.since).set k (.int z))) rfl
  refine ⟨A.since, _, _, k, rfl, rfl, h.own.get (i := 3) rfl, ?_, hN _ ⟨?_, h.st, h.mc, h.ru, by rw [List.length_set]; exact h.len⟩⟩
  · have := ixN_of (n := (t.ms.map fun m : Mac => V.int m.since).length) (i := (k : Int)) (by omega) (by rw [List.length_map]; omega)
    exact this
  · have e3 : wown A { t with ms := t.ms.set k { m with since := z } } ++ ex = (wown A t ++ ex).set 3 (A.since, .lst ((t.ms.map fun m => V.int m.since).set k (.int z))) := by
      unfold wown
      simp only [List.map_set]
      rw [set_same (f := fun m : Mac => V.int m.at_) hm, set_same (f := fun m : Mac => V.int m.over) hm, set_same (f := fun m : Mac => V.int m.done) hm, set_same (f := fun m : Mac => V.int m.waits) hm, set_same (f := fun m : Mac => oV m.ends) hm]
      rfl
    rw [e3]
    exact o
theorem WAt.s_done (h : WAt K F0 F A t w r p ex) {k : Nat} {m : Mac} {z : Int} (hm : t.ms[k]? = some m) (hN : ∀ F', WAt K F0 F' A { t with ms := t.ms.set k { m with done := z } } w r p ex → D σ s F') :
    ∃ p xs k' j, V.ref A.done = .ref p ∧ V.int (k : Int) = .int k' ∧ F p = some (.lst xs) ∧ ixN xs.length k' = some j ∧ D σ s (upd F p (.lst (xs.set j (.int z)))) := by
  have hk : k < t.ms.length := (List.getElem?_eq_some_iff.mp hm).1
  have o := h.own.set (i := 4) (a := A.done) (o' := .lst ((t.ms.map fun m => V.int m.done).set k (.int z))) rfl
  refine ⟨A.done, _, _, k, rfl, rfl, h.own.get (i := 4) rfl, ?_, hN _ ⟨?_, h.st, h.mc, h.ru, by rw [List.length_set]; exact h.len⟩⟩
  · have := ixN_of (n := (t.ms.map fun m : Mac => V.int m.done).length) (i := (k : Int)) (by omega) (by rw [List.length_map]; omega)
    exact this
  · have e3 : wown A { t with ms := t.ms.set k { m with done := z } } ++ ex = (wown A t ++ ex).set 4 (A.done, .lst ((t.ms.map fun m => V.int m.done).set k (.int z))) := by
      unfold wown
      simp only [List.map_set]
      rw [set_same (f := fun m : Mac => V.int m.at_) hm, set_same (f := fun m : Mac => V.int m.over) hm, set_same (f := fun m : Mac => V.int m.since) hm, set_same (f := fun m : Mac => V.int m.waits) hm, set_same (f := fun m : Mac => oV m.ends) hm]
      rfl
    rw [e3]
    exact o
theorem WAt.s_waits (h : WAt K F0 F A t w r p ex) {k : Nat} {m : Mac} {z : Int} (hm : t.ms[k]? = some m) (hN : ∀ F', WAt K F0 F' A { t with ms := t.ms.set k { m with waits := z } } w r p ex → D σ s F') :
    ∃ p xs k' j, V.ref A.waits = .ref p ∧ V.int (k : Int) = .int k' ∧ F p = some (.lst xs) ∧ ixN xs.length k' = some j ∧ D σ s (upd F p (.lst (xs.set j (.int z)))) := by
  have hk : k < t.ms.length := (List.getElem?_eq_some_iff.mp hm).1
  have o := h.own.set (i := 5) (a := A.waits) (o' := .lst ((t.ms.map fun m => V.int m.waits).set k (.int z))) rfl
  refine ⟨A.waits, _, _, k, rfl, rfl, h.own.get (i := 5) rfl, ?_, hN _ ⟨?_, h.st, h.mc, h.ru, by rw [List.length_set]; exact h.len⟩⟩
  · have := ixN_of (n := (t.ms.map fun m : Mac => V.int m.waits).length) (i := (k : Int)) (by omega) (by rw [List.length_map]; omega)
    exact this
  · have e3 : wown A { t with ms := t.ms.set k { m with waits := z } } ++ ex = (wown A t ++ ex).set 5 (A.waits, .lst ((t.ms.map fun m => V.int m.waits).set k (.int z))) := by
      unfold wown
      simp only [List.map_set]
      rw [set_same (f := fun m : Mac => V.int m.at_) hm, set_same (f := fun m : Mac => V.int m.over) hm, set_same (f := fun m : Mac => V.int m.since) hm, set_same (f := fun m : Mac => V.int m.done) hm, set_same (f := fun m : Mac => oV m.ends) hm]
      rfl
    rw [e3]
    exact o
theorem WAt.s_ends (h : WAt K F0 F A t w r p ex) {k : Nat} {m : Mac} {z : Option Int} (hm : t.ms[k]? = some m) (hN : ∀ F', WAt K F0 F' A { t with ms := t.ms.set k { m with ends := z } } w r p ex → D σ s F') :
    ∃ p xs k' j, V.ref A.ends = .ref p ∧ V.int (k : Int) = .int k' ∧ F p = some (.lst xs) ∧ ixN xs.length k' = some j ∧ D σ s (upd F p (.lst (xs.set j (oV z)))) := by
  have hk : k < t.ms.length := (List.getElem?_eq_some_iff.mp hm).1
  have o := h.own.set (i := 6) (a := A.ends) (o' := .lst ((t.ms.map fun m => oV m.ends).set k (oV z))) rfl
  refine ⟨A.ends, _, _, k, rfl, rfl, h.own.get (i := 6) rfl, ?_, hN _ ⟨?_, h.st, h.mc, h.ru, by rw [List.length_set]; exact h.len⟩⟩
  · have := ixN_of (n := (t.ms.map fun m : Mac => oV m.ends).length) (i := (k : Int)) (by omega) (by rw [List.length_map]; omega)
    exact this
  · have e3 : wown A { t with ms := t.ms.set k { m with ends := z } } ++ ex = (wown A t ++ ex).set 6 (A.ends, .lst ((t.ms.map fun m => oV m.ends).set k (oV z))) := by
      unfold wown
      simp only [List.map_set]
      rw [set_same (f := fun m : Mac => V.int m.at_) hm, set_same (f := fun m : Mac => V.int m.over) hm, set_same (f := fun m : Mac => V.int m.since) hm, set_same (f := fun m : Mac => V.int m.done) hm, set_same (f := fun m : Mac => V.int m.waits) hm]
      rfl
    rw [e3]
    exact o
/-- what is new is known to F0 from now on, or is forgotten, or is owned -/
theorem WAt.new (h : WAt K F0 F A t w r p ex) {a : Addr} {o : HO} (ha : F a = none) : WAt K (upd F0 a o) (upd F a o) A t w r p ex :=
  ⟨h.own.new ha, dp_ex (Ex.new (.refl _) (h.own.ex.free ha)) h.st, dp_ex (Ex.new (.refl _) (h.own.ex.free ha)) h.mc, dp_ex (Ex.new (.refl _) (h.own.ex.free ha)) h.ru, h.len⟩
theorem WAt.new' (h : WAt K F0 F A t w r p ex) {a : Addr} {o : HO} (ha : F a = none) : WAt K F0 (upd F a o) A t w r p ex := ⟨h.own.new' ha, h.st, h.mc, h.ru, h.len⟩
theorem WAt.more (h : WAt K F0 F A t w r p ex) {a : Addr} {o : HO} (ha : F a = none) : WAt K F0 (upd F a o) A t w r p ((a, o) :: ex) := ⟨(h.own.more ha).perm List.perm_middle, h.st, h.mc, h.ru, h.len⟩
/-- the first of the cells besides is written -/
theorem WAt.exset {a : Addr} {o o' : HO} {ex : List (Addr × HO)} (h : WAt K F0 F A t w r p ((a, o) :: ex)) : WAt K F0 (upd F a o') A t w r p ((a, o') :: ex) := ⟨h.own.set (i := 7) (a := a) (o' := o') rfl, h.st, h.mc, h.ru, h.len⟩
theorem WAt.ex0 {a : Addr} {o : HO} {ex : List (Addr × HO)} (h : WAt K F0 F A t w r p ((a, o) :: ex)) : F a = some o := h.own.get (i := 7) rfl
/-- the first of the cells besides is written no more -/
theorem WAt.freeze {a : Addr} {o : HO} {ex : List (Addr × HO)} (h : WAt K F0 F A t w r p ((a, o) :: ex)) : WAt K (upd F0 a o) F A t w r p ex := by
  have h0 : F0 a = none := h.own.none (i := 7) rfl
  exact ⟨(h.own.perm (own' := (a, o) :: (wown A t ++ ex)) List.perm_middle.symm).freeze rfl, dp_ex (Ex.new (.refl _) h0) h.st, dp_ex (Ex.new (.refl _) h0) h.mc, dp_ex (Ex.new (.refl _) h0) h.ru, h.len⟩
/-- what was not there ahead is owned from now on -/
theorem WAt.adopt (h : WAt K F0 F A t w r p ex) {F' : Hp} (g : Ex F F') {a : Addr} {o : HO} (ha : F a = none) (hv : F' a = some o) : WAt K F0 F' A t w r p ((a, o) :: ex) := by
  refine ⟨?_, h.st, h.mc, h.ru, h.len⟩
  have h1 : Own F0 F' ((a, o) :: (wown A t ++ ex)) := {
    ex := h.own.ex.trans g
    out := fun q hq => by
      rcases List.mem_cons.mp hq with rfl | hq
      · exact h.own.ex.free ha
      · exact h.own.out q hq
    at_ := fun q hq => by
      rcases List.mem_cons.mp hq with rfl | hq
      · exact hv
      · exact g _ _ (h.own.at_ q hq)
    nd := by
      rw [List.map_cons, List.nodup_cons]
      refine ⟨fun hm => ?_, h.own.nd⟩
      obtain ⟨q, hq, e⟩ := List.mem_map.mp hm
      have := h.own.at_ q hq
      rw [e, ha] at this
      cases this }
  exact h1.perm List.perm_middle
theorem WAt.swap {x y : Addr × HO} {ex : List (Addr × HO)} (h : WAt K F0 F A t w r p (x :: y :: ex)) : WAt K F0 F A t w r p (y :: x :: ex) := ⟨h.own.perm (List.Perm.append_left _ (List.Perm.swap x y ex)), h.st, h.mc, h.ru, h.len⟩
theorem WAt.drop {x : Addr × HO} {ex : List (Addr × HO)} (h : WAt K F0 F A t w r p (x :: ex)) : WAt K F0 F A t w r p ex := ⟨⟨h.own.ex, fun q hq => h.own.out q (by rcases List.mem_append.mp hq with h | h; exact List.mem_append.mpr (.inl h); exact List.mem_append.mpr (.inr (List.mem_cons_of_mem _ h))),
  fun q hq => h.own.at_ q (by rcases List.mem_append.mp hq with h | h; exact List.mem_append.mpr (.inl h); exact List.mem_append.mpr (.inr (List.mem_cons_of_mem _ h))), by
    have := (h.own.perm (own' := x :: (wown A t ++ ex)) List.perm_middle.symm).nd
    rw [List.map_cons, List.nodup_cons] at this
    exact this.2⟩, h.st, h.mc, h.ru, h.len⟩
end
end Obr
namespace Obr
open PySem L2 PyProof.Rows
/-! ### a beat of the law's machines -/
def minI (a b : Int) : Int := if b < a then b else a
def lEnd (w : Wld) (anew : Bool) (t : LSt) (k : Nat) : LSt :=
  match t.ms[k]?, w.ms[k]? with
  | some m, some ss =>
    if m.over = t.beat then
      match ss[m.at_.toNat]? with
      | some s =>
        if m.at_ + 1 = ss.length then { t with level := minI w.cap (t.level + s.back), ms := t.ms.set k ⟨if anew then 0 else m.at_ + 1, -1, t.beat, m.done + 1, m.waits, some t.beat⟩ }
        else { t with level := minI w.cap (t.level + s.back), ms := t.ms.set k ⟨m.at_ + 1, -1, t.beat, m.done + 1, m.waits, m.ends⟩ }
      | none => t
    else t
  | _, _ => t
def lEnds (w : Wld) (anew : Bool) (t : LSt) : Nat → LSt
  | 0 => t
  | n + 1 => lEnd w anew (lEnds w anew t n) n
def lFill (w : Wld) (t : LSt) : LSt := if 0 < t.beat then { t with level := minI w.cap (t.level + w.refill) } else t
def lClaim (w : Wld) (t : LSt) (k : Nat) : List Clm :=
  match t.ms[k]?, w.ms[k]? with
  | some m, some ss => if m.over < 0 ∧ m.at_ < ss.length then (match ss[m.at_.toNat]? with | some s => [⟨k, s.draw, m.since⟩] | none => []) else []
  | _, _ => []
def lClaims (w : Wld) (t : LSt) : Nat → List Clm
  | 0 => []
  | n + 1 => lClaims w t n ++ lClaim w t n
def lDraw (w : Wld) (p : Bool) (x : LSt × List Int × Bool) (c : Clm) : LSt × List Int × Bool :=
  match x.1.ms[c.k.toNat]?, w.ms[c.k.toNat]? with
  | some m, some ss =>
    if x.2.2 = true ∧ c.draw ≤ x.1.level then
      match ss[m.at_.toNat]? with
      | some s => ({ x.1 with level := x.1.level - c.draw, ms := x.1.ms.set c.k.toNat { m with over := x.1.beat + s.long } }, x.2.1 ++ [c.k], x.2.2)
      | none => x
    else ({ x.1 with ms := x.1.ms.set c.k.toNat { m with waits := m.waits + 1 } }, x.2.1, x.2.2 && p)
  | _, _ => x
def lDraws (w : Wld) (p : Bool) (ts : List Clm) (t : LSt) : LSt × List Int × Bool := ts.foldl (lDraw w p) (t, [], true)
def lLast (t : LSt) (bg : List Int) : LSt := { t with last := (if bg.isEmpty then t.last else bg.getLastD 0), beat := t.beat + 1 }
/-- the claims in their turn: any list that is that -/
structure TurnOk (r : Rgt) (last : Int) (cs ts : List Clm) : Prop where
  perm : ts.Perm cs
  srt : ts.Pairwise (cLt r last)
/-- a beat: from t to t', told (level, began) -/
structure LBeat (w : Wld) (r : Rgt) (p : Bool) (anew : Bool) (t t' : LSt) (lv : Int) (bg : List Int) : Prop where
  ex : ∃ ts, TurnOk r (lFill w (lEnds w anew t w.ms.length)).last (lClaims w (lFill w (lEnds w anew t w.ms.length)) w.ms.length) ts ∧ bg = (lDraws w p ts (lFill w (lEnds w anew t w.ms.length))).2.1 ∧
    t' = lLast (lDraws w p ts (lFill w (lEnds w anew t w.ms.length))).1 bg ∧ lv = t'.level
structure MacOk (ss : List Stp) (m : Mac) : Prop where
  a0 : 0 ≤ m.at_
  a1 : m.at_ ≤ ss.length
  o : 0 ≤ m.over → m.at_ < ss.length
structure LOk (w : Wld) (t : LSt) : Prop where
  b : 0 ≤ t.beat
  m : ∀ (k : Nat) (m : Mac) (ss : List Stp), t.ms[k]? = some m → w.ms[k]? = some ss → MacOk ss m
  len : t.ms.length = w.ms.length
theorem LOk.set {w : Wld} {t t' : LSt} {k : Nat} {m' : Mac} {ss : List Stp} (h : LOk w t) (hs : w.ms[k]? = some ss) (hm : MacOk ss m') (e : t'.ms = t.ms.set k m') (b : t'.beat = t.beat) : LOk w t' where
  b := by rw [b]; exact h.b
  m := fun j m2 ss2 h1 h2 => by
    rw [e, List.getElem?_set] at h1
    by_cases c : k = j
    · subst c
      rw [if_pos rfl] at h1
      rw [hs] at h2
      cases h2
      have : m2 = m' := by
        split at h1
        · exact (Option.some.inj h1).symm
        · cases h1
      subst this
      exact hm
    · rw [if_neg c] at h1
      exact h.m j m2 ss2 h1 h2
  len := by rw [e, List.length_set]; exact h.len
theorem LOk.same {w : Wld} {t t' : LSt} (h : LOk w t) (e : t'.ms = t.ms) (b : 0 ≤ t'.beat) : LOk w t' := ⟨b, fun k m ss h1 h2 => h.m k m ss (by rw [← e]; exact h1) h2, by rw [e]; exact h.len⟩
theorem lEnd_ok {w : Wld} {anew : Bool} {t : LSt} {k : Nat} (h : LOk w t) : LOk w (lEnd w anew t k) := by
  unfold lEnd
  split
  · rename_i m ss hm hs
    have ho := h.m k m ss hm hs
    split
    · rename_i e
      split
      · rename_i s hst
        have hlt := ho.o (by rw [e]; exact h.b)
        split
        · refine h.set hs (m' := ⟨if anew then 0 else m.at_ + 1, -1, t.beat, m.done + 1, m.waits, some t.beat⟩) ⟨?_, ?_, ?_⟩ rfl rfl
          · show 0 ≤ (if anew then (0 : Int) else m.at_ + 1); have := ho.a0; split <;> omega
          · show (if anew then (0 : Int) else m.at_ + 1) ≤ ss.length; split <;> omega
          · intro hh; exact absurd hh (by show ¬ (0 : Int) ≤ -1; decide)
        · refine h.set hs (m' := ⟨m.at_ + 1, -1, t.beat, m.done + 1, m.waits, m.ends⟩) ⟨?_, ?_, ?_⟩ rfl rfl
          · show 0 ≤ m.at_ + 1; have := ho.a0; omega
          · show m.at_ + 1 ≤ ss.length; omega
          · intro hh; exact absurd hh (by show ¬ (0 : Int) ≤ -1; decide)
      · exact h
    · exact h
  · exact h
theorem lEnds_ok {w : Wld} {anew : Bool} {t : LSt} (h : LOk w t) : ∀ n, LOk w (lEnds w anew t n)
  | 0 => h
  | n + 1 => lEnd_ok (lEnds_ok h n)
theorem lFill_ok {w : Wld} {t : LSt} (h : LOk w t) : LOk w (lFill w t) := by
  unfold lFill
  split
  · exact h.same rfl h.b
  · exact h
theorem lDraw_ok {w : Wld} {p : Bool} {x : LSt × List Int × Bool} {c : Clm} (h : LOk w x.1) (hc : ∀ m ss, x.1.ms[c.k.toNat]? = some m → w.ms[c.k.toNat]? = some ss → m.at_ < ss.length) : LOk w (lDraw w p x c).1 := by
  unfold lDraw
  split
  · rename_i m ss hm hs
    have ho := h.m _ m ss hm hs
    split
    · split
      · rename_i s _; exact h.set (k := c.k.toNat) (m' := { m with over := x.1.beat + s.long }) hs ⟨ho.a0, ho.a1, fun _ => hc m ss hm hs⟩ rfl rfl
      · exact h
    · exact h.set (k := c.k.toNat) (m' := { m with waits := m.waits + 1 }) hs ⟨ho.a0, ho.a1, ho.o⟩ rfl rfl
  · exact h
theorem lEnd_beat {w : Wld} {anew : Bool} {t : LSt} {k : Nat} : (lEnd w anew t k).beat = t.beat := by
  unfold lEnd
  repeat' split
  all_goals rfl
theorem lEnds_beat {w : Wld} {anew : Bool} {t : LSt} : ∀ n, (lEnds w anew t n).beat = t.beat
  | 0 => rfl
  | n + 1 => by rw [lEnds, lEnd_beat, lEnds_beat n]
theorem lClaim_mem {w : Wld} {t : LSt} {k : Nat} {c : Clm} (h : c ∈ lClaim w t k) : ∃ m ss st, t.ms[k]? = some m ∧ w.ms[k]? = some ss ∧ m.over < 0 ∧ m.at_ < ss.length ∧ ss[m.at_.toNat]? = some st ∧ c = ⟨k, st.draw, m.since⟩ := by
  unfold lClaim at h
  split at h
  · rename_i m ss hm hs
    split at h
    · rename_i hc
      split at h
      · rename_i st hst
        simp at h
        exact ⟨m, ss, st, hm, hs, hc.1, hc.2, hst, h⟩
      · cases h
    · cases h
  · cases h
theorem lClaims_mem {w : Wld} {t : LSt} {c : Clm} : ∀ {n : Nat}, c ∈ lClaims w t n → ∃ j, j < n ∧ c ∈ lClaim w t j
  | 0, h => by cases h
  | n + 1, h => by
    rcases List.mem_append.mp h with h | h
    · obtain ⟨j, hj, h⟩ := lClaims_mem h
      exact ⟨j, by omega, h⟩
    · exact ⟨n, by omega, h⟩
theorem lClaims_len {w : Wld} {t : LSt} : ∀ n : Nat, (lClaims w t n).length ≤ n
  | 0 => Nat.le_refl _
  | n + 1 => by
    have := lClaims_len (w := w) (t := t) n
    have h1 : (lClaim w t n).length ≤ 1 := by
      unfold lClaim
      repeat' split
      all_goals simp
    rw [lClaims, List.length_append]
    omega
theorem lClaims_nd {w : Wld} {t : LSt} : ∀ n : Nat, ((lClaims w t n).map Clm.k).Nodup
  | 0 => List.nodup_nil
  | n + 1 => by
    rw [lClaims, List.map_append, List.nodup_append]
    refine ⟨lClaims_nd n, ?_, ?_⟩
    · have h1 : (lClaim w t n).length ≤ 1 := by
        unfold lClaim
        repeat' split
        all_goals simp
      match e : lClaim w t n, h1 with
      | [], _ => exact List.nodup_nil
      | [x], _ => simp
      | x :: y :: l, h1 => simp at h1
    · intro a ha b hb e
      obtain ⟨c, hc, rfl⟩ := List.mem_map.mp ha
      obtain ⟨c', hc', rfl⟩ := List.mem_map.mp hb
      obtain ⟨j, hj, hcj⟩ := lClaims_mem hc
      obtain ⟨_, _, _, _, _, _, _, _, rfl⟩ := lClaim_mem hcj
      obtain ⟨_, _, _, _, _, _, _, _, rfl⟩ := lClaim_mem hc'
      simp at e
      omega
/-- where each machine is, is left by a draw as it was -/
def SameAt (T X : LSt) : Prop := X.beat = T.beat ∧ ∀ k : Nat, (X.ms[k]?).map Mac.at_ = (T.ms[k]?).map Mac.at_
theorem SameAt.set {T X X' : LSt} (h : SameAt T X) {k : Nat} {m m' : Mac} (hm : X.ms[k]? = some m) (e : X'.ms = X.ms.set k m') (ea : m'.at_ = m.at_) (eb : X'.beat = X.beat) : SameAt T X' := by
  refine ⟨eb.trans h.1, fun j => ?_⟩
  rw [← h.2 j, e, List.getElem?_set]
  by_cases c : k = j
  · subst c
    rw [if_pos rfl, if_pos (List.getElem?_eq_some_iff.mp hm).1, hm]
    show some m'.at_ = some m.at_
    rw [ea]
  · rw [if_neg c]
end Obr
namespace Obr
open PySem L2 PySem.Spec PyProof.Rows
/-! ### objects: fields, methods, making -/
section
variable {S : Type} {J : S → Hp → Hp → Prop} {K : PySem.W.Frag} {σ : L2.St} {s : S} {F : Hp} {R : V → S → Hp → Prop} {ta tv : TE} {tr : TA} {D : En S} {f : Str} {A : List V → Hp → VK → Prop} {E : XK} {C : Addr} {m : Str}
theorem ew_fld (hd : Hid J) (h : EW J ta σ s F fun x s1 F1 => ∃ a C dx fs v, x = .ref a ∧ F1 a = some (.ins C dx fs) ∧ Cls K C ∧ NoAttr K C f ∧ fs.lookup f = some v ∧ R v s1 F1) : EW J (tFld K ta f) σ s F R := fun H j Q q =>
  h H j _ fun x s1 F1 H1 j1 ⟨a, C, dx, fs, v, e, hf, c, n, l, k⟩ => ⟨a, C, dx, fs, v, e, hd.ex j1 _ _ hf, c, n, l, q _ _ _ _ j1 k⟩
theorem sw_fld (hd : Hid J) (h : EW J tv σ s F fun y s1 F1 => EW J ta σ s1 F1 fun x s2 F2 => ∃ a C dx fs, x = .ref a ∧ F2 a = some (.ins C dx fs) ∧ Cls K C ∧ NoAttr K C f ∧ fs.length < 1000 ∧ D.nx σ s2 (upd F2 a (.ins C dx (putF f y fs)))) :
    SW J (sFld K ta tv f) D σ s F := fun H j D' l =>
  h H j _ fun y s1 F1 H1 j1 h1 => h1 H1 j1 _ fun x s2 F2 H2 j2 ⟨a, C, dx, fs, e, hf, c, n, lf, k⟩ => ⟨a, C, dx, fs, e, hd.ex j2 _ _ hf, c, n, lf, l.nx _ _ _ _ (hd.mu j2 hf) k⟩
theorem sw_fldaugI (hd : Hid J) {g : Int → Int → Int} {rd : V → V → Hp → VK → Prop} (hrd : rd = fun x y H Q => ∃ i j, x = .int i ∧ y = .int j ∧ Q (.int (g i j)) H)
    (h : EW J ta σ s F fun x s1 F1 => ∃ a C dx fs i, x = .ref a ∧ F1 a = some (.ins C dx fs) ∧ Cls K C ∧ NoAttr K C f ∧ fs.lookup f = some (.int i) ∧ EW J tv σ s1 F1 fun y s2 F2 => ∃ j dx' fs', y = .int j ∧ F2 a = some (.ins C dx' fs') ∧ fs'.length < 1000 ∧ D.nx σ s2 (upd F2 a (.ins C dx' (putF f (.int (g i j)) fs')))) :
    SW J (sFldAug K ta tv rd f) D σ s F := fun H j D' l => by
  subst hrd
  exact h H j _ fun x s1 F1 H1 j1 ⟨a, C, dx, fs, i, e, hf, c, n, lk, h2⟩ => ⟨a, C, dx, fs, .int i, e, hd.ex j1 _ _ hf, c, n, lk, h2 H1 j1 _ fun y s2 F2 H2 j2 ⟨jj, dx', fs', ey, hf2, lf, k⟩ =>
    ⟨i, jj, rfl, ey, dx', fs', hd.ex j2 _ _ hf2, lf, l.nx _ _ _ _ (hd.mu j2 hf2) k⟩⟩
theorem ew_meth (hd : Hid J) (h : EW J ta σ s F fun x s1 F1 => ∃ a dx fs, x = .ref a ∧ F1 a = some (.ins C dx fs) ∧ fs.lookup m = none ∧ AW J tr σ s1 F1 fun vs s2 F2 => A (x :: vs) F2 fun v F' => R v s2 F') :
    EW J (tMeth C m (LS A) [] E ta tr) σ s F R := fun H j Q q =>
  h H j _ fun x s1 F1 H1 j1 ⟨a, dx, fs, e, hf, hm, h2⟩ => ⟨a, dx, fs, e, hd.ex j1 _ _ hf, hm, h2 H1 j1 _ fun vs s2 F2 H2 j2 k => by
    show LS A (x :: (vs ++ [])) H2 Q E
    rw [List.append_nil]
    exact ⟨_, F2, _, hd.unit s2, j2, k, fun v F' H' j' r => q v s2 F' H' j' r⟩⟩
theorem ew_make (hd : Hid J) (h : AW J tr σ s F fun vs s1 F1 => ∀ x dx, F1 x = none → F1 dx = none → dx ≠ x → A (.ref x :: vs) (upd (upd F1 dx (.own x)) x (.ins C dx [])) fun v F' => v = .non ∧ R (.ref x) s1 F') : EW J (tMake C (LS A) [] E tr) σ s F R := fun H j Q q =>
  h H j _ fun vs s1 F1 H1 j1 k x dx hx hdx hne => by
    show LS A (.ref x :: (vs ++ [])) _ _ E
    rw [List.append_nil]
    have j2 : J s1 (upd F1 dx (.own x)) (upd H1 dx (.own x)) := hd.al j1 hdx
    have hx2 : upd H1 dx (.own x) x = none := by rw [upd_ne hne.symm]; exact hx
    exact ⟨_, _, _, hd.unit s1, hd.al j2 hx2, k x dx (hd.fresh j1 hx) (hd.fresh j1 hdx) hne, fun v F' H' j' r => ⟨r.1, q _ s1 F' H' j' r.2⟩⟩
end
/-! ### fields by places -/
theorem lookup_nd : ∀ {fs : List (Str × V)} {i : Nat} {k : Str} {v : V}, (fs.map (·.1)).Nodup → fs[i]? = some (k, v) → fs.lookup k = some v
  | [], _, _, _, _, h => by simp at h
  | (k0, v0) :: r, 0, k, v, _, h => by
    simp at h
    rw [← h.1, ← h.2]
    exact List.lookup_cons_self
  | (k0, v0) :: r, i + 1, k, v, hn, h => by
    rw [List.map_cons, List.nodup_cons] at hn
    simp only [List.getElem?_cons_succ] at h
    have : k ≠ k0 := fun e => hn.1 (by rw [← e]; exact List.mem_map.mpr ⟨(k, v), List.mem_of_getElem? h, rfl⟩)
    rw [List.lookup_cons]
    rw [beq_eq_false_iff_ne.mpr this]
    exact lookup_nd hn.2 h
theorem lookup_out : ∀ {fs : List (Str × V)} {k : Str}, k ∉ fs.map (·.1) → fs.lookup k = none
  | [], _, _ => rfl
  | (k0, v0) :: r, k, h => by
    simp only [List.map_cons, List.mem_cons, not_or] at h
    rw [List.lookup_cons, beq_eq_false_iff_ne.mpr h.1]
    exact lookup_out h.2
theorem putF_nd : ∀ {fs : List (Str × V)} {i : Nat} {k : Str} {v v0 : V}, (fs.map (·.1)).Nodup → fs[i]? = some (k, v0) → putF k v fs = fs.set i (k, v)
  | [], _, _, _, _, _, h => by simp at h
  | (k0, v1) :: r, 0, k, v, v0, hn, h => by
    simp at h
    show (if k0 = k then (k0, v) :: r else (k0, v1) :: putF k v r) = _
    rw [if_pos h.1, h.1]
    rfl
  | (k0, v1) :: r, i + 1, k, v, v0, hn, h => by
    rw [List.map_cons, List.nodup_cons] at hn
    simp only [List.getElem?_cons_succ] at h
    have : k0 ≠ k := fun e => hn.1 (by rw [e]; exact List.mem_map.mpr ⟨(k, v0), List.mem_of_getElem? h, rfl⟩)
    show (if k0 = k then (k0, v) :: r else (k0, v1) :: putF k v r) = _
    rw [if_neg this, putF_nd hn.2 h]
    rfl
theorem putF_out : ∀ {fs : List (Str × V)} {k : Str} {v : V}, k ∉ fs.map (·.1) → putF k v fs = fs ++ [(k, v)]
  | [], _, _, _ => rfl
  | (k0, v0) :: r, k, v, h => by
    simp only [List.map_cons, List.mem_cons, not_or] at h
    show (if k0 = k then (k0, v) :: r else (k0, v0) :: putF k v r) = _
    rw [if_neg (fun e => h.1 e.symm), putF_out h.2]
    rfl
/-- a class whose objects have these fields, none of them a name of the class -/
structure ClsF (K : PySem.W.Frag) (C : Addr) (ns : List Str) : Prop where
  cl : Cls K C
  no : ∀ f ∈ ns, NoAttr K C f
/-- a method -/
structure Met (K : PySem.W.Frag) (C : Addr) (m : Str) (f : Addr) (fd : FuncData) (ps : List Str) : Prop where
  cl : Cls K C
  m : Meth K C m f
  a : Binds K fd ps []
/-! ### the program's machines -/
def ovV (i : Int) : V := if i < 0 then .non else .int i
def mkeys : List Str := ["number", "steps", "at", "over", "since", "paused"]
theorem mkeys_nd : mkeys.Nodup := by decide +kernel
def mfs (n : Int) (sv : V) (m : Mac) : List (Str × V) := [("number", .int n), ("steps", sv), ("at", .int m.at_), ("over", ovV m.over), ("since", .int m.since), ("paused", .bl false)]
theorem mfs_nd (n : Int) (sv : V) (m : Mac) : ((mfs n sv m).map (·.1)).Nodup := mkeys_nd
def rkeys : List Str := ["cap", "have", "refill", "anew", "beat", "machines", "right", "passing", "last"]
theorem rkeys_nd : rkeys.Nodup := by decide +kernel
structure MAd where
  a : Addr
  dx : Addr
  sv : V
structure RAd where
  a : Addr
  dx : Addr
  ml : Addr
  C : Addr
  M : Addr
  mads : List MAd
/-- of a shop (sh) the first six, of a run all nine -/
def rfsS (sh : Bool) (A : RAd) (t : LSt) (w : Wld) (r : Rgt) (p anew : Bool) : List (Str × V) := ("cap", V.int w.cap) :: ("have", V.int t.level) :: ("refill", V.int w.refill) :: ("anew", V.bl anew) :: ("beat", V.int t.beat) :: ("machines", V.ref A.ml) :: (match sh with | true => [] | false => [("right", V.str (rgtS r)), ("passing", V.bl p), ("last", ovV t.last)])
abbrev rfs (A : RAd) (t : LSt) (w : Wld) (r : Rgt) (p anew : Bool) : List (Str × V) := rfsS false A t w r p anew
theorem rfs_nd {sh : Bool} (A : RAd) (t : LSt) (w : Wld) (r : Rgt) (p anew : Bool) : ((rfsS sh A t w r p anew).map (·.1)).Nodup := by
  cases sh with
  | false => exact rkeys_nd
  | true => exact (show (rkeys.take 6).Nodup by decide +kernel)
theorem rfs_lt {sh : Bool} {A : RAd} {t : LSt} {w : Wld} {r : Rgt} {p anew : Bool} : (rfsS sh A t w r p anew).length < 1000 := by
  cases sh with
  | false => exact Nat.lt_of_le_of_lt (Nat.le_of_ble_eq_true (m := 9) rfl) (by decide)
  | true => exact Nat.lt_of_le_of_lt (Nat.le_of_ble_eq_true (m := 9) rfl) (by decide)
theorem rfs_no {sh : Bool} {A : RAd} {t : LSt} {w : Wld} {r : Rgt} {p anew : Bool} {f : Str} (h : f ∉ rkeys) : (rfsS sh A t w r p anew).lookup f = none := by
  cases sh with
  | false => exact lookup_out h
  | true => exact lookup_out (fun z => h (List.mem_of_mem_take (i := 6) z))
def mcell (M : Addr) (n : Nat) (ad : MAd) (m : Mac) : Addr × HO := (ad.a, .ins M ad.dx (mfs n ad.sv m))
def mcells (M : Addr) : Nat → List MAd → List Mac → List (Addr × HO)
  | n, ad :: as, m :: ms => mcell M n ad m :: mcells M (n + 1) as ms
  | _, _, _ => []
theorem mcells_get {M : Addr} : ∀ {k n : Nat} {as : List MAd} {ms : List Mac} {ad : MAd} {m : Mac}, as[k]? = some ad → ms[k]? = some m → (mcells M n as ms)[k]? = some (mcell M (n + k) ad m)
  | _, _, [], _, _, _, h, _ => by simp at h
  | _, _, _ :: _, [], _, _, _, h => by simp at h
  | 0, n, a :: as, b :: ms, ad, m, h1, h2 => by
    simp at h1 h2
    subst h1 h2
    rfl
  | k + 1, n, a :: as, b :: ms, ad, m, h1, h2 => by
    simp only [List.getElem?_cons_succ] at h1 h2
    have := mcells_get (M := M) (n := n + 1) h1 h2
    rw [show n + 1 + k = n + (k + 1) from by omega] at this
    exact this
theorem mcells_set {M : Addr} : ∀ {k n : Nat} {as : List MAd} {ms : List Mac} {ad : MAd} {m' : Mac}, as[k]? = some ad → (mcells M n as ms).set k (mcell M (n + k) ad m') = mcells M n as (ms.set k m')
  | _, _, [], _, _, _, h => by simp at h
  | _, _, _ :: _, [], _, _, _ => by simp [mcells]
  | 0, n, a :: as, b :: ms, ad, m', h1 => by
    simp at h1
    subst h1
    rfl
  | k + 1, n, a :: as, b :: ms, ad, m', h1 => by
    simp only [List.getElem?_cons_succ] at h1
    have := mcells_set (M := M) (n := n + 1) (ms := ms) (m' := m') h1
    rw [show n + 1 + k = n + (k + 1) from by omega] at this
    show mcell M n a b :: (mcells M (n + 1) as ms).set k _ = _
    rw [this]
    rfl
/-- of a machine what the program keeps -/
def mcore (m : Mac) : Int × Int × Int := (m.at_, m.over, m.since)
theorem mcell_core {M : Addr} {n : Nat} {ad : MAd} {m m' : Mac} (e : mcore m = mcore m') : mcell M n ad m = mcell M n ad m' := by
  unfold mcore at e
  simp only [Prod.mk.injEq] at e
  unfold mcell mfs
  rw [e.1, e.2.1, e.2.2]
theorem mcells_core {M : Addr} : ∀ {n : Nat} {as : List MAd} {ms ms' : List Mac}, ms.map mcore = ms'.map mcore → mcells M n as ms = mcells M n as ms'
  | _, [], _, _, _ => rfl
  | _, _ :: _, [], [], _ => rfl
  | _, _ :: _, [], _ :: _, h => by simp at h
  | _, _ :: _, _ :: _, [], h => by simp at h
  | n, a :: as, m :: ms, m' :: ms', h => by
    simp only [List.map_cons, List.cons.injEq] at h
    show mcell M n a m :: _ = mcell M n a m' :: _
    rw [mcell_core h.1, mcells_core h.2]
structure SAt (sh : Bool) (K : PySem.W.Frag) (F0 F : Hp) (A : RAd) (t : LSt) (w : Wld) (r : Rgt) (p anew : Bool) (ex : List (Addr × HO)) : Prop where
  own : Own F0 F ((A.a, .ins A.C A.dx (rfsS sh A t w r p anew)) :: (mcells A.M 0 A.mads t.ms ++ ex))
  ml : F0 A.ml = some (.lst (A.mads.map fun ad => .ref ad.a))
  st : ∀ (k : Nat) (ad : MAd) (ss : List Stp), A.mads[k]? = some ad → w.ms[k]? = some ss → Dp K F0 ad.sv (macD ss)
  len1 : A.mads.length = w.ms.length
  len2 : t.ms.length = w.ms.length
abbrev RunAt (K : PySem.W.Frag) (F0 F : Hp) (A : RAd) (t : LSt) (w : Wld) (r : Rgt) (p anew : Bool) (ex : List (Addr × HO)) : Prop := SAt false K F0 F A t w r p anew ex
section
variable {sh : Bool} {S : Type} {J : S → Hp → Hp → Prop} {K : PySem.W.Frag} {σ : L2.St} {s : S} {F0 F : Hp} {A : RAd} {t : LSt} {w : Wld} {r : Rgt} {p anew : Bool} {ex : List (Addr × HO)} {D : L2.St → S → Hp → Prop}
theorem SAt.cell (h : SAt sh K F0 F A t w r p anew ex) : F A.a = some (.ins A.C A.dx (rfsS sh A t w r p anew)) := h.own.get (i := 0) rfl
theorem SAt.mac (h : SAt sh K F0 F A t w r p anew ex) {k : Nat} {ad : MAd} {m : Mac} (h1 : A.mads[k]? = some ad) (h2 : t.ms[k]? = some m) : F ad.a = some (.ins A.M ad.dx (mfs k ad.sv m)) := by
  have h3 := mcells_get (M := A.M) (n := 0) h1 h2
  rw [Nat.zero_add] at h3
  have hk : k < (mcells A.M 0 A.mads t.ms).length := (List.getElem?_eq_some_iff.mp h3).1
  exact h.own.get (i := k + 1) (by rw [List.getElem?_cons_succ, List.getElem?_append_left hk]; exact h3)
/-- the run's own fields are put anew -/
theorem SAt.put (h : SAt sh K F0 F A t w r p anew ex) {t' : LSt} (e : t'.ms = t.ms) : SAt sh K F0 (upd F A.a (.ins A.C A.dx (rfsS sh A t' w r p anew))) A t' w r p anew ex :=
  ⟨by rw [e]; exact h.own.set (i := 0) (a := A.a) (o' := .ins A.C A.dx (rfsS sh A t' w r p anew)) rfl, h.ml, h.st, h.len1, by rw [e]; exact h.len2⟩
/-- a machine's fields are put anew -/
theorem SAt.mput (h : SAt sh K F0 F A t w r p anew ex) {k : Nat} {ad : MAd} {m m' : Mac} (h1 : A.mads[k]? = some ad) (h2 : t.ms[k]? = some m) {t' : LSt} (e : t'.ms = t.ms.set k m') (er : rfsS sh A t' w r p anew = rfsS sh A t w r p anew) :
    SAt sh K F0 (upd F ad.a (.ins A.M ad.dx (mfs k ad.sv m'))) A t' w r p anew ex := by
  have h3 := mcells_get (M := A.M) (n := 0) h1 h2
  rw [Nat.zero_add] at h3
  have hk : k < (mcells A.M 0 A.mads t.ms).length := (List.getElem?_eq_some_iff.mp h3).1
  have o := h.own.set (i := k + 1) (a := ad.a) (o := .ins A.M ad.dx (mfs k ad.sv m)) (o' := .ins A.M ad.dx (mfs k ad.sv m')) (by rw [List.getElem?_cons_succ, List.getElem?_append_left hk]; exact h3)
  have h4 := mcells_set (M := A.M) (n := 0) (ms := t.ms) (m' := m') h1
  rw [Nat.zero_add] at h4
  refine ⟨?_, h.ml, h.st, h.len1, by rw [e, List.length_set]; exact h.len2⟩
  rw [e, ← h4, er]
  rw [List.set_cons_succ, List.set_append_left _ _ hk] at o
  exact o
theorem SAt.same (h : SAt sh K F0 F A t w r p anew ex) {t' : LSt} (e1 : t'.ms.map mcore = t.ms.map mcore) (e2 : t'.level = t.level) (e3 : t'.last = t.last) (e4 : t'.beat = t.beat) : SAt sh K F0 F A t' w r p anew ex :=
  ⟨by rw [mcells_core e1]; unfold rfsS; rw [e2, e3, e4]; exact h.own, h.ml, h.st, h.len1, by have := congrArg List.length e1; simp at this; rw [this]; exact h.len2⟩
theorem SAt.new (h : SAt sh K F0 F A t w r p anew ex) {a : Addr} {o : HO} (ha : F a = none) : SAt sh K (upd F0 a o) (upd F a o) A t w r p anew ex :=
  have h0 := h.own.ex.free ha
  ⟨h.own.new ha, by rw [upd_ne (ne_of_none h.ml h0)]; exact h.ml, fun k ad ss h1 h2 => dp_ex (Ex.new (.refl _) h0) (h.st k ad ss h1 h2), h.len1, h.len2⟩
theorem SAt.new' (h : SAt sh K F0 F A t w r p anew ex) {a : Addr} {o : HO} (ha : F a = none) : SAt sh K F0 (upd F a o) A t w r p anew ex := ⟨h.own.new' ha, h.ml, h.st, h.len1, h.len2⟩
theorem SAt.grow (h : SAt sh K F0 F A t w r p anew ex) {F' : Hp} (g : Ex F F') : SAt sh K F0 F' A t w r p anew ex := ⟨h.own.grow g, h.ml, h.st, h.len1, h.len2⟩
theorem run_perm {x y : Addr × HO} {l ex : List (Addr × HO)} : (x :: (l ++ y :: ex)).Perm (y :: x :: (l ++ ex)) := (List.Perm.cons x List.perm_middle).trans (List.Perm.swap y x _)
theorem SAt.more (h : SAt sh K F0 F A t w r p anew ex) {a : Addr} {o : HO} (ha : F a = none) : SAt sh K F0 (upd F a o) A t w r p anew ((a, o) :: ex) := ⟨(h.own.more ha).perm run_perm, h.ml, h.st, h.len1, h.len2⟩
theorem SAt.ex0 {a : Addr} {o : HO} {ex : List (Addr × HO)} (h : SAt sh K F0 F A t w r p anew ((a, o) :: ex)) : F a = some o := (h.own.perm run_perm.symm).get (i := 0) rfl
theorem SAt.exset {a : Addr} {o o' : HO} {ex : List (Addr × HO)} (h : SAt sh K F0 F A t w r p anew ((a, o) :: ex)) : SAt sh K F0 (upd F a o') A t w r p anew ((a, o') :: ex) :=
  ⟨((h.own.perm run_perm.symm).set (i := 0) (a := a) (o := o) (o' := o') rfl).perm run_perm, h.ml, h.st, h.len1, h.len2⟩
theorem SAt.drop {x : Addr × HO} {ex : List (Addr × HO)} (h : SAt sh K F0 F A t w r p anew (x :: ex)) : SAt sh K F0 F A t w r p anew ex := by
  have o := h.own.perm run_perm.symm
  refine ⟨⟨o.ex, fun q hq => o.out q (List.mem_cons_of_mem _ hq), fun q hq => o.at_ q (List.mem_cons_of_mem _ hq), ?_⟩, h.ml, h.st, h.len1, h.len2⟩
  have := o.nd
  rw [List.map_cons, List.nodup_cons] at this
  exact this.2
end
end Obr
namespace Obr
open PySem L2 PyProof.Rows
local macro_rules | `(tactic| walk_at "ob_at") => `(tactic| first
  | assumption
  | exact upd_same
  | (refine Eq.trans (upd_ne ?obn) ?obr; (case obn => walk_at "ob_ne"); (case obr => walk_at "ob_at")))
local macro_rules | `(tactic| walk_at "ob_ne") => `(tactic| first
  | assumption
  | (refine Ne.symm ?obs; (case obs => assumption))
  | (refine' ne_of_none (H := ?_) ?obe ?obh; (case obh => assumption); (case obe => walk_at "ob_at"))
  | (refine Ne.symm ?obs; (case obs => (refine' ne_of_none (H := ?_) ?obe ?obh; (case obh => assumption); (case obe => walk_at "ob_at")))))
local macro_rules | `(tactic| walk_at "ob_fr") => `(tactic| first
  | assumption
  | (refine Eq.trans (upd_ne ?obn) ?obr; (case obn => walk_at "ob_ne"); (case obr => walk_at "ob_fr"))
  | (refine Ex.free (G := ?_) (by assumption) ?obh; (case obh => walk_at "ob_fr")))
local macro_rules | `(tactic| walk_at "ob_ex") => `(tactic| first
  | assumption
  | exact Ex.refl _
  | (refine Ex.out ?obg ?obh; (case obh => assumption); (case obg => walk_at "ob_ex"))
  | (refine Ex.new ?obg ?obh; (case obh => assumption); (case obg => walk_at "ob_ex"))
  | (refine Ex.new ?obg ?obh; (case obh => walk_at "ob_fr"); (case obg => walk_at "ob_ex")))
local macro_rules | `(tactic| walk_at "ob_sq") => `(tactic| first
  | assumption
  | (refine SqL.of ?oba; (case oba => walk_at "ob_at"))
  | (refine Ex.sqT (F := ?_) ?obg ?obh; (case obh => assumption); (case obg => walk_at "ob_ex"))
  | (refine Ex.sqL (F := ?_) ?obg ?obh; (case obh => assumption); (case obg => walk_at "ob_ex"))
  | (refine SqT.of ?oba; (case oba => walk_at "ob_at")))
local macro_rules | `(tactic| walk_at "ob_side") => `(tactic| first | exact rfl | assumption | decide | omega | exact ⟨by decide, by decide, by decide⟩ | exact Or.inr ⟨by decide, by decide⟩ | exact Or.inl ⟨by decide, by decide⟩ | exact wide_div (b := 60) (by first | decide | omega) (by first | decide | omega) (by decide) (by decide))
local macro_rules | `(tactic| walk_at "ob1") => `(tactic| first
  | with_reducible refine sw_seq ?_
  | with_reducible refine sw_asg ?_
  | with_reducible refine sw_ret ?_
  | with_reducible refine sw_par ?_
  | with_reducible refine ⟨_, _, rfl, ?_⟩
  | with_reducible refine sw_drop ?_
  | with_reducible refine sw_if ?_
  | with_reducible refine sw_next ?_
  | with_reducible refine gw_name ?_
  | with_reducible refine gw_subL (by assumption) ?_
  | with_reducible refine gsw_cons ?_
  | with_reducible refine gsw_nil ?_
  | with_reducible refine ew_c ?_
  | ((with_reducible refine' ew_var (v := ?_) ?obv ?_); (case obv => exact rfl))
  | ((with_reducible refine ew_next (by assumption) ?obv ?_); (case obv => exact rfl))
  | ((with_reducible refine ew_world (by assumption) ?obv ?_); (case obv => exact rfl))
  | ((with_reducible refine ew_rule (by assumption) ?obv ?_); (case obv => exact rfl))
  | with_reducible refine ew_op ?_
  | with_reducible refine ew_un ?_
  | with_reducible refine ew_dget (by assumption) ?_
  | with_reducible refine uw_I ?_
  | with_reducible refine ppw_nil ?_
  | with_reducible refine ppw_cons ?_
  | with_reducible refine sw_dput (by assumption) ?_
  | with_reducible refine ew_cb ?_
  | with_reducible refine ew_if ?_
  | with_reducible refine ew_slL (by assumption) ?_
  | with_reducible refine ow_some ?_
  | with_reducible refine ow_none ?_
  | with_reducible refine aw_nil ?_
  | with_reducible refine aw_cons ?_
  | with_reducible refine rw_I0 ?_
  | ((with_reducible refine rw_I ?obc ?_); (case obc => walk_at "ob_side"))
  | with_reducible refine rw_isN ?_
  | with_reducible refine rw_notN ?_
  | ((with_reducible refine rw_eq ?obc ?_); (case obc => exact rfl))
  | ((with_reducible refine rw_ne ?obc ?_); (case obc => exact rfl))
  | with_reducible refine cw_max2 ?_
  | with_reducible refine cw_min2 ?_
  | with_reducible refine tw_test ?_
  | with_reducible refine tw_B ?_
  | with_reducible refine tw_not ?_
  | with_reducible refine tw_truB ?_
  | with_reducible refine tw_and ?_
  | with_reducible refine tw_or ?_
  | with_reducible refine ew_and ?_
  | (refine' Exists.intro _ (And.intro (show V.bl _ = V.bl _ from rfl) ?_))
  | (refine' Exists.intro _ (And.intro (show V.int _ = V.int _ from rfl) ?_))
  | ((with_reducible refine' rw_ixL (v := ?_) (xs := ?_) (by assumption) ?obl ?oba ?_); (case obl => walk_at "ob_sq"); (case oba => first | exact rfl | exact at_zero))
  | ((with_reducible refine' rw_ixT (v := ?_) (xs := ?_) (by assumption) ?obl ?oba ?_); (case obl => walk_at "ob_sq"); (case oba => first | exact rfl | exact at_zero))
  | ((with_reducible refine' ew_lst (by assumption) ?_))
  | ((with_reducible refine' ew_tup (by assumption) ?_)))
local macro_rules | `(tactic| walk_at "ob_len") => `(tactic| first | exact Nat.le_of_ble_eq_true rfl | (simp; done) | omega)
local macro_rules | `(tactic| walk_at "ob") => `(tactic| repeat walk_at "ob1")

/-! ### Machine -/
theorem dec_vint (a b : Int) : decide (V.int a = V.int b) = decide (a = b) := by
  by_cases h : a = b
  · rw [h]; simp
  · rw [decide_eq_false h, decide_eq_false (fun e => h (by injection e))]
theorem ovV_non (i : Int) : (!decide (ovV i = V.non)) = decide (0 ≤ i) := by
  unfold ovV
  by_cases h : i < 0
  · rw [if_pos h, decide_eq_false (by omega : ¬ 0 ≤ i)]; rfl
  · rw [if_neg h, decide_eq_true (by omega : 0 ≤ i)]; rfl
def mac0 (b : Int) : Mac := ⟨0, -1, b, 0, 0, none⟩
def aMInitC (M : Addr) : List V → Hp → VK → Prop := fun vs F R => ∃ (a dx : Addr) (n b : Int) (sv : V), vs = [.ref a, .int n, sv, .int b] ∧ F a = some (.ins M dx []) ∧ R .non (upd F a (.ins M dx (mfs n sv (mac0 b))))
/-- the machine at a -/
structure MObj (K : PySem.W.Frag) (F0 F : Hp) (a M dx : Addr) (n : Int) (sv : V) (ss : List Stp) (m : Mac) : Prop where
  at_ : F a = some (.ins M dx (mfs n sv m))
  ex : Ex F0 F
  st : Dp K F0 sv (macD ss)
def aDone (K : PySem.W.Frag) (M : Addr) : List V → Hp → VK → Prop := fun vs F R => ∃ (F0 : Hp) (a dx : Addr) (n : Int) (sv : V) (ss : List Stp) (m : Mac), vs = [.ref a] ∧ MObj K F0 F a M dx n sv ss m ∧ R (.bl (decide (m.at_ = (ss.length : Int)))) F
def aBusy (K : PySem.W.Frag) (M : Addr) : List V → Hp → VK → Prop := fun vs F R => ∃ (F0 : Hp) (a dx : Addr) (n : Int) (sv : V) (ss : List Stp) (m : Mac), vs = [.ref a] ∧ MObj K F0 F a M dx n sv ss m ∧ R (.bl (decide (0 ≤ m.over))) F
def aWaiting (K : PySem.W.Frag) (M : Addr) : List V → Hp → VK → Prop := fun vs F R => ∃ (F0 : Hp) (a dx : Addr) (n : Int) (sv : V) (ss : List Stp) (m : Mac), vs = [.ref a] ∧ MObj K F0 F a M dx n sv ss m ∧ R (.bl (decide (m.over < 0 ∧ m.at_ ≠ (ss.length : Int)))) F
def leftV (m : Mac) (b : Int) : V := if 0 ≤ m.over then .int (m.over - b) else .non
def aLeft (K : PySem.W.Frag) (M : Addr) : List V → Hp → VK → Prop := fun vs F R => ∃ (F0 : Hp) (a dx : Addr) (n : Int) (sv : V) (ss : List Stp) (m : Mac) (b : Int), vs = [.ref a, .int b] ∧ MObj K F0 F a M dx n sv ss m ∧ R (leftV m b) F
def aNeed (K : PySem.W.Frag) (M : Addr) : List V → Hp → VK → Prop := fun vs F R => ∃ (F0 : Hp) (a dx : Addr) (n : Int) (sv : V) (ss : List Stp) (m : Mac) (st : Stp), vs = [.ref a] ∧ MObj K F0 F a M dx n sv ss m ∧ 0 ≤ m.at_ ∧ ss[m.at_.toNat]? = some st ∧ R (.int st.draw) F
def aBegin (K : PySem.W.Frag) (M : Addr) : List V → Hp → VK → Prop := fun vs F R => ∃ (F0 : Hp) (a dx : Addr) (n : Int) (sv : V) (ss : List Stp) (m : Mac) (st : Stp) (b : Int), vs = [.ref a, .int b] ∧ MObj K F0 F a M dx n sv ss m ∧ 0 ≤ m.at_ ∧ ss[m.at_.toNat]? = some st ∧ 0 ≤ b + st.long ∧
  R .non (upd F a (.ins M dx (mfs n sv { m with over := b + st.long })))
def aEndS (K : PySem.W.Frag) (M : Addr) : List V → Hp → VK → Prop := fun vs F R => ∃ (F0 : Hp) (a dx : Addr) (n : Int) (sv : V) (ss : List Stp) (m : Mac) (st : Stp) (b : Int), vs = [.ref a, .int b] ∧ MObj K F0 F a M dx n sv ss m ∧ 0 ≤ m.at_ ∧ ss[m.at_.toNat]? = some st ∧
  R (.int st.back) (upd F a (.ins M dx (mfs n sv { m with at_ := m.at_ + 1, over := -1, since := b })))
def aAnew (K : PySem.W.Frag) (M : Addr) : List V → Hp → VK → Prop := fun vs F R => ∃ (F0 : Hp) (a dx : Addr) (n : Int) (sv : V) (ss : List Stp) (m : Mac), vs = [.ref a] ∧ MObj K F0 F a M dx n sv ss m ∧ R .non (upd F a (.ins M dx (mfs n sv { m with at_ := 0 })))
section
variable {P : Program} {w : World} {K : PySem.W.Frag} {mg : Str → Option Value} {base : Heap} {M : Addr}
theorem in_addR : (rAdd : V → V → Hp → VK → Prop) = fun x y H Q => ∃ i j, x = .int i ∧ y = .int j ∧ Q (.int (i + j)) H := rfl
theorem mfs_no {n : Int} {sv : V} {m : Mac} {f : Str} (h : f ∉ mkeys) : (mfs n sv m).lookup f = none := lookup_out h

abbrev s_Machine__dot__is_done : Stmt := inClass (top 33) 1
def N_Machine_is_done : List Str := ["self"]
theorem sc_Machine_is_done : FnScope N_Machine_is_done ["self"] (defScope s_Machine__dot__is_done) := ⟨rfl, rfl, rfl, by decide +kernel, rfl, by decide +kernel, by decide +kernel⟩
theorem ok_Machine_is_done {f : Addr} {fd : FuncData}  (Fn : Fun K "is_done" "Machine.is_done" s_Machine__dot__is_done f fd) (B : Blt mg) (HM : ClsF K M mkeys) : FnOk P w K mg base CX0 1 f fd ["self"] (LS (aDone K M)) := by
  refine Fn.ok sc_Machine_is_done (fun vs H Q E h => ?_) (fun cdv A outer s H vs Q E hr h => ?_)
  · obtain ⟨J, F, R, hd, j, h, _⟩ := h
    obtain ⟨F0, a, dx, n, sv, ss, m, rfl, _⟩ := h
    rfl
  · have nd := sc_Machine_is_done.nd
    obtain ⟨J, F, R, hd, j, h, q⟩ := h
    obtain ⟨F0, a, dx, n, sv, ss, m, rfl, ho, k⟩ := h
    refine ⟨_, (pss_one (ps_ret (pe_cmpR op_eq (pe_fld (pv 0) rfl) (pe_callB call_len_seq (by rfl) B.len (by decide +kernel) (pa_cons (pe_fld (pv 0) rfl) pa_nil)) (nomark _)))), ?_⟩
    refine LS.body j q ?_
    walk_at "ob"
    refine ew_fld hd ?_
    walk_at "ob"
    refine ⟨a, M, dx, mfs n sv m, _, rfl, ho.at_, HM.cl, HM.no _ (by decide +kernel), lookup_nd (i := 2) (mfs_nd n sv m) rfl, ?_⟩
    walk_at "ob"
    refine ew_fld hd ?_
    walk_at "ob"
    refine ⟨a, M, dx, mfs n sv m, _, rfl, ho.at_, HM.cl, HM.no _ (by decide +kernel), lookup_nd (i := 1) (mfs_nd n sv m) rfl, ?_⟩
    obtain ⟨va, xs, rfl, lx, dx2⟩ := dp_tup ho.st
    walk_at "ob"
    refine cw_lenS hd (Or.inr (ho.ex.sqT lx)) ?_
    have e : xs.length = ss.length := by have := dps_len dx2; simpa using this
    rw [e]
    walk_at "ob"
    rw [dec_vint]
    exact k

abbrev s_Machine__dot__is_busy : Stmt := inClass (top 33) 2
def N_Machine_is_busy : List Str := ["self"]
theorem sc_Machine_is_busy : FnScope N_Machine_is_busy ["self"] (defScope s_Machine__dot__is_busy) := ⟨rfl, rfl, rfl, by decide +kernel, rfl, by decide +kernel, by decide +kernel⟩
theorem ok_Machine_is_busy {f : Addr} {fd : FuncData}  (Fn : Fun K "is_busy" "Machine.is_busy" s_Machine__dot__is_busy f fd) (B : Blt mg) (HM : ClsF K M mkeys) : FnOk P w K mg base CX0 1 f fd ["self"] (LS (aBusy K M)) := by
  refine Fn.ok sc_Machine_is_busy (fun vs H Q E h => ?_) (fun cdv A outer s H vs Q E hr h => ?_)
  · obtain ⟨J, F, R, hd, j, h, _⟩ := h
    obtain ⟨F0, a, dx, n, sv, ss, m, rfl, _⟩ := h
    rfl
  · have nd := sc_Machine_is_busy.nd
    obtain ⟨J, F, R, hd, j, h, q⟩ := h
    obtain ⟨F0, a, dx, n, sv, ss, m, rfl, ho, k⟩ := h
    refine ⟨_, (pss_one (ps_ret (pe_cmpR op_notN (pe_fld (pv 0) rfl) pe_non (nomark _)))), ?_⟩
    refine LS.body j q ?_
    walk_at "ob"
    refine ew_fld hd ?_
    walk_at "ob"
    refine ⟨a, M, dx, mfs n sv m, _, rfl, ho.at_, HM.cl, HM.no _ (by decide +kernel), lookup_nd (i := 3) (mfs_nd n sv m) rfl, ?_⟩
    walk_at "ob"
    rw [ovV_non]
    exact k

abbrev s_Machine__dot__is_waiting : Stmt := inClass (top 33) 3
def N_Machine_is_waiting : List Str := ["self"]
theorem sc_Machine_is_waiting : FnScope N_Machine_is_waiting ["self"] (defScope s_Machine__dot__is_waiting) := ⟨rfl, rfl, rfl, by decide +kernel, rfl, by decide +kernel, by decide +kernel⟩
theorem ok_Machine_is_waiting {f : Addr} {fd : FuncData} {f1 f2 : Addr} {fd1 fd2 : FuncData} (Fn : Fun K "is_waiting" "Machine.is_waiting" s_Machine__dot__is_waiting f fd) (B : Blt mg) (HM : ClsF K M mkeys) (M_is_busy : Met K M "is_busy" f1 fd1 ["self"]) (G_is_busy : FnOk P w K mg base CX0 1 f1 fd1 ["self"] (LS (aBusy K M))) (M_is_done : Met K M "is_done" f2 fd2 ["self"]) (G_is_done : FnOk P w K mg base CX0 1 f2 fd2 ["self"] (LS (aDone K M))) : FnOk P w K mg base CX0 2 f fd ["self"] (LS (aWaiting K M)) := by
  refine Fn.ok sc_Machine_is_waiting (fun vs H Q E h => ?_) (fun cdv A outer s H vs Q E hr h => ?_)
  · obtain ⟨J, F, R, hd, j, h, _⟩ := h
    obtain ⟨F0, a, dx, n, sv, ss, m, rfl, _⟩ := h
    rfl
  · have nd := sc_Machine_is_waiting.nd
    obtain ⟨J, F, R, hd, j, h, q⟩ := h
    obtain ⟨F0, a, dx, n, sv, ss, m, rfl, ho, k⟩ := h
    refine ⟨_, (pss_one (ps_ret (pe_not (pe_or (pe_meth0 (pv 0) M_is_busy.cl M_is_busy.m G_is_busy (by exact hr.mono (by decide)) M_is_busy.a .nil pass0) (pe_or (pe_meth0 (pv 0) M_is_done.cl M_is_done.m G_is_done (by exact hr.mono (by decide)) M_is_done.a .nil pass0) (pe_one (pe_fld (pv 0) rfl))))))), ?_⟩
    refine LS.body j q ?_
    refine sw_ret (ew_not (ew_or (ew_meth hd ?_)))
    walk_at "ob"
    refine ⟨a, dx, _, rfl, ho.at_, mfs_no (by decide +kernel), aw_nil ⟨F0, a, dx, n, sv, ss, m, rfl, ho, ?_⟩⟩
    refine ⟨_, rfl, fun hb => ?_, fun hb => ?_⟩
    · have hb1 := of_decide_eq_true hb
      have e : (!true) = decide (m.over < 0 ∧ m.at_ ≠ (ss.length : Int)) := by rw [decide_eq_false (fun h => by omega)]; rfl
      refine ⟨_, rfl, ?_⟩
      rw [e]
      exact k
    · have hb1 : m.over < 0 := by have := of_decide_eq_false hb; omega
      refine ew_or (ew_meth hd ?_)
      walk_at "ob"
      refine ⟨a, dx, _, rfl, ho.at_, mfs_no (by decide +kernel), aw_nil ⟨F0, a, dx, n, sv, ss, m, rfl, ho, ?_⟩⟩
      refine ⟨_, rfl, fun hc => ?_, fun hc => ?_⟩
      · have hc1 := of_decide_eq_true hc
        have e : (!true) = decide (m.over < 0 ∧ m.at_ ≠ (ss.length : Int)) := by rw [decide_eq_false (fun h => h.2 hc1)]; rfl
        refine ⟨_, rfl, ?_⟩
        rw [e]
        exact k
      · have hc1 := of_decide_eq_false hc
        have e : (!false) = decide (m.over < 0 ∧ m.at_ ≠ (ss.length : Int)) := by rw [decide_eq_true ⟨hb1, hc1⟩]; rfl
        refine ew_fld hd ?_
        walk_at "ob"
        refine ⟨a, M, dx, mfs n sv m, _, rfl, ho.at_, HM.cl, HM.no _ (by decide +kernel), lookup_nd (i := 5) (mfs_nd n sv m) rfl, ?_⟩
        refine ⟨_, rfl, ?_⟩
        rw [e]
        exact k

abbrev s_Machine__dot__left : Stmt := inClass (top 33) 5
def N_Machine_left : List Str := ["self", "beat"]
theorem sc_Machine_left : FnScope N_Machine_left ["self", "beat"] (defScope s_Machine__dot__left) := ⟨rfl, rfl, rfl, by decide +kernel, rfl, by decide +kernel, by decide +kernel⟩
theorem ok_Machine_left {f : Addr} {fd : FuncData} {f1 : Addr} {fd1 : FuncData} (Fn : Fun K "left" "Machine.left" s_Machine__dot__left f fd) (B : Blt mg) (HM : ClsF K M mkeys) (M_is_busy : Met K M "is_busy" f1 fd1 ["self"]) (G_is_busy : FnOk P w K mg base CX0 1 f1 fd1 ["self"] (LS (aBusy K M))) : FnOk P w K mg base CX0 2 f fd ["self", "beat"] (LS (aLeft K M)) := by
  refine Fn.ok sc_Machine_left (fun vs H Q E h => ?_) (fun cdv A outer s H vs Q E hr h => ?_)
  · obtain ⟨J, F, R, hd, j, h, _⟩ := h
    obtain ⟨F0, a, dx, n, sv, ss, m, b, rfl, _⟩ := h
    rfl
  · have nd := sc_Machine_left.nd
    obtain ⟨J, F, R, hd, j, h, q⟩ := h
    obtain ⟨F0, a, dx, n, sv, ss, m, b, rfl, ho, k⟩ := h
    refine ⟨_, (pss_one (ps_ret (pe_ifExp (pt_val (pe_meth0 (pv 0) M_is_busy.cl M_is_busy.m G_is_busy (by exact hr.mono (by decide)) M_is_busy.a .nil pass0)) (pe_op op_sub (pe_fld (pv 0) rfl) (pv 1)) pe_non))), ?_⟩
    refine LS.body j q ?_
    refine sw_ret (ew_if (tw_B (ew_meth hd ?_)))
    walk_at "ob"
    refine ⟨a, dx, _, rfl, ho.at_, mfs_no (by decide +kernel), aw_nil ⟨F0, a, dx, n, sv, ss, m, rfl, ho, ?_⟩⟩
    refine ⟨_, rfl, fun hb => ?_, fun hb => ?_⟩
    · have hb2 := of_decide_eq_true hb
      refine ew_op (ew_fld hd ?_)
      walk_at "ob"
      refine ⟨a, M, dx, _, _, rfl, ho.at_, HM.cl, HM.no _ (by decide +kernel), lookup_nd (i := 3) (mfs_nd _ _ _) rfl, ?_⟩
      have e : ovV m.over = .int m.over := by unfold ovV; rw [if_neg (by omega)]
      rw [e]
      walk_at "ob"
      unfold leftV at k
      rw [if_pos hb2] at k
      exact k
    · have hb2 : ¬ 0 ≤ m.over := of_decide_eq_false hb
      unfold leftV at k
      rw [if_neg hb2] at k
      exact ew_c k

abbrev s_Machine__dot__need : Stmt := inClass (top 33) 4
def N_Machine_need : List Str := ["self"]
theorem sc_Machine_need : FnScope N_Machine_need ["self"] (defScope s_Machine__dot__need) := ⟨rfl, rfl, rfl, by decide +kernel, rfl, by decide +kernel, by decide +kernel⟩
theorem ok_Machine_need {f : Addr} {fd : FuncData}  (Fn : Fun K "need" "Machine.need" s_Machine__dot__need f fd) (B : Blt mg) (HM : ClsF K M mkeys) {tD : Tok} (gDRAW : mg "DRAW" = some (.int 0 tD)) : FnOk P w K mg base CX0 1 f fd ["self"] (LS (aNeed K M)) := by
  refine Fn.ok sc_Machine_need (fun vs H Q E h => ?_) (fun cdv A outer s H vs Q E hr h => ?_)
  · obtain ⟨J, F, R, hd, j, h, _⟩ := h
    obtain ⟨F0, a, dx, n, sv, ss, m, st, rfl, _⟩ := h
    rfl
  · have nd := sc_Machine_need.nd
    obtain ⟨J, F, R, hd, j, h, q⟩ := h
    obtain ⟨F0, a, dx, n, sv, ss, m, st, rfl, ho, ha0, hst, k⟩ := h
    refine ⟨_, (pss_one (ps_ret (pe_ix ix_tup (pe_ix ix_tup (pe_fld (pv 0) rfl) (pe_fld (pv 0) rfl) (fun _ _ => rfl)) (pe_glob (v := .int 0) rfl gDRAW ⟨_, rfl⟩) (fun _ _ => rfl)))), ?_⟩
    refine LS.body j q ?_
    walk_at "ob"
    refine ew_fld hd ?_
    walk_at "ob"
    refine ⟨a, M, dx, mfs n sv m, _, rfl, ho.at_, HM.cl, HM.no _ (by decide +kernel), lookup_nd (i := 1) (mfs_nd n sv m) rfl, ?_⟩
    walk_at "ob"
    refine ew_fld hd ?_
    walk_at "ob"
    refine ⟨a, M, dx, mfs n sv m, _, rfl, ho.at_, HM.cl, HM.no _ (by decide +kernel), lookup_nd (i := 2) (mfs_nd n sv m) rfl, ?_⟩
    refine r_stp hd ho.ex ho.st ha0 hst fun u du => ?_
    walk_at "ob"
    refine (r_fld hd ho.ex du).1 ?_
    exact k

abbrev s_Machine__dot__begin_step : Stmt := inClass (top 33) 6
def N_Machine_begin_step : List Str := ["self", "beat"]
theorem sc_Machine_begin_step : FnScope N_Machine_begin_step ["self", "beat"] (defScope s_Machine__dot__begin_step) := ⟨rfl, rfl, rfl, by decide +kernel, rfl, by decide +kernel, by decide +kernel⟩
theorem ok_Machine_begin_step {f : Addr} {fd : FuncData}  (Fn : Fun K "begin_step" "Machine.begin_step" s_Machine__dot__begin_step f fd) (B : Blt mg) (HM : ClsF K M mkeys) {tD : Tok} (gLONG : mg "LONG" = some (.int 1 tD)) : FnOk P w K mg base CX0 1 f fd ["self", "beat"] (LS (aBegin K M)) := by
  refine Fn.ok sc_Machine_begin_step (fun vs H Q E h => ?_) (fun cdv A outer s H vs Q E hr h => ?_)
  · obtain ⟨J, F, R, hd, j, h, _⟩ := h
    obtain ⟨F0, a, dx, n, sv, ss, m, st, b, rfl, _⟩ := h
    rfl
  · have nd := sc_Machine_begin_step.nd
    obtain ⟨J, F, R, hd, j, h, q⟩ := h
    obtain ⟨F0, a, dx, n, sv, ss, m, st, b, rfl, ho, ha0, hst, hbl, k⟩ := h
    refine ⟨_, (pss_one (ps_fld (pv 0) (pe_op op_add (pv 1) (pe_ix ix_tup (pe_ix ix_tup (pe_fld (pv 0) rfl) (pe_fld (pv 0) rfl) (fun _ _ => rfl)) (pe_glob (v := .int 1) rfl gLONG ⟨_, rfl⟩) (fun _ _ => rfl))) rfl)), ?_⟩
    refine LS.body j q ?_
    refine sw_fld hd ?_
    walk_at "ob"
    refine ew_fld hd ?_
    walk_at "ob"
    refine ⟨a, M, dx, mfs n sv m, _, rfl, ho.at_, HM.cl, HM.no _ (by decide +kernel), lookup_nd (i := 1) (mfs_nd n sv m) rfl, ?_⟩
    walk_at "ob"
    refine ew_fld hd ?_
    walk_at "ob"
    refine ⟨a, M, dx, mfs n sv m, _, rfl, ho.at_, HM.cl, HM.no _ (by decide +kernel), lookup_nd (i := 2) (mfs_nd n sv m) rfl, ?_⟩
    refine r_stp hd ho.ex ho.st ha0 hst fun u du => ?_
    walk_at "ob"
    refine (r_fld hd ho.ex du).2.1 ?_
    walk_at "ob"
    refine ⟨a, M, dx, mfs n sv m, rfl, ho.at_, HM.cl, HM.no _ (by decide +kernel), Nat.lt_of_le_of_lt (Nat.le_of_ble_eq_true (m := 6) rfl) (by decide), ?_⟩
    rw [putF_nd (i := 3) (mfs_nd n sv m) rfl]
    have e : (mfs n sv m).set 3 ("over", V.int (b + st.long)) = mfs n sv { m with over := b + st.long } := by
      have e0 : ovV (b + st.long) = V.int (b + st.long) := by
        unfold ovV
        rw [if_neg (by omega)]
      unfold mfs
      rw [e0]
      rfl
    rw [e]
    exact k

abbrev s_Machine__dot__end_step : Stmt := inClass (top 33) 7
def N_Machine_end_step : List Str := ["self", "beat", "back"]
theorem sc_Machine_end_step : FnScope N_Machine_end_step ["self", "beat"] (defScope s_Machine__dot__end_step) := ⟨rfl, rfl, rfl, by decide +kernel, rfl, by decide +kernel, by decide +kernel⟩
theorem ok_Machine_end_step {f : Addr} {fd : FuncData}  (Fn : Fun K "end_step" "Machine.end_step" s_Machine__dot__end_step f fd) (B : Blt mg) (HM : ClsF K M mkeys) {tD : Tok} (gBACK : mg "BACK" = some (.int 2 tD)) : FnOk P w K mg base CX0 1 f fd ["self", "beat"] (LS (aEndS K M)) := by
  refine Fn.ok sc_Machine_end_step (fun vs H Q E h => ?_) (fun cdv A outer s H vs Q E hr h => ?_)
  · obtain ⟨J, F, R, hd, j, h, _⟩ := h
    obtain ⟨F0, a, dx, n, sv, ss, m, st, b, rfl, _⟩ := h
    rfl
  · have nd := sc_Machine_end_step.nd
    obtain ⟨J, F, R, hd, j, h, q⟩ := h
    obtain ⟨F0, a, dx, n, sv, ss, m, st, b, rfl, ho, ha0, hst, k⟩ := h
    refine ⟨_, (pss_cons (ps_set (i := 2) nd rfl (Or.inl rfl) (pe_ix ix_tup (pe_ix ix_tup (pe_fld (pv 0) rfl) (pe_fld (pv 0) rfl) (fun _ _ => rfl)) (pe_glob (v := .int 2) rfl gBACK ⟨_, rfl⟩) (fun _ _ => rfl)))
      (pss_cons (ps_fldaug (pv 0) pe_int in_add)
      (pss_cons (ps_fld (pv 0) pe_non rfl)
      (pss_cons (ps_fld (pv 0) (pv 1) rfl)
      (pss_one (ps_ret (pv 2))))))), ?_⟩
    refine LS.body j q ?_
    walk_at "ob"
    refine ew_fld hd ?_
    walk_at "ob"
    refine ⟨a, M, dx, mfs n sv m, _, rfl, ho.at_, HM.cl, HM.no _ (by decide +kernel), lookup_nd (i := 1) (mfs_nd n sv m) rfl, ?_⟩
    walk_at "ob"
    refine ew_fld hd ?_
    walk_at "ob"
    refine ⟨a, M, dx, mfs n sv m, _, rfl, ho.at_, HM.cl, HM.no _ (by decide +kernel), lookup_nd (i := 2) (mfs_nd n sv m) rfl, ?_⟩
    refine r_stp hd ho.ex ho.st ha0 hst fun u du => ?_
    walk_at "ob"
    refine (r_fld hd ho.ex du).2.2 ?_
    walk_at "ob"
    refine sw_fldaugI hd in_addR ?_
    walk_at "ob"
    refine ⟨a, M, dx, mfs n sv m, m.at_, rfl, ho.at_, HM.cl, HM.no _ (by decide +kernel), lookup_nd (i := 2) (mfs_nd n sv m) rfl, ?_⟩
    walk_at "ob"
    refine ⟨1, dx, mfs n sv m, rfl, ho.at_, Nat.lt_of_le_of_lt (Nat.le_of_ble_eq_true (m := 6) rfl) (by decide), ?_⟩
    rw [putF_nd (i := 2) (mfs_nd n sv m) rfl, show (mfs n sv m).set 2 ("at", V.int (m.at_ + 1)) = mfs n sv { m with at_ := m.at_ + 1 } from rfl]
    walk_at "ob"
    refine sw_fld hd ?_
    walk_at "ob"
    refine ⟨a, M, dx, _, rfl, upd_same, HM.cl, HM.no _ (by decide +kernel), Nat.lt_of_le_of_lt (Nat.le_of_ble_eq_true (m := 6) rfl) (by decide), ?_⟩
    rw [putF_nd (i := 3) (mfs_nd n sv _) rfl, upd_upd, show (mfs n sv { m with at_ := m.at_ + 1 }).set 3 ("over", V.non) = mfs n sv { m with at_ := m.at_ + 1, over := -1 } from rfl]
    walk_at "ob"
    refine sw_fld hd ?_
    walk_at "ob"
    refine ⟨a, M, dx, _, rfl, upd_same, HM.cl, HM.no _ (by decide +kernel), Nat.lt_of_le_of_lt (Nat.le_of_ble_eq_true (m := 6) rfl) (by decide), ?_⟩
    rw [putF_nd (i := 4) (mfs_nd n sv _) rfl, upd_upd, show (mfs n sv { m with at_ := m.at_ + 1, over := -1 }).set 4 ("since", V.int b) = mfs n sv { m with at_ := m.at_ + 1, over := -1, since := b } from rfl]
    walk_at "ob"
    exact k

abbrev s_Machine__dot__begin_anew : Stmt := inClass (top 33) 8
def N_Machine_begin_anew : List Str := ["self"]
theorem sc_Machine_begin_anew : FnScope N_Machine_begin_anew ["self"] (defScope s_Machine__dot__begin_anew) := ⟨rfl, rfl, rfl, by decide +kernel, rfl, by decide +kernel, by decide +kernel⟩
theorem ok_Machine_begin_anew {f : Addr} {fd : FuncData}  (Fn : Fun K "begin_anew" "Machine.begin_anew" s_Machine__dot__begin_anew f fd) (B : Blt mg) (HM : ClsF K M mkeys) : FnOk P w K mg base CX0 1 f fd ["self"] (LS (aAnew K M)) := by
  refine Fn.ok sc_Machine_begin_anew (fun vs H Q E h => ?_) (fun cdv A outer s H vs Q E hr h => ?_)
  · obtain ⟨J, F, R, hd, j, h, _⟩ := h
    obtain ⟨F0, a, dx, n, sv, ss, m, rfl, _⟩ := h
    rfl
  · have nd := sc_Machine_begin_anew.nd
    obtain ⟨J, F, R, hd, j, h, q⟩ := h
    obtain ⟨F0, a, dx, n, sv, ss, m, rfl, ho, k⟩ := h
    refine ⟨_, (pss_one (ps_fld (pv 0) pe_int rfl)), ?_⟩
    refine LS.body j q ?_
    refine sw_fld hd ?_
    walk_at "ob"
    refine ⟨a, M, dx, mfs n sv m, rfl, ho.at_, HM.cl, HM.no _ (by decide +kernel), Nat.lt_of_le_of_lt (Nat.le_of_ble_eq_true (m := 6) rfl) (by decide), ?_⟩
    rw [putF_nd (i := 2) (mfs_nd n sv m) rfl, show (mfs n sv m).set 2 ("at", V.int 0) = mfs n sv { m with at_ := 0 } from rfl]
    exact k

abbrev s_Machine__dot____init__ : Stmt := inClass (top 33) 0
def N_Machine___init__ : List Str := ["self", "number", "steps", "since"]
theorem sc_Machine___init__ : FnScope N_Machine___init__ ["self", "number", "steps", "since"] (defScope s_Machine__dot____init__) := ⟨rfl, rfl, rfl, by decide +kernel, rfl, by decide +kernel, by decide +kernel⟩
theorem ok_Machine___init__ {f : Addr} {fd : FuncData}  (Fn : Fun K "__init__" "Machine.__init__" s_Machine__dot____init__ f fd) (B : Blt mg) (HM : ClsF K M mkeys) : FnOk P w K mg base CX0 1 f fd ["self", "number", "steps", "since"] (LS (aMInitC M)) := by
  refine Fn.ok sc_Machine___init__ (fun vs H Q E h => ?_) (fun cdv A outer s H vs Q E hr h => ?_)
  · obtain ⟨J, F, R, hd, j, h, _⟩ := h
    obtain ⟨a, dx, n, b, sv, rfl, _⟩ := h
    rfl
  · have nd := sc_Machine___init__.nd
    obtain ⟨J, F, R, hd, j, h, q⟩ := h
    obtain ⟨a, dx, n, b, sv, rfl, ha, k⟩ := h
    refine ⟨_, (pss_cons (ps_fld (pv 0) (pv 1) rfl)
      (pss_cons (ps_fld (pv 0) (pv 2) rfl)
      (pss_cons (ps_fld (pv 0) pe_int rfl)
      (pss_cons (ps_fld (pv 0) pe_non rfl)
      (pss_cons (ps_fld (pv 0) (pv 3) rfl)
      (pss_one (ps_fld (pv 0) pe_bl rfl))))))), ?_⟩
    refine LS.body j q ?_
    refine sw_seq ?_
    refine sw_fld hd ?_
    walk_at "ob"
    refine ⟨a, M, dx, [], rfl, ha, HM.cl, HM.no _ (by decide +kernel), Nat.lt_of_le_of_lt (Nat.le_of_ble_eq_true (m := 6) rfl) (by decide), ?_⟩
    rw [putF_out (show _ ∉ mkeys.take 0 from by decide +kernel)]
    refine sw_seq ?_
    refine sw_fld hd ?_
    walk_at "ob"
    refine ⟨a, M, dx, [("number", V.int n)], rfl, upd_same, HM.cl, HM.no _ (by decide +kernel), Nat.lt_of_le_of_lt (Nat.le_of_ble_eq_true (m := 6) rfl) (by decide), ?_⟩
    rw [putF_out (show _ ∉ mkeys.take 1 from by decide +kernel), upd_upd]
    refine sw_seq ?_
    refine sw_fld hd ?_
    walk_at "ob"
    refine ⟨a, M, dx, [("number", V.int n), ("steps", sv)], rfl, upd_same, HM.cl, HM.no _ (by decide +kernel), Nat.lt_of_le_of_lt (Nat.le_of_ble_eq_true (m := 6) rfl) (by decide), ?_⟩
    rw [putF_out (show _ ∉ mkeys.take 2 from by decide +kernel), upd_upd]
    refine sw_seq ?_
    refine sw_fld hd ?_
    walk_at "ob"
    refine ⟨a, M, dx, [("number", V.int n), ("steps", sv), ("at", V.int 0)], rfl, upd_same, HM.cl, HM.no _ (by decide +kernel), Nat.lt_of_le_of_lt (Nat.le_of_ble_eq_true (m := 6) rfl) (by decide), ?_⟩
    rw [putF_out (show _ ∉ mkeys.take 3 from by decide +kernel), upd_upd]
    refine sw_seq ?_
    refine sw_fld hd ?_
    walk_at "ob"
    refine ⟨a, M, dx, [("number", V.int n), ("steps", sv), ("at", V.int 0), ("over", V.non)], rfl, upd_same, HM.cl, HM.no _ (by decide +kernel), Nat.lt_of_le_of_lt (Nat.le_of_ble_eq_true (m := 6) rfl) (by decide), ?_⟩
    rw [putF_out (show _ ∉ mkeys.take 4 from by decide +kernel), upd_upd]
    
    refine sw_fld hd ?_
    walk_at "ob"
    refine ⟨a, M, dx, [("number", V.int n), ("steps", sv), ("at", V.int 0), ("over", V.non), ("since", V.int b)], rfl, upd_same, HM.cl, HM.no _ (by decide +kernel), Nat.lt_of_le_of_lt (Nat.le_of_ble_eq_true (m := 6) rfl) (by decide), ?_⟩
    rw [putF_out (show _ ∉ mkeys.take 5 from by decide +kernel), upd_upd]
    exact k
end
end Obr
namespace Obr
/-! ### what a beat does, machine by machine (mathematics only) -/
theorem turn_uniq {r : Rgt} {last : Int} {cs a b : List Clm} (h1 : TurnOk r last cs a) (h2 : TurnOk r last cs b) : a = b :=
  List.Perm.eq_of_pairwise (fun x y _ _ h k => by unfold cLt at h k; omega) h1.srt h2.srt (h1.perm.trans h2.perm.symm)
theorem beat_uniq {w : Wld} {r : Rgt} {p anew : Bool} {t a b : LSt} {l1 l2 : Int} {g1 g2 : List Int} (h1 : LBeat w r p anew t a l1 g1) (h2 : LBeat w r p anew t b l2 g2) : a = b ∧ l1 = l2 ∧ g1 = g2 := by
  obtain ⟨ts, k1, e1, e2, e3⟩ := h1.ex
  obtain ⟨ts2, k2, f1, f2, f3⟩ := h2.ex
  obtain rfl := turn_uniq k1 k2
  subst e1 e2 e3 f1 f2 f3
  exact ⟨rfl, rfl, rfl⟩
def endM (anew : Bool) (b : Int) (ss : List Stp) (m : Mac) : Mac :=
  if m.over = b then
    match ss[m.at_.toNat]? with
    | some _ => if m.at_ + 1 = ss.length then ⟨if anew then 0 else m.at_ + 1, -1, b, m.done + 1, m.waits, some b⟩ else ⟨m.at_ + 1, -1, b, m.done + 1, m.waits, m.ends⟩
    | none => m
  else m
theorem set_get {α : Type} {l : List α} {k j : Nat} {x : α} : (l.set k x)[j]? = if k = j then (l[j]?).map (fun _ => x) else l[j]? := by
  rw [List.getElem?_set]
  by_cases c : k = j
  · subst c
    rw [if_pos rfl, if_pos rfl]
    by_cases h : k < l.length
    · rw [if_pos h, List.getElem?_eq_getElem h]; rfl
    · rw [if_neg h, List.getElem?_eq_none (by omega)]; rfl
  · rw [if_neg c, if_neg c]
theorem lEnd_ms {w : Wld} {anew : Bool} {t : LSt} {k : Nat} {ss : List Stp} (hs : w.ms[k]? = some ss) (j : Nat) : (lEnd w anew t k).ms[j]? = if k = j then (t.ms[j]?).map (endM anew t.beat ss) else t.ms[j]? := by
  unfold lEnd
  split
  · rename_i m s2 hm h2
    rw [hs] at h2
    cases h2
    by_cases c : k = j
    · subst c
      rw [if_pos rfl, hm]
      unfold endM
      split
      · rename_i ho
        simp only [Option.map_some]
        rw [if_pos ho]
        split
        · rename_i st hst
          try simp only [hst]
          split
          · rw [set_get, if_pos rfl, hm]; rfl
          · rw [set_get, if_pos rfl, hm]; rfl
        · rename_i hst
          try simp only [hst]
          exact hm
      · rename_i ho
        simp only [Option.map_some]
        rw [if_neg ho]
        exact hm
    · rw [if_neg c]
      split
      · split
        · split
          · rw [set_get, if_neg c]
          · rw [set_get, if_neg c]
        · rfl
      · rfl
  · rename_i hno
    by_cases c : k = j
    · subst c
      rw [if_pos rfl]
      cases hm : t.ms[k]? with
      | none => rfl
      | some m => exact absurd hs (hno m ss hm)
    · rw [if_neg c]
theorem lEnds_ms {w : Wld} {anew : Bool} {t : LSt} : ∀ {n : Nat} {j : Nat} {ss : List Stp}, n ≤ w.ms.length → w.ms[j]? = some ss → (lEnds w anew t n).ms[j]? = if j < n then (t.ms[j]?).map (endM anew t.beat ss) else t.ms[j]?
  | 0, j, ss, _, _ => by rw [if_neg (by omega)]; rfl
  | n + 1, j, ss, hn, hj => by
    have hk : w.ms[n]? = some w.ms[n] := List.getElem?_eq_getElem (by omega)
    rw [lEnds, lEnd_ms hk, lEnds_beat]
    by_cases c : n = j
    · subst c
      rw [if_pos rfl, if_pos (by omega), lEnds_ms (by omega) hk, if_neg (by omega)]
      rw [hk] at hj
      cases hj
      rfl
    · rw [if_neg c, lEnds_ms (by omega) hj]
      by_cases d : j < n
      · rw [if_pos d, if_pos (by omega)]
      · rw [if_neg d, if_neg (by omega)]
theorem lFill_ms {w : Wld} {t : LSt} : (lFill w t).ms = t.ms := by unfold lFill; split <;> rfl
theorem lFill_beat {w : Wld} {t : LSt} : (lFill w t).beat = t.beat := by unfold lFill; split <;> rfl
theorem lFill_last {w : Wld} {t : LSt} : (lFill w t).last = t.last := by unfold lFill; split <;> rfl
theorem lEnd_last {w : Wld} {anew : Bool} {t : LSt} {k : Nat} : (lEnd w anew t k).last = t.last := by
  unfold lEnd
  repeat' split
  all_goals rfl
theorem lEnds_last {w : Wld} {anew : Bool} {t : LSt} : ∀ n, (lEnds w anew t n).last = t.last
  | 0 => rfl
  | n + 1 => by rw [lEnds, lEnd_last, lEnds_last n]
theorem lDraw_beat {w : Wld} {p : Bool} {x : LSt × List Int × Bool} {c : Clm} : (lDraw w p x c).1.beat = x.1.beat ∧ (lDraw w p x c).1.last = x.1.last := by
  unfold lDraw
  repeat' split
  all_goals exact ⟨rfl, rfl⟩
theorem lDraws_beat {w : Wld} {p : Bool} : ∀ (ts : List Clm) {x : LSt × List Int × Bool}, (ts.foldl (lDraw w p) x).1.beat = x.1.beat ∧ (ts.foldl (lDraw w p) x).1.last = x.1.last
  | [], _ => ⟨rfl, rfl⟩
  | c :: ts, x => by
    have h := lDraws_beat ts (w := w) (p := p) (x := lDraw w p x c)
    have k := lDraw_beat (w := w) (p := p) (x := x) (c := c)
    exact ⟨h.1.trans k.1, h.2.trans k.2⟩
theorem lDraw_other {w : Wld} {p : Bool} {x : LSt × List Int × Bool} {c : Clm} {j : Nat} (h : c.k.toNat ≠ j) : (lDraw w p x c).1.ms[j]? = x.1.ms[j]? := by
  unfold lDraw
  split
  · split
    · split
      · rw [set_get, if_neg h]
      · rfl
    · rw [set_get, if_neg h]
  · rfl
theorem lDraw_bg {w : Wld} {p : Bool} {x : LSt × List Int × Bool} {c : Clm} : (lDraw w p x c).2.1 = x.2.1 ∨ (lDraw w p x c).2.1 = x.2.1 ++ [c.k] := by
  unfold lDraw
  split
  · split
    · split
      · exact Or.inr rfl
      · exact Or.inl rfl
    · exact Or.inl rfl
  · exact Or.inl rfl
theorem lDraw_here {w : Wld} {p : Bool} {x : LSt × List Int × Bool} {c : Clm} {m : Mac} {ss : List Stp} {st : Stp} (hm : x.1.ms[c.k.toNat]? = some m) (hs : w.ms[c.k.toNat]? = some ss) (hst : ss[m.at_.toNat]? = some st) :
    ((lDraw w p x c).2.1 = x.2.1 ++ [c.k] ∧ c.draw ≤ x.1.level ∧ (lDraw w p x c).1.level = x.1.level - c.draw ∧ (lDraw w p x c).1.ms[c.k.toNat]? = some { m with over := x.1.beat + st.long }) ∨
    ((lDraw w p x c).2.1 = x.2.1 ∧ (lDraw w p x c).1.level = x.1.level ∧ (lDraw w p x c).1.ms[c.k.toNat]? = some { m with waits := m.waits + 1 }) := by
  unfold lDraw
  rw [hm, hs]
  simp only [hst]
  split
  · rename_i h
    refine Or.inl ⟨rfl, h.2, rfl, ?_⟩
    show (x.1.ms.set _ _)[_]? = _
    rw [set_get, if_pos rfl, hm]; rfl
  · refine Or.inr ⟨rfl, rfl, ?_⟩
    show (x.1.ms.set _ _)[_]? = _
    rw [set_get, if_pos rfl, hm]; rfl
/-- after the draws: each machine -/
theorem lDraws_ms {w : Wld} {p : Bool} {s : LSt} : ∀ (ts : List Clm) {x : LSt × List Int × Bool}, (ts.map Clm.k).Nodup → (∀ c ∈ ts, 0 ≤ c.k) → (∀ c ∈ ts, ∀ b ∈ x.2.1, b ≠ c.k) →
    (∀ c ∈ ts, ∃ m ss st, x.1.ms[c.k.toNat]? = some m ∧ w.ms[c.k.toNat]? = some ss ∧ ss[m.at_.toNat]? = some st) →
    (∀ b ∈ (ts.foldl (lDraw w p) x).2.1, b ∈ x.2.1 ∨ b ∈ ts.map Clm.k) ∧ (∀ b ∈ x.2.1, b ∈ (ts.foldl (lDraw w p) x).2.1) ∧
    (∀ j : Nat, (j : Int) ∉ ts.map Clm.k → (ts.foldl (lDraw w p) x).1.ms[j]? = x.1.ms[j]?) ∧
    (∀ (j : Nat) (m : Mac), (j : Int) ∈ ts.map Clm.k → x.1.ms[j]? = some m → ∃ ss st, w.ms[j]? = some ss ∧ ss[m.at_.toNat]? = some st ∧
      (((j : Int) ∈ (ts.foldl (lDraw w p) x).2.1 ∧ (ts.foldl (lDraw w p) x).1.ms[j]? = some { m with over := x.1.beat + st.long }) ∨ ((j : Int) ∉ (ts.foldl (lDraw w p) x).2.1 ∧ (ts.foldl (lDraw w p) x).1.ms[j]? = some { m with waits := m.waits + 1 })))
  | [], x, _, _, _, _ => ⟨fun b h => Or.inl h, fun b h => h, fun _ _ => rfl, fun j m h _ => by cases h⟩
  | c :: ts, x, hn, h0, hb, hx => by
    rw [List.map_cons, List.nodup_cons] at hn
    have hc0 := h0 c List.mem_cons_self
    have hkk : ∀ j : Nat, c.k.toNat = j ↔ c.k = (j : Int) := fun j => by omega
    have hne : ∀ d ∈ ts, c.k ≠ d.k := fun d hd e => hn.1 (by rw [e]; exact List.mem_map_of_mem hd)
    have ih := lDraws_ms (s := s) ts (w := w) (p := p) (x := lDraw w p x c) hn.2 (fun d hd => h0 d (List.mem_cons_of_mem _ hd))
      (fun d hd b hbm => by
        rcases lDraw_bg (w := w) (p := p) (x := x) (c := c) with e | e
        · rw [e] at hbm; exact hb d (List.mem_cons_of_mem _ hd) b hbm
        · rw [e] at hbm
          rcases List.mem_append.mp hbm with hbm | hbm
          · exact hb d (List.mem_cons_of_mem _ hd) b hbm
          · rw [List.mem_singleton.mp hbm]; exact hne d hd)
      (fun d hd => by
        obtain ⟨m, ss, st, h1, h2, h3⟩ := hx d (List.mem_cons_of_mem _ hd)
        refine ⟨m, ss, st, ?_, h2, h3⟩
        rw [lDraw_other (fun e => hne d hd (by have := h0 d (List.mem_cons_of_mem _ hd); omega))]
        exact h1)
    obtain ⟨i1, i2, i3, i4⟩ := ih
    rw [List.foldl_cons]
    refine ⟨fun b hbm => ?_, fun b hbm => ?_, fun j hj => ?_, fun j m hj hm => ?_⟩
    · rcases i1 b hbm with h | h
      · rcases lDraw_bg (w := w) (p := p) (x := x) (c := c) with e | e
        · rw [e] at h; exact Or.inl h
        · rw [e] at h
          rcases List.mem_append.mp h with h | h
          · exact Or.inl h
          · rw [List.mem_singleton.mp h]; exact Or.inr List.mem_cons_self
      · exact Or.inr (List.mem_cons_of_mem _ h)
    · refine i2 b ?_
      rcases lDraw_bg (w := w) (p := p) (x := x) (c := c) with e | e
      · rw [e]; exact hbm
      · rw [e]; exact List.mem_append_left _ hbm
    · rw [List.map_cons, List.mem_cons, not_or] at hj
      rw [i3 j hj.2]
      exact lDraw_other (fun e => hj.1 ((hkk j).mp e).symm)
    · by_cases e : c.k = (j : Int)
      · have ej : c.k.toNat = j := (hkk j).mpr e
        obtain ⟨m2, ss, st, h1, h2, h3⟩ := hx c List.mem_cons_self
        rw [ej] at h1 h2
        rw [hm] at h1
        cases h1
        have hnt : (j : Int) ∉ ts.map Clm.k := by rw [← e]; exact hn.1
        refine ⟨ss, st, h2, h3, ?_⟩
        rw [i3 j hnt]
        rcases lDraw_here (w := w) (p := p) (x := x) (c := c) (by rw [ej]; exact hm) (by rw [ej]; exact h2) h3 with ⟨k1, k2, k3, k4⟩ | ⟨k1, k2, k3⟩
        · rw [ej] at k4
          refine Or.inl ⟨i2 _ ?_, k4⟩
          rw [k1, ← e]
          simp
        · rw [ej] at k3
          refine Or.inr ⟨fun hin => ?_, k3⟩
          rcases i1 _ hin with h | h
          · rw [k1] at h
            exact hb c List.mem_cons_self _ h e.symm
          · exact hnt h
      · have hjt : (j : Int) ∈ ts.map Clm.k := by
          rw [List.map_cons] at hj
          rcases List.mem_cons.mp hj with h | h
          · exact absurd h.symm e
          · exact h
        have hm' : (lDraw w p x c).1.ms[j]? = some m := by rw [lDraw_other (fun q => e ((hkk j).mp q))]; exact hm
        obtain ⟨ss, st, h2, h3, h4⟩ := i4 j m hjt hm'
        rw [lDraw_beat.1] at h4
        exact ⟨ss, st, h2, h3, h4⟩
/-- what a beat does to a machine -/
structure MBeat (anew : Bool) (b : Int) (ss : List Stp) (m m' : Mac) (began : Prop) : Prop where
  no : ¬ ((endM anew b ss m).over < 0 ∧ (endM anew b ss m).at_ < ss.length) → m' = endM anew b ss m ∧ ¬ began
  yes : ((endM anew b ss m).over < 0 ∧ (endM anew b ss m).at_ < ss.length) → ∃ st, ss[(endM anew b ss m).at_.toNat]? = some st ∧ ((began ∧ m' = { endM anew b ss m with over := b + st.long }) ∨ (¬ began ∧ m' = { endM anew b ss m with waits := m.waits + 1 }))
theorem endM_waits {anew : Bool} {b : Int} {ss : List Stp} {m : Mac} : (endM anew b ss m).waits = m.waits := by
  unfold endM
  repeat' split
  all_goals rfl
theorem beat_ms {w : Wld} {r : Rgt} {p anew : Bool} {t t' : LSt} {lv : Int} {bg : List Int} (h : LOk w t) (b : LBeat w r p anew t t' lv bg) : t'.ms.length = w.ms.length ∧ t'.beat = t.beat + 1 ∧
    ∀ (k : Nat) (m : Mac) (ss : List Stp), t.ms[k]? = some m → w.ms[k]? = some ss → ∃ m', t'.ms[k]? = some m' ∧ MBeat anew t.beat ss m m' ((k : Int) ∈ bg) := by
  obtain ⟨ts, hts, e1, e2, _⟩ := b.ex
  have hS : ∀ (k : Nat) (m : Mac) (ss : List Stp), t.ms[k]? = some m → w.ms[k]? = some ss → (lFill w (lEnds w anew t w.ms.length)).ms[k]? = some (endM anew t.beat ss m) := fun k m ss hm hs => by
    rw [lFill_ms, lEnds_ms (Nat.le_refl _) hs, if_pos (List.getElem?_eq_some_iff.mp hs).1, hm]
    rfl
  have hok := lFill_ok (lEnds_ok (anew := anew) h w.ms.length)
  have hmem : ∀ c ∈ ts, ∃ (j : Nat) (m : Mac) (ss : List Stp) (st : Stp), j < w.ms.length ∧ (lFill w (lEnds w anew t w.ms.length)).ms[j]? = some m ∧ w.ms[j]? = some ss ∧ m.over < 0 ∧ m.at_ < ss.length ∧ ss[m.at_.toNat]? = some st ∧ c = ⟨j, st.draw, m.since⟩ := fun c hc => by
    obtain ⟨j, hj, hcj⟩ := lClaims_mem (hts.perm.mem_iff.mp hc)
    obtain ⟨m, ss, st, h1, h2, h3, h4, h5, h6⟩ := lClaim_mem hcj
    exact ⟨j, m, ss, st, hj, h1, h2, h3, h4, h5, h6⟩
  have hD := lDraws_ms (w := w) (p := p) (s := t) ts (x := (lFill w (lEnds w anew t w.ms.length), [], true)) ((hts.perm.map Clm.k).nodup_iff.mpr (lClaims_nd _))
    (fun c hc => by obtain ⟨j, _, _, _, _, _, _, _, _, _, e⟩ := hmem c hc; rw [e]; exact Int.natCast_nonneg _) (fun _ _ b hb => by cases hb)
    (fun c hc => by
      obtain ⟨j, m, ss, st, _, h1, h2, _, _, h5, e⟩ := hmem c hc
      refine ⟨m, ss, st, ?_, ?_, h5⟩
      · rw [e]; show _[((j : Int)).toNat]? = _; rw [Int.toNat_natCast]; exact h1
      · rw [e]; show _[((j : Int)).toNat]? = _; rw [Int.toNat_natCast]; exact h2)
  have hlen : (lDraws w p ts (lFill w (lEnds w anew t w.ms.length))).1.ms.length = w.ms.length := by
    have hh : ∀ (ts : List Clm) (x : LSt × List Int × Bool), (ts.foldl (lDraw w p) x).1.ms.length = x.1.ms.length := by
      intro ts
      induction ts with
      | nil => intro x; rfl
      | cons c ts ih =>
        intro x
        rw [List.foldl_cons, ih]
        unfold lDraw
        repeat' split
        all_goals simp
    unfold lDraws
    rw [hh]
    exact hok.len
  subst e2
  refine ⟨hlen, ?_, fun k m ss hm hs => ?_⟩
  · show (lDraws w p ts _).1.beat + 1 = _
    unfold lDraws
    rw [(lDraws_beat ts).1, lFill_beat, lEnds_beat]
  · have h1 := hS k m ss hm hs
    have hD1 := hD.1
    obtain ⟨_, _, d3, d4⟩ := hD
    have hbgk : (k : Int) ∈ bg → (k : Int) ∈ ts.map Clm.k := fun hb => by
      rw [e1] at hb
      rcases hD1 _ hb with q | q
      · cases q
      · exact q
    by_cases hc : (endM anew t.beat ss m).over < 0 ∧ (endM anew t.beat ss m).at_ < ss.length
    · have hin : (k : Int) ∈ ts.map Clm.k := by
        have ho := hok.m k _ ss h1 hs
        have hl : (endM anew t.beat ss m).at_.toNat < ss.length := by have := ho.a0; omega
        have : (⟨k, ss[(endM anew t.beat ss m).at_.toNat].draw, (endM anew t.beat ss m).since⟩ : Clm) ∈ lClaims w (lFill w (lEnds w anew t w.ms.length)) w.ms.length := by
          have hall : ∀ (n : Nat), k < n → ∀ c ∈ lClaim w (lFill w (lEnds w anew t w.ms.length)) k, c ∈ lClaims w (lFill w (lEnds w anew t w.ms.length)) n := by
            intro n
            induction n with
            | zero => intro hk; omega
            | succ n ih =>
              intro hk c hcm
              rw [lClaims]
              by_cases e : k = n
              · subst e; exact List.mem_append_right _ hcm
              · exact List.mem_append_left _ (ih (by omega) c hcm)
          refine hall _ (List.getElem?_eq_some_iff.mp hs).1 _ ?_
          unfold lClaim
          rw [h1, hs]
          simp only []
          rw [if_pos hc, List.getElem?_eq_getElem hl]
          simp
        exact List.mem_map.mpr ⟨_, hts.perm.mem_iff.mpr this, rfl⟩
      obtain ⟨ss2, st, hs2, hst, hd⟩ := d4 k _ hin h1
      rw [hs] at hs2
      cases hs2
      have eb : (lFill w (lEnds w anew t w.ms.length)).beat = t.beat := by rw [lFill_beat, lEnds_beat]
      rcases hd with ⟨q1, q2⟩ | ⟨q1, q2⟩
      · refine ⟨_, q2, ⟨fun z => absurd hc z, fun _ => ⟨st, hst, Or.inl ⟨by rw [e1]; exact q1, ?_⟩⟩⟩⟩
        show { endM anew t.beat ss m with over := (lFill w (lEnds w anew t w.ms.length)).beat + st.long } = _
        rw [eb]
      · exact ⟨_, q2, ⟨fun z => absurd hc z, fun _ => ⟨st, hst, Or.inr ⟨by rw [e1]; exact q1, by rw [endM_waits]⟩⟩⟩⟩
    · have hout : (k : Int) ∉ ts.map Clm.k := fun hin => by
        obtain ⟨c, hcm, ek⟩ := List.mem_map.mp hin
        obtain ⟨j, m2, ss2, st, _, g1, g2, g3, g4, _, e⟩ := hmem c hcm
        rw [e] at ek
        have ej : j = k := by have : ((j : Int)) = k := ek; omega
        subst ej
        rw [h1] at g1
        rw [hs] at g2
        cases g1
        cases g2
        exact hc ⟨g3, g4⟩
      refine ⟨_, (d3 k hout).trans h1, ⟨fun _ => ⟨rfl, fun hb => hout (hbgk hb)⟩, fun z => absurd z hc⟩⟩
end Obr
namespace Obr
open PySem L2 PyProof.Rows
local macro_rules | `(tactic| walk_at "ob_at") => `(tactic| first
  | assumption
  | exact upd_same
  | (refine Eq.trans (upd_ne ?obn) ?obr; (case obn => walk_at "ob_ne"); (case obr => walk_at "ob_at")))
local macro_rules | `(tactic| walk_at "ob_ne") => `(tactic| first
  | assumption
  | (refine Ne.symm ?obs; (case obs => assumption))
  | (refine' ne_of_none (H := ?_) ?obe ?obh; (case obh => assumption); (case obe => walk_at "ob_at"))
  | (refine Ne.symm ?obs; (case obs => (refine' ne_of_none (H := ?_) ?obe ?obh; (case obh => assumption); (case obe => walk_at "ob_at")))))
local macro_rules | `(tactic| walk_at "ob_fr") => `(tactic| first
  | assumption
  | (refine Eq.trans (upd_ne ?obn) ?obr; (case obn => walk_at "ob_ne"); (case obr => walk_at "ob_fr"))
  | (refine Ex.free (G := ?_) (by assumption) ?obh; (case obh => walk_at "ob_fr")))
local macro_rules | `(tactic| walk_at "ob_ex") => `(tactic| first
  | assumption
  | exact Ex.refl _
  | (refine Ex.out ?obg ?obh; (case obh => assumption); (case obg => walk_at "ob_ex"))
  | (refine Ex.new ?obg ?obh; (case obh => assumption); (case obg => walk_at "ob_ex"))
  | (refine Ex.new ?obg ?obh; (case obh => walk_at "ob_fr"); (case obg => walk_at "ob_ex")))
local macro_rules | `(tactic| walk_at "ob_sq") => `(tactic| first
  | assumption
  | (refine SqL.of ?oba; (case oba => walk_at "ob_at"))
  | (refine Ex.sqT (F := ?_) ?obg ?obh; (case obh => assumption); (case obg => walk_at "ob_ex"))
  | (refine Ex.sqL (F := ?_) ?obg ?obh; (case obh => assumption); (case obg => walk_at "ob_ex"))
  | (refine SqT.of ?oba; (case oba => walk_at "ob_at")))
local macro_rules | `(tactic| walk_at "ob_side") => `(tactic| first | exact rfl | assumption | decide | omega | exact ⟨by decide, by decide, by decide⟩ | exact Or.inr ⟨by decide, by decide⟩ | exact Or.inl ⟨by decide, by decide⟩ | exact wide_div (b := 60) (by first | decide | omega) (by first | decide | omega) (by decide) (by decide))
local macro_rules | `(tactic| walk_at "ob1") => `(tactic| first
  | with_reducible refine sw_seq ?_
  | with_reducible refine sw_asg ?_
  | with_reducible refine sw_ret ?_
  | with_reducible refine sw_par ?_
  | with_reducible refine ⟨_, _, rfl, ?_⟩
  | with_reducible refine sw_drop ?_
  | with_reducible refine sw_if ?_
  | with_reducible refine sw_next ?_
  | with_reducible refine gw_name ?_
  | with_reducible refine gw_subL (by assumption) ?_
  | with_reducible refine gsw_cons ?_
  | with_reducible refine gsw_nil ?_
  | with_reducible refine ew_c ?_
  | ((with_reducible refine' ew_var (v := ?_) ?obv ?_); (case obv => exact rfl))
  | ((with_reducible refine ew_next (by assumption) ?obv ?_); (case obv => exact rfl))
  | ((with_reducible refine ew_world (by assumption) ?obv ?_); (case obv => exact rfl))
  | ((with_reducible refine ew_rule (by assumption) ?obv ?_); (case obv => exact rfl))
  | with_reducible refine ew_op ?_
  | with_reducible refine ew_un ?_
  | with_reducible refine ew_dget (by assumption) ?_
  | with_reducible refine uw_I ?_
  | with_reducible refine ppw_nil ?_
  | with_reducible refine ppw_cons ?_
  | with_reducible refine sw_dput (by assumption) ?_
  | with_reducible refine ew_cb ?_
  | with_reducible refine ew_if ?_
  | with_reducible refine ew_slL (by assumption) ?_
  | with_reducible refine ow_some ?_
  | with_reducible refine ow_none ?_
  | with_reducible refine aw_nil ?_
  | with_reducible refine aw_cons ?_
  | with_reducible refine rw_I0 ?_
  | ((with_reducible refine rw_I ?obc ?_); (case obc => walk_at "ob_side"))
  | with_reducible refine rw_isN ?_
  | with_reducible refine rw_notN ?_
  | ((with_reducible refine rw_eq ?obc ?_); (case obc => exact rfl))
  | ((with_reducible refine rw_ne ?obc ?_); (case obc => exact rfl))
  | with_reducible refine cw_max2 ?_
  | with_reducible refine cw_min2 ?_
  | with_reducible refine tw_test ?_
  | with_reducible refine tw_B ?_
  | with_reducible refine tw_not ?_
  | with_reducible refine tw_truB ?_
  | with_reducible refine tw_and ?_
  | with_reducible refine tw_or ?_
  | with_reducible refine ew_and ?_
  | (refine' Exists.intro _ (And.intro (show V.bl _ = V.bl _ from rfl) ?_))
  | (refine' Exists.intro _ (And.intro (show V.int _ = V.int _ from rfl) ?_))
  | ((with_reducible refine' rw_ixL (v := ?_) (xs := ?_) (by assumption) ?obl ?oba ?_); (case obl => walk_at "ob_sq"); (case oba => first | exact rfl | exact at_zero))
  | ((with_reducible refine' rw_ixT (v := ?_) (xs := ?_) (by assumption) ?obl ?oba ?_); (case obl => walk_at "ob_sq"); (case oba => first | exact rfl | exact at_zero))
  | ((with_reducible refine' ew_lst (by assumption) ?_))
  | ((with_reducible refine' ew_tup (by assumption) ?_)))
local macro_rules | `(tactic| walk_at "ob_len") => `(tactic| first | exact Nat.le_of_ble_eq_true rfl | (simp; done) | omega)
local macro_rules | `(tactic| walk_at "ob") => `(tactic| repeat walk_at "ob1")

/-! ### Run -/
def aPutIn (sh : Bool) (K : PySem.W.Frag) (C : Addr) : List V → Hp → VK → Prop := fun vs F R => ∃ (A : RAd) (t : LSt) (w : Wld) (r : Rgt) (p anew : Bool) (z : Int), vs = [.ref A.a, .int z] ∧ A.C = C ∧ F A.a = some (.ins A.C A.dx (rfsS sh A t w r p anew)) ∧
  R .non (upd F A.a (.ins A.C A.dx (rfsS sh A { t with level := minI w.cap (t.level + z) } w r p anew)))
/-- the reference of the machine of this number -/
def refOf (A : RAd) (k : Int) : V := match A.mads[k.toNat]? with
  | some ad => .ref ad.a
  | none => .non
def aWaitingR (sh : Bool) (K : PySem.W.Frag) (C M : Addr) : List V → Hp → VK → Prop := fun vs F R => ∃ (F0 : Hp) (A : RAd) (t : LSt) (w : Wld) (r : Rgt) (p anew : Bool) (ex : List (Addr × HO)), vs = [.ref A.a] ∧ A.C = C ∧ A.M = M ∧ SAt sh K F0 F A t w r p anew ex ∧ LOk w t ∧ w.ms.length ≤ 5 ∧
  ∀ (q : Addr) (F' : Hp), Ex F F' → F q = none → F' q = some (.lst ((lClaims w t w.ms.length).map fun c => refOf A c.k)) → R (.ref q) F'
/-- whose step is over at the beat, rising -/
def overs (t : LSt) : Nat → List Int
  | 0 => []
  | n + 1 => overs t n ++ (match t.ms[n]? with | some m => if m.over = t.beat then [(n : Int)] else [] | none => [])
theorem overs_len {t : LSt} : ∀ n : Nat, (overs t n).length ≤ n
  | 0 => Nat.le_refl _
  | n + 1 => by
    have := overs_len (t := t) n
    rw [overs, List.length_append]
    split
    · split
      · simp; omega
      · simp; omega
    · simp; omega
def aEndSteps (sh : Bool) (K : PySem.W.Frag) (C M : Addr) : List V → Hp → VK → Prop := fun vs F R => ∃ (F0 : Hp) (A : RAd) (t : LSt) (w : Wld) (r : Rgt) (p anew : Bool) (ex : List (Addr × HO)), vs = [.ref A.a] ∧ A.C = C ∧ A.M = M ∧ SAt sh K F0 F A t w r p anew ex ∧ LOk w t ∧ w.ms.length ≤ 5 ∧
  ∀ (q : Addr) (F' : Hp), SAt sh K F0 F' A (lEnds w anew t w.ms.length) w r p anew ((q, .lst ((overs t w.ms.length).map V.int)) :: ex) → R (.ref q) F'
section
variable {sh : Bool} {K : PySem.W.Frag} {F0 F : Hp} {A : RAd} {t : LSt} {w : Wld} {r : Rgt} {p anew : Bool} {ex : List (Addr × HO)}
theorem SAt.mobj (h : SAt sh K F0 F A t w r p anew ex) {k : Nat} {ad : MAd} {m : Mac} {ss : List Stp} (h1 : A.mads[k]? = some ad) (h2 : t.ms[k]? = some m) (h3 : w.ms[k]? = some ss) : MObj K F0 F ad.a A.M ad.dx k ad.sv ss m := ⟨h.mac h1 h2, h.own.ex, h.st k ad ss h1 h3⟩
theorem SAt.three (h : SAt sh K F0 F A t w r p anew ex) {k : Nat} (hk : k < w.ms.length) : ∃ ad m ss, A.mads[k]? = some ad ∧ t.ms[k]? = some m ∧ w.ms[k]? = some ss :=
  ⟨_, _, _, List.getElem?_eq_getElem (by rw [h.len1]; exact hk), List.getElem?_eq_getElem (by rw [h.len2]; exact hk), List.getElem?_eq_getElem hk⟩
end
theorem claim_iff {w : Wld} {t : LSt} {k : Nat} {m : Mac} {ss : List Stp} (ho : LOk w t) (hm : t.ms[k]? = some m) (hs : w.ms[k]? = some ss) :
    (m.over < 0 ∧ m.at_ ≠ (ss.length : Int) → ∃ st, ss[m.at_.toNat]? = some st ∧ lClaim w t k = [⟨k, st.draw, m.since⟩]) ∧ (¬ (m.over < 0 ∧ m.at_ ≠ (ss.length : Int)) → lClaim w t k = []) := by
  have h := ho.m k m ss hm hs
  have e : (m.over < 0 ∧ m.at_ ≠ (ss.length : Int)) ↔ (m.over < 0 ∧ m.at_ < (ss.length : Int)) := by
    have := h.a1
    constructor
    · rintro ⟨h1, h2⟩; exact ⟨h1, by omega⟩
    · rintro ⟨h1, h2⟩; exact ⟨h1, by omega⟩
  constructor
  · intro hc
    have hc2 := e.mp hc
    have hl : m.at_.toNat < ss.length := by have := h.a0; omega
    refine ⟨_, List.getElem?_eq_getElem hl, ?_⟩
    unfold lClaim
    rw [hm, hs]
    simp only []
    rw [if_pos hc2, List.getElem?_eq_getElem hl]
  · intro hc
    unfold lClaim
    rw [hm, hs]
    simp only []
    rw [if_neg (fun z => hc (e.mpr z))]
section
variable {sh : Bool} {P : Program} {w : World} {K : PySem.W.Frag} {mg : Str → Option Value} {base : Heap} {C M : Addr}

abbrev s_Shop__dot__put_in : Stmt := inClass (top 34) 4
def N_Shop_put_in : List Str := ["self", "many"]
theorem sc_Shop_put_in : FnScope N_Shop_put_in ["self", "many"] (defScope s_Shop__dot__put_in) := ⟨rfl, rfl, rfl, by decide +kernel, rfl, by decide +kernel, by decide +kernel⟩
theorem ok_Shop_put_in {f : Addr} {fd : FuncData}  (Fn : Fun K "put_in" "Shop.put_in" s_Shop__dot__put_in f fd) (B : Blt mg) (HR : ClsF K C rkeys) : FnOk P w K mg base CX0 1 f fd ["self", "many"] (LS (aPutIn sh K C)) := by
  refine Fn.ok sc_Shop_put_in (fun vs H Q E h => ?_) (fun cdv A outer s H vs Q E hr h => ?_)
  · obtain ⟨J, F, R, hd, j, h, _⟩ := h
    obtain ⟨A, t, w, r, p, anew, z, rfl, _⟩ := h
    rfl
  · have nd := sc_Shop_put_in.nd
    obtain ⟨J, F, R, hd, j, h, q⟩ := h
    obtain ⟨A, t, w, r, p, anew, z, rfl, rfl, hF, k⟩ := h
    refine ⟨_, (pss_one (ps_fld (pv 0) (pe_callB (call_min2 rfl) (by rfl) B.min (by decide +kernel) (pa_cons (pe_fld (pv 0) rfl) (pa_cons (pe_op op_add (pe_fld (pv 0) rfl) (pv 1)) pa_nil))) rfl)), ?_⟩
    refine LS.body j q ?_
    refine sw_fld hd ?_
    walk_at "ob"
    refine ew_fld hd ?_
    walk_at "ob"
    refine ⟨A.a, A.C, A.dx, _, _, rfl, hF, HR.cl, HR.no _ (by decide +kernel), lookup_nd (i := 0) (rfs_nd A t w r p anew) rfl, ?_⟩
    walk_at "ob"
    refine ew_fld hd ?_
    walk_at "ob"
    refine ⟨A.a, A.C, A.dx, _, _, rfl, hF, HR.cl, HR.no _ (by decide +kernel), lookup_nd (i := 1) (rfs_nd A t w r p anew) rfl, ?_⟩
    walk_at "ob"
    refine ⟨A.a, A.C, A.dx, _, rfl, hF, HR.cl, HR.no _ (by decide +kernel), rfs_lt, ?_⟩
    rw [putF_nd (i := 1) (rfs_nd A t w r p anew) rfl]
    exact k

abbrev s_Shop__dot__waiting : Stmt := inClass (top 34) 7
def N_Shop_waiting : List Str := ["self", "machine"]
theorem sc_Shop_waiting : FnScope N_Shop_waiting ["self"] (defScope s_Shop__dot__waiting) := ⟨rfl, rfl, rfl, by decide +kernel, rfl, by decide +kernel, by decide +kernel⟩
theorem ok_Shop_waiting {f : Addr} {fd : FuncData} {f1 : Addr} {fd1 : FuncData} (Fn : Fun K "waiting" "Shop.waiting" s_Shop__dot__waiting f fd) (B : Blt mg) (HR : ClsF K C rkeys) (M_is_waiting : Met K M "is_waiting" f1 fd1 ["self"]) (G_is_waiting : FnOk P w K mg base CX0 2 f1 fd1 ["self"] (LS (aWaiting K M))) : FnOk P w K mg base CX0 3 f fd ["self"] (LS (aWaitingR sh K C M)) := by
  refine Fn.ok sc_Shop_waiting (fun vs H Q E h => ?_) (fun cdv A outer s H vs Q E hr h => ?_)
  · obtain ⟨J, F, R, hd, j, h, _⟩ := h
    obtain ⟨F0, A, t, w, r, p, anew, ex, rfl, _⟩ := h
    rfl
  · have nd := sc_Shop_waiting.nd
    obtain ⟨J, F, R, hd, j, h, q⟩ := h
    obtain ⟨F0, A, t, w, r, p, anew, ex, rfl, rfl, rfl, hG, hok, hm5, k⟩ := h
    refine ⟨_, (pss_one (ps_ret (pe_lc (own := [("machine", 1)]) (te := (tVar 1)) (tt := (tB (tMeth _ "is_waiting" (LS (aWaiting K _)) [] E0 (tVar 1) tNil))) (by rfl) nd (pi_list (pe_fld (pv 0) rfl)) (blkOk_by (own := [("machine", 1)]) (N := N_Shop_waiting) (sc := defScope s_Shop__dot__waiting) (by decide +kernel)) (fun _ _ _ _ _ => (pg_name (i := 1) nd rfl (Or.inl rfl))) (fun _ _ _ _ _ => pts_one (pt_val (pe_meth0 (pv 1) M_is_waiting.cl M_is_waiting.m G_is_waiting (by exact hr.mono (by decide)) M_is_waiting.a .nil pass0))) (fun _ _ _ _ _ => (pv 1))))), ?_⟩
    refine LS.body j q ?_
    walk_at "ob"
    refine ew_lcL hd ?_
    walk_at "ob"
    refine ew_fld hd ?_
    walk_at "ob"
    refine ⟨A.a, A.C, A.dx, _, _, rfl, hG.cell, HR.cl, HR.no _ (by decide +kernel), lookup_nd (i := 5) (rfs_nd _ _ _ _ _ _) rfl, ?_⟩
    have hml : F A.ml = some (.lst (A.mads.map fun ad => .ref ad.a)) := hG.own.ex _ _ hG.ml
    refine ⟨A.ml, _, rfl, SqL.of hml, by rw [List.length_map, hG.len1]; omega, fun Dl hDl => ?_⟩
    refine ⟨fun i acc _ G => G = F ∧ acc = (lClaims w t i).map (fun c => refOf A c.k), ⟨rfl, rfl⟩, ?_, ?_, ?_⟩
    · rintro i acc _ G hi hg ⟨rfl, rfl⟩
      refine ⟨SqL.of hml, ?_⟩
      rw [List.length_map]
      exact lClaims_len i
    · rintro i acc x _ G hi hg ⟨rfl, rfl⟩
      have hd' := hd.jd (D := Dl) (acc := (lClaims w t i).map (fun c => refOf A c.k))
      have hil : i < w.ms.length := by
        have := (List.getElem?_eq_some_iff.mp hi).1
        rw [List.length_map, hG.len1] at this
        exact this
      obtain ⟨ad, m, ss, h1, h2, h3⟩ := hG.three hil
      have ex1 : x = .ref ad.a := by
        rw [List.getElem?_map, h1] at hi
        exact (Option.some.inj hi).symm
      subst ex1
      have hc := claim_iff hok h2 h3
      refine gw_name ⟨rfl, ?_⟩
      refine tw_B (ew_meth hd' ?_)
      walk_at "ob"
      refine ⟨ad.a, ad.dx, _, rfl, hG.mac h1 h2, mfs_no (by decide +kernel), aw_nil ⟨F0, ad.a, ad.dx, i, ad.sv, ss, m, rfl, hG.mobj h1 h2 h3, ?_⟩⟩
      walk_at "ob"
      refine ⟨fun hb => ?_, fun hb => ?_⟩
      · obtain ⟨st, hst, e⟩ := hc.1 (of_decide_eq_true hb)
        walk_at "ob"
        refine ⟨rfl, ?_⟩
        rw [lClaims, e, List.map_append]
        show _ ++ [V.ref ad.a] = _ ++ [refOf A (i : Int)]
        unfold refOf
        rw [Int.toNat_natCast, h1]
      · have e := hc.2 (of_decide_eq_false hb)
        refine ⟨rfl, ?_⟩
        rw [lClaims, e, List.append_nil]
    · rintro acc _ G hg ⟨rfl, rfl⟩
      rw [List.length_map, hG.len1]
      exact k Dl _ (Ex.new (.refl _) hg) hg upd_same

abbrev s_Shop__dot__end_steps : Stmt := inClass (top 34) 3
def N_Shop_end_steps : List Str := ["self", "over", "machine"]
theorem sc_Shop_end_steps : FnScope N_Shop_end_steps ["self"] (defScope s_Shop__dot__end_steps) := ⟨rfl, rfl, rfl, by decide +kernel, rfl, by decide +kernel, by decide +kernel⟩
theorem ok_Shop_end_steps {f : Addr} {fd : FuncData} {f1 f2 f3 f4 : Addr} {fd1 fd2 fd3 fd4 : FuncData} (Fn : Fun K "end_steps" "Shop.end_steps" s_Shop__dot__end_steps f fd) (B : Blt mg) (HR : ClsF K C rkeys) (HM : ClsF K M mkeys) (M_put_in : Met K C "put_in" f1 fd1 ["self", "many"]) (G_put_in : FnOk P w K mg base CX0 1 f1 fd1 ["self", "many"] (LS (aPutIn sh K C))) (M_end_step : Met K M "end_step" f2 fd2 ["self", "beat"]) (G_end_step : FnOk P w K mg base CX0 1 f2 fd2 ["self", "beat"] (LS (aEndS K M))) (M_is_done : Met K M "is_done" f3 fd3 ["self"]) (G_is_done : FnOk P w K mg base CX0 1 f3 fd3 ["self"] (LS (aDone K M))) (M_begin_anew : Met K M "begin_anew" f4 fd4 ["self"]) (G_begin_anew : FnOk P w K mg base CX0 1 f4 fd4 ["self"] (LS (aAnew K M))) : FnOk P w K mg base CX0 2 f fd ["self"] (LS (aEndSteps sh K C M)) := by
  refine Fn.ok sc_Shop_end_steps (fun vs H Q E h => ?_) (fun cdv A outer s H vs Q E hr h => ?_)
  · obtain ⟨J, F, R, hd, j, h, _⟩ := h
    obtain ⟨F0, A, t, w, r, p, anew, ex, rfl, _⟩ := h
    rfl
  · have nd := sc_Shop_end_steps.nd
    obtain ⟨J, F, R, hd, j, h, q⟩ := h
    obtain ⟨F0, A, t, w, r, p, anew, ex, rfl, rfl, rfl, hG, hok, hm5, k⟩ := h
    refine ⟨_, (pss_cons (ps_set (i := 1) nd rfl (Or.inl rfl) (pe_lst pa_nil))
      (pss_cons (ps_for PassesOwn.never rfl (pi_list (pe_fld (pv 0) rfl)) (pg_name (i := 2) nd rfl (Or.inl rfl)) (pss_one (ps_if (pt_cmpR op_eq (pe_fld (pv 2) rfl) (pe_fld (pv 0) rfl) (nomark _)) (pss_cons (ps_expr (pe_meth (pv 0) M_put_in.cl M_put_in.m G_put_in (by exact hr.mono (by decide)) M_put_in.a .nil pass0 (pa_cons (pe_meth (pv 2) M_end_step.cl M_end_step.m G_end_step (by exact hr.mono (by decide)) M_end_step.a .nil pass0 (pa_cons (pe_fld (pv 0) rfl) pa_nil)) pa_nil)))
      (pss_cons (ps_expr (pe_bm PySem.F.plainAttrs_list PySem.F.slot_list_append PySem.F.type_list_append mt_append (pv 1) (pa_cons (pe_fld (pv 2) rfl) pa_nil)))
      (pss_one (ps_if (PW.pt (pw_and (pt_truth (pe_fld (pv 0) rfl) (by intro _; rfl)) (pw_and1 (pt_val (pe_meth0 (pv 2) M_is_done.cl M_is_done.m G_is_done (by exact hr.mono (by decide)) M_is_done.a .nil pass0))))) (pss_one (ps_expr (pe_meth0 (pv 2) M_begin_anew.cl M_begin_anew.m G_begin_anew (by exact hr.mono (by decide)) M_begin_anew.a .nil pass0))) pss_nil)))) pss_nil)))
      (pss_one (ps_ret (pv 1))))), ?_⟩
    refine LS.body j q ?_
    walk_at "ob"
    refine ⟨by walk_at "ob_len", fun ov hov => ?_⟩
    have g0 := hG.more (o := .lst []) hov
    walk_at "ob"
    refine sw_forL hd ?_
    refine ew_fld hd ?_
    walk_at "ob"
    refine ⟨A.a, A.C, A.dx, _, _, rfl, g0.cell, HR.cl, HR.no _ (by decide +kernel), lookup_nd (i := 5) (rfs_nd _ _ _ _ _ _) rfl, ?_⟩
    have hmlF : ∀ (G : Hp) (t' : LSt) (ex' : List (Addr × HO)), SAt sh K F0 G A t' w r p anew ex' → G A.ml = some (.lst (A.mads.map fun ad => .ref ad.a)) := fun G t' ex' h => h.own.ex _ _ h.ml
    refine ⟨A.ml, _, fun i σ _ G => ∃ (x2 : Option V) (vs : List V), σ = [some (.ref A.a), some (.ref ov), x2] ∧ SAt sh K F0 G A (lEnds w anew t i) w r p anew ((ov, .lst vs) :: ex) ∧ vs = (overs t i).map V.int, rfl, SqL.of (hmlF _ _ _ g0), ⟨none, [], rfl, g0, rfl⟩, ?_, ?_, ?_⟩
    · rintro i σ _ G hi ⟨x2, vs, rfl, hX, _⟩
      exact SqL.of (hmlF _ _ _ hX)
    · rintro i x σ _ G hi ⟨x2, vs, rfl, hX, hvl⟩
      have hil : i < w.ms.length := by
        have := (List.getElem?_eq_some_iff.mp hi).1
        rw [List.length_map, hG.len1] at this
        exact this
      have hoki := lEnds_ok (anew := anew) hok i
      obtain ⟨ad, m, ss, h1, h2, h3⟩ := hX.three hil
      have ex1 : x = .ref ad.a := by
        rw [List.getElem?_map, h1] at hi
        exact (Option.some.inj hi).symm
      subst ex1
      have hmo := hoki.m i m ss h2 h3
      have hti : t.ms[i]? = some m := by rw [lEnds_ms (by omega) h3, if_neg (by omega)] at h2; exact h2
      have hlen : vs.length ≤ i := by rw [hvl, List.length_map]; exact overs_len _
      have fin : ∀ (T : LSt) (G' : Hp) (vs' : List V), SAt sh K F0 G' A T w r p anew ((ov, .lst vs') :: ex) → ((lEnd w anew (lEnds w anew t i) i).ms.map mcore = T.ms.map mcore ∧ (lEnd w anew (lEnds w anew t i) i).level = T.level ∧ (lEnd w anew (lEnds w anew t i) i).last = T.last ∧ (lEnd w anew (lEnds w anew t i) i).beat = T.beat) → vs' = (overs t (i + 1)).map V.int → ∃ (x2 : Option V) (vs : List V), ([some (.ref A.a), some (.ref ov), some (.ref ad.a)] : L2.St) = [some (.ref A.a), some (.ref ov), x2] ∧ SAt sh K F0 G' A (lEnds w anew t (i + 1)) w r p anew ((ov, .lst vs) :: ex) ∧ vs = (overs t (i + 1)).map V.int :=
        fun T G' vs' h e hl => ⟨_, vs', rfl, by rw [lEnds]; exact h.same e.1 e.2.1 e.2.2.1 e.2.2.2, hl⟩
      walk_at "ob"
      refine ew_fld hd ?_
      walk_at "ob"
      refine ⟨ad.a, A.M, ad.dx, _, _, rfl, hX.mac h1 h2, HM.cl, HM.no _ (by decide +kernel), lookup_nd (i := 3) (mfs_nd _ _ _) rfl, ?_⟩
      walk_at "ob"
      refine ew_fld hd ?_
      walk_at "ob"
      refine ⟨A.a, A.C, A.dx, _, _, rfl, hX.cell, HR.cl, HR.no _ (by decide +kernel), lookup_nd (i := 4) (rfs_nd _ _ _ _ _ _) rfl, ?_⟩
      refine rw_eq (by unfold ovV; split <;> rfl) ?_
      walk_at "ob"
      have hb0 := hoki.b
      have edec : decide (ovV m.over = V.int (lEnds w anew t i).beat) = decide (m.over = (lEnds w anew t i).beat) := by
        unfold ovV
        by_cases c : m.over < 0
        · rw [if_pos c, decide_eq_false (by omega : ¬ m.over = _)]
          exact decide_eq_false (fun e => by cases e)
        · rw [if_neg c, dec_vint]
      rw [edec]
      refine ⟨fun hb => ?_, fun hb => ?_⟩
      · have hov2 := of_decide_eq_true hb
        have hlt2 := hmo.o (by rw [hov2]; exact hb0)
        obtain ⟨st, hst⟩ : ∃ st, ss[m.at_.toNat]? = some st := ⟨_, List.getElem?_eq_getElem (by have := hmo.a0; omega)⟩
        walk_at "ob"
        refine ew_meth hd ?_
        walk_at "ob"
        refine ⟨A.a, A.dx, _, rfl, hX.cell, rfs_no (by decide +kernel), ?_⟩
        walk_at "ob"
        refine ew_meth hd ?_
        walk_at "ob"
        refine ⟨ad.a, ad.dx, _, rfl, hX.mac h1 h2, mfs_no (by decide +kernel), ?_⟩
        walk_at "ob"
        refine ew_fld hd ?_
        walk_at "ob"
        refine ⟨A.a, A.C, A.dx, _, _, rfl, hX.cell, HR.cl, HR.no _ (by decide +kernel), lookup_nd (i := 4) (rfs_nd _ _ _ _ _ _) rfl, ?_⟩
        walk_at "ob"
        refine ⟨F0, ad.a, ad.dx, i, ad.sv, ss, m, st, _, rfl, hX.mobj h1 h2 h3, hmo.a0, hst, ?_⟩
        have hX1 := hX.mput h1 h2 (m' := { m with at_ := m.at_ + 1, over := -1, since := (lEnds w anew t i).beat }) (t' := { lEnds w anew t i with ms := (lEnds w anew t i).ms.set i { m with at_ := m.at_ + 1, over := -1, since := (lEnds w anew t i).beat } }) rfl rfl
        walk_at "ob"
        refine ⟨A, _, w, r, p, anew, st.back, rfl, rfl, hX1.cell, ?_⟩
        have hX2 := hX1.put (t' := { lEnds w anew t i with level := minI w.cap ((lEnds w anew t i).level + st.back), ms := (lEnds w anew t i).ms.set i { m with at_ := m.at_ + 1, over := -1, since := (lEnds w anew t i).beat } }) rfl
        have hkl : i < (lEnds w anew t i).ms.length := (List.getElem?_eq_some_iff.mp h2).1
        have h2' : ((lEnds w anew t i).ms.set i { m with at_ := m.at_ + 1, over := -1, since := (lEnds w anew t i).beat })[i]? = some { m with at_ := m.at_ + 1, over := -1, since := (lEnds w anew t i).beat } := by rw [List.getElem?_set_self hkl]
        walk_at "ob"
        refine ew_bmL hd ?_
        walk_at "ob"
        refine ⟨ov, vs, rfl, SqL.of hX2.ex0, ?_⟩
        walk_at "ob"
        refine ew_fld hd ?_
        walk_at "ob"
        refine ⟨ad.a, A.M, ad.dx, _, _, rfl, hX2.mac h1 h2', HM.cl, HM.no _ (by decide +kernel), lookup_nd (i := 0) (mfs_nd _ _ _) rfl, ?_⟩
        walk_at "ob"
        refine mw_append hd hX2.ex0 (by omega) ?_
        have hX3 := hX2.exset (o' := .lst (vs ++ [.int (i : Int)]))
        have hvl2 : vs ++ [V.int (i : Int)] = (overs t (i + 1)).map V.int := by rw [overs, hti, hvl, List.map_append]; simp only []; rw [if_pos (by rw [hov2, lEnds_beat])]; rfl
        refine sw_if (tw_and (tw_truB ?_))
        refine ew_fld hd ?_
        walk_at "ob"
        refine ⟨A.a, A.C, A.dx, _, _, rfl, hX3.cell, HR.cl, HR.no _ (by decide +kernel), lookup_nd (i := 3) (rfs_nd _ _ _ _ _ _) rfl, ?_⟩
        have hno : ¬ (anew = true ∧ m.at_ + 1 = (ss.length : Int)) → (lEnd w anew (lEnds w anew t i) i).ms.map mcore = ((lEnds w anew t i).ms.set i { m with at_ := m.at_ + 1, over := -1, since := (lEnds w anew t i).beat }).map mcore ∧ (lEnd w anew (lEnds w anew t i) i).level = minI w.cap ((lEnds w anew t i).level + st.back) ∧ (lEnd w anew (lEnds w anew t i) i).last = (lEnds w anew t i).last ∧ (lEnd w anew (lEnds w anew t i) i).beat = (lEnds w anew t i).beat := fun hn => by
          unfold lEnd
          rw [h2, h3]
          simp only [hst]
          rw [if_pos hov2]
          by_cases c : m.at_ + 1 = (ss.length : Int)
          · have ea : anew = false := by cases anew with | false => rfl | true => exact absurd ⟨rfl, c⟩ hn
            rw [if_pos c, ea]
            refine ⟨?_, rfl, rfl, rfl⟩
            simp only [List.map_set]
            rfl
          · rw [if_neg c]
            refine ⟨?_, rfl, rfl, rfl⟩
            simp only [List.map_set]
            rfl
        refine ⟨_, rfl, fun ha => ?_, fun ha => ?_⟩
        · refine tw_B (ew_meth hd ?_)
          walk_at "ob"
          refine ⟨ad.a, ad.dx, _, rfl, hX3.mac h1 h2', mfs_no (by decide +kernel), aw_nil ⟨F0, ad.a, ad.dx, i, ad.sv, ss, _, rfl, hX3.mobj h1 h2' h3, ?_⟩⟩
          walk_at "ob"
          refine ⟨fun hc => ?_, fun hc => ?_⟩
          · have hc2 : m.at_ + 1 = (ss.length : Int) := of_decide_eq_true hc
            walk_at "ob"
            refine ew_meth hd ?_
            walk_at "ob"
            refine ⟨ad.a, ad.dx, _, rfl, hX3.mac h1 h2', mfs_no (by decide +kernel), aw_nil ⟨F0, ad.a, ad.dx, i, ad.sv, ss, _, rfl, hX3.mobj h1 h2' h3, ?_⟩⟩
            have hX4 := hX3.mput h1 h2' (m' := { m with at_ := 0, over := -1, since := (lEnds w anew t i).beat }) (t' := { lEnds w anew t i with level := minI w.cap ((lEnds w anew t i).level + st.back), ms := ((lEnds w anew t i).ms.set i { m with at_ := m.at_ + 1, over := -1, since := (lEnds w anew t i).beat }).set i { m with at_ := 0, over := -1, since := (lEnds w anew t i).beat } }) rfl rfl
            refine fin _ _ _ hX4 ?_ hvl2
            unfold lEnd
            rw [h2, h3]
            simp only [hst]
            rw [if_pos hov2, if_pos hc2, List.set_set]
            refine ⟨?_, rfl, rfl, rfl⟩
            simp only [List.map_set]
            rw [ha]
            rfl
          · walk_at "ob"
            exact fin _ _ _ hX3 (hno fun z => of_decide_eq_false hc z.2) hvl2
        · refine ⟨(fun z => by cases z), fun _ => ?_⟩
          walk_at "ob"
          exact fin _ _ _ hX3 (hno fun z => by rw [ha] at z; cases z.1) hvl2
      · have hov2 := of_decide_eq_false hb
        walk_at "ob"
        have e : lEnd w anew (lEnds w anew t i) i = lEnds w anew t i := by
          unfold lEnd
          rw [h2, h3]
          simp only []
          rw [if_neg hov2]
        exact fin _ _ vs hX (by rw [e]; exact ⟨rfl, rfl, rfl, rfl⟩) (by rw [overs, hti, hvl]; simp only []; rw [if_neg (by rw [lEnds_beat] at hov2; exact hov2), List.append_nil])
    · rintro σ _ G ⟨x2, vs, rfl, hX, hvl⟩
      rw [List.length_map, hG.len1] at hX hvl
      subst hvl
      walk_at "ob"
      exact k ov _ hX
end
end Obr
namespace Obr
open PySem L2 PyProof.Rows
/-! ### pairs of ints -/
def pairOf (F : Hp) (x : V) : Int × Int := match x with
  | .ref t => match F t with
    | some (.tup [.int i, .int j]) => (i, j)
    | _ => (0, 0)
  | _ => (0, 0)
/-- the pairs of ints at these -/
inductive Prs (F : Hp) : List V → List (Int × Int) → Prop
  | nil : Prs F [] []
  | cons {t : Addr} {p : Int × Int} {xs : List V} {ps : List (Int × Int)} (h : F t = some (.tup [.int p.1, .int p.2])) (r : Prs F xs ps) : Prs F (.ref t :: xs) (p :: ps)
theorem Prs.map {F : Hp} : ∀ {xs ps}, Prs F xs ps → xs.map (pairOf F) = ps
  | _, _, .nil => rfl
  | _, _, .cons (t := t) (p := p) h r => by
    rw [List.map_cons, r.map]
    have e : pairOf F (.ref t) = p := by
      unfold pairOf
      simp only [h]
    rw [e]
theorem Prs.at {F : Hp} : ∀ {xs ps}, Prs F xs ps → ∀ x ∈ xs, ∃ t, x = V.ref t ∧ F t = some (.tup [.int (pairOf F x).1, .int (pairOf F x).2])
  | _, _, .cons (t := t) (p := p) h r, x, hx => by
    rcases List.mem_cons.mp hx with e | hx
    · subst e
      refine ⟨t, rfl, ?_⟩
      have e : pairOf F (.ref t) = p := by
        unfold pairOf
        simp only [h]
      rw [e]
      exact h
    · exact r.at x hx
theorem Prs.len {F : Hp} : ∀ {xs ps}, Prs F xs ps → xs.length = ps.length
  | _, _, .nil => rfl
  | _, _, .cons h r => by rw [List.length_cons, List.length_cons, r.len]
theorem Prs.ex {F G : Hp} (g : Ex F G) : ∀ {xs ps}, Prs F xs ps → Prs G xs ps
  | _, _, .nil => .nil
  | _, _, .cons h r => .cons (g _ _ h) (r.ex g)
theorem Prs.snoc {F : Hp} {t : Addr} {p : Int × Int} (h : F t = some (.tup [.int p.1, .int p.2])) : ∀ {xs ps}, Prs F xs ps → Prs F (xs ++ [.ref t]) (ps ++ [p])
  | _, _, .nil => .cons h .nil
  | _, _, .cons h1 r => .cons h1 (r.snoc h)
end Obr
namespace Obr
open PySem L2 PyProof.Rows
local macro_rules | `(tactic| walk_at "ob_at") => `(tactic| first
  | assumption
  | exact upd_same
  | (refine Eq.trans (upd_ne ?obn) ?obr; (case obn => walk_at "ob_ne"); (case obr => walk_at "ob_at")))
local macro_rules | `(tactic| walk_at "ob_ne") => `(tactic| first
  | assumption
  | (refine Ne.symm ?obs; (case obs => assumption))
  | (refine' ne_of_none (H := ?_) ?obe ?obh; (case obh => assumption); (case obe => walk_at "ob_at"))
  | (refine Ne.symm ?obs; (case obs => (refine' ne_of_none (H := ?_) ?obe ?obh; (case obh => assumption); (case obe => walk_at "ob_at")))))
local macro_rules | `(tactic| walk_at "ob_fr") => `(tactic| first
  | assumption
  | (refine Eq.trans (upd_ne ?obn) ?obr; (case obn => walk_at "ob_ne"); (case obr => walk_at "ob_fr"))
  | (refine Ex.free (G := ?_) (by assumption) ?obh; (case obh => walk_at "ob_fr")))
local macro_rules | `(tactic| walk_at "ob_ex") => `(tactic| first
  | assumption
  | exact Ex.refl _
  | (refine Ex.out ?obg ?obh; (case obh => assumption); (case obg => walk_at "ob_ex"))
  | (refine Ex.new ?obg ?obh; (case obh => assumption); (case obg => walk_at "ob_ex"))
  | (refine Ex.new ?obg ?obh; (case obh => walk_at "ob_fr"); (case obg => walk_at "ob_ex")))
local macro_rules | `(tactic| walk_at "ob_sq") => `(tactic| first
  | assumption
  | (refine SqL.of ?oba; (case oba => walk_at "ob_at"))
  | (refine Ex.sqT (F := ?_) ?obg ?obh; (case obh => assumption); (case obg => walk_at "ob_ex"))
  | (refine Ex.sqL (F := ?_) ?obg ?obh; (case obh => assumption); (case obg => walk_at "ob_ex"))
  | (refine SqT.of ?oba; (case oba => walk_at "ob_at")))
local macro_rules | `(tactic| walk_at "ob_side") => `(tactic| first | exact rfl | assumption | decide | omega | exact ⟨by decide, by decide, by decide⟩ | exact Or.inr ⟨by decide, by decide⟩ | exact Or.inl ⟨by decide, by decide⟩ | exact wide_div (b := 60) (by first | decide | omega) (by first | decide | omega) (by decide) (by decide))
local macro_rules | `(tactic| walk_at "ob1") => `(tactic| first
  | with_reducible refine sw_seq ?_
  | with_reducible refine sw_asg ?_
  | with_reducible refine sw_ret ?_
  | with_reducible refine sw_par ?_
  | with_reducible refine ⟨_, _, rfl, ?_⟩
  | with_reducible refine sw_drop ?_
  | with_reducible refine sw_if ?_
  | with_reducible refine sw_next ?_
  | with_reducible refine gw_name ?_
  | with_reducible refine gw_subL (by assumption) ?_
  | with_reducible refine gsw_cons ?_
  | with_reducible refine gsw_nil ?_
  | with_reducible refine ew_c ?_
  | ((with_reducible refine' ew_var (v := ?_) ?obv ?_); (case obv => exact rfl))
  | ((with_reducible refine ew_next (by assumption) ?obv ?_); (case obv => exact rfl))
  | ((with_reducible refine ew_world (by assumption) ?obv ?_); (case obv => exact rfl))
  | ((with_reducible refine ew_rule (by assumption) ?obv ?_); (case obv => exact rfl))
  | with_reducible refine ew_op ?_
  | with_reducible refine ew_un ?_
  | with_reducible refine ew_dget (by assumption) ?_
  | with_reducible refine uw_I ?_
  | with_reducible refine ppw_nil ?_
  | with_reducible refine ppw_cons ?_
  | with_reducible refine sw_dput (by assumption) ?_
  | with_reducible refine ew_cb ?_
  | with_reducible refine ew_if ?_
  | with_reducible refine ew_slL (by assumption) ?_
  | with_reducible refine ow_some ?_
  | with_reducible refine ow_none ?_
  | with_reducible refine aw_nil ?_
  | with_reducible refine aw_cons ?_
  | with_reducible refine rw_I0 ?_
  | ((with_reducible refine rw_I ?obc ?_); (case obc => walk_at "ob_side"))
  | with_reducible refine rw_isN ?_
  | with_reducible refine rw_notN ?_
  | ((with_reducible refine rw_eq ?obc ?_); (case obc => exact rfl))
  | ((with_reducible refine rw_ne ?obc ?_); (case obc => exact rfl))
  | with_reducible refine cw_max2 ?_
  | with_reducible refine cw_min2 ?_
  | with_reducible refine tw_test ?_
  | with_reducible refine tw_B ?_
  | with_reducible refine tw_not ?_
  | with_reducible refine tw_truB ?_
  | with_reducible refine tw_and ?_
  | with_reducible refine tw_or ?_
  | with_reducible refine ew_and ?_
  | (refine' Exists.intro _ (And.intro (show V.bl _ = V.bl _ from rfl) ?_))
  | (refine' Exists.intro _ (And.intro (show V.int _ = V.int _ from rfl) ?_))
  | ((with_reducible refine' rw_ixL (v := ?_) (xs := ?_) (by assumption) ?obl ?oba ?_); (case obl => walk_at "ob_sq"); (case oba => first | exact rfl | exact at_zero))
  | ((with_reducible refine' rw_ixT (v := ?_) (xs := ?_) (by assumption) ?obl ?oba ?_); (case obl => walk_at "ob_sq"); (case oba => first | exact rfl | exact at_zero))
  | ((with_reducible refine' ew_lst (by assumption) ?_))
  | ((with_reducible refine' ew_tup (by assumption) ?_)))
local macro_rules | `(tactic| walk_at "ob_len") => `(tactic| first | exact Nat.le_of_ble_eq_true rfl | (simp; done) | omega)
local macro_rules | `(tactic| walk_at "ob") => `(tactic| repeat walk_at "ob1")

/-! ### the rights -/
theorem cw_sortedPO {S : Type} {J : S → Hp → Hp → Prop} {K : PySem.W.Frag} {s : S} {F : Hp} {R : V → S → Hp → Prop} (hd : Hid J) {a : Addr} {xs : List V} {k : V → Int × Int} (l : SqL K F a xs) (hx : ∀ x ∈ xs, ∃ t, x = V.ref t ∧ F t = some (.tup [.int (k x).1, .int (k x).2]))
    (h : ∀ ys p, SrtO.Srtd (ltP k) ys → SrtO.Stb (ltP k) ys xs → F p = none → R (.ref p) s (upd F p (.lst ys))) : CW J (rSortedPO K) [.ref a] s F R := fun H j Q q =>
  ⟨a, xs, k, rfl, hd.sqL j l, fun x m => by obtain ⟨t, e, h⟩ := hx x m; exact ⟨t, e, hd.ex j _ _ h⟩, fun ys p h1 h2 hp => q _ _ _ _ (hd.al j hp) (h ys p h1 h2 (hd.fresh j hp))⟩
theorem perm_lift {α β : Type} (g : α → β) : ∀ {l m : List β}, l.Perm m → ∀ {cs : List α}, cs.map g = m → ∃ ts : List α, ts.Perm cs ∧ ts.map g = l := by
  intro l m h
  induction h with
  | nil => intro cs e; exact ⟨[], by cases cs with | nil => exact .nil | cons => simp at e, rfl⟩
  | cons x _ ih =>
    intro cs e
    cases cs with
    | nil => simp at e
    | cons c cs =>
      simp at e
      obtain ⟨ts, h1, h2⟩ := ih e.2
      exact ⟨c :: ts, h1.cons c, by rw [List.map_cons, h2, e.1]⟩
  | swap x y l =>
    intro cs e
    match cs, e with
    | a :: b :: cs, e =>
      simp at e
      refine ⟨b :: a :: cs, .swap a b cs, ?_⟩
      rw [List.map_cons, List.map_cons, e.1, e.2.1, e.2.2]
  | trans _ _ ih1 ih2 =>
    intro cs e
    obtain ⟨ts, h1, h2⟩ := ih2 e
    obtain ⟨us, h3, h4⟩ := ih1 h2
    exact ⟨us, h3.trans h1, h4⟩
def aBehind (K : PySem.W.Frag) : List V → Hp → VK → Prop := fun vs F R => ∃ (last : Int) (na : Addr) (ns : List Int), vs = [.int last, .ref na] ∧ SqL K F na (ns.map V.int) ∧ ns.length ≤ 100 ∧
  ∀ (q : Addr) (F' : Hp), Ex F F' → F q = none → F' q = some (.lst ((ns.filter (fun n => decide (last < n)) ++ ns.filter (fun n => decide (n ≤ last))).map V.int)) → R (.ref q) F'
def aLeast (K : PySem.W.Frag) : List V → Hp → VK → Prop := fun vs F R => ∃ (pa : Addr) (xs : List V) (ps : List (Int × Int)), vs = [.ref pa] ∧ SqL K F pa xs ∧ Prs F xs ps ∧ ps.length ≤ 100 ∧
  ∀ (q : Addr) (F' : Hp) (qs : List (Int × Int)), qs.Perm ps → SrtO.Srtd SrtO.lexB qs → Ex F F' → F q = none → F' q = some (.lst (qs.map fun x => V.int x.2)) → R (.ref q) F'
def aInTurn (K : PySem.W.Frag) (M : Addr) : List V → Hp → VK → Prop := fun vs F R => ∃ (F0 : Hp) (A : RAd) (t : LSt) (w : Wld) (r : Rgt) (p anew : Bool) (ex : List (Addr × HO)) (wa : Addr), vs = [.str (rgtS r), ovV t.last, .ref wa] ∧ A.M = M ∧ RunAt K F0 F A t w r p anew ex ∧ LOk w t ∧ w.ms.length ≤ 5 ∧
  F wa = some (.lst ((lClaims w t w.ms.length).map fun c => refOf A c.k)) ∧
  ∀ (q : Addr) (F' : Hp) (ts : List Clm), TurnOk r t.last (lClaims w t w.ms.length) ts → Ex F F' → F q = none → F' q = some (.lst (ts.map fun c => V.int c.k)) → R (.ref q) F'
theorem lClaims_srt {w : Wld} {t : LSt} : ∀ n : Nat, ((lClaims w t n).map Clm.k).Pairwise (· < ·)
  | 0 => List.Pairwise.nil
  | n + 1 => by
    rw [lClaims, List.map_append, List.pairwise_append]
    refine ⟨lClaims_srt n, ?_, ?_⟩
    · have h1 : (lClaim w t n).length ≤ 1 := by
        unfold lClaim
        repeat' split
        all_goals simp
      match e : lClaim w t n, h1 with
      | [], _ => exact List.Pairwise.nil
      | [x], _ => simp
      | x :: y :: l, h1 => simp at h1
    · intro a ha b hb
      obtain ⟨c, hc, rfl⟩ := List.mem_map.mp ha
      obtain ⟨c', hc', rfl⟩ := List.mem_map.mp hb
      obtain ⟨j, hj, hcj⟩ := lClaims_mem hc
      obtain ⟨_, _, _, _, _, _, _, _, rfl⟩ := lClaim_mem hcj
      obtain ⟨_, _, _, _, _, _, _, _, rfl⟩ := lClaim_mem hc'
      show (j : Int) < n
      omega
theorem lClaims_k0 {w : Wld} {t : LSt} {n : Nat} {c : Clm} (h : c ∈ lClaims w t n) : 0 ≤ c.k ∧ c.k < n := by
  obtain ⟨j, hj, hcj⟩ := lClaims_mem h
  obtain ⟨_, _, _, _, _, _, _, _, rfl⟩ := lClaim_mem hcj
  show (0 : Int) ≤ j ∧ (j : Int) < n
  omega
/-- a list of claims by a key, then by number -/
theorem turn_of {r : Rgt} {last : Int} {cs ts : List Clm} (hp : ts.Perm cs) (hn : (cs.map Clm.k).Nodup) (hs : SrtO.Srtd SrtO.lexB (ts.map fun c => (ckey r last c, c.k))) : TurnOk r last cs ts := by
  refine ⟨hp, ?_⟩
  have h1 : ts.Pairwise (fun a b => SrtO.lexB (ckey r last b, b.k) (ckey r last a, a.k) = false) := List.pairwise_map.mp hs
  have h2 : ts.Pairwise (fun a b => a.k ≠ b.k) := List.pairwise_map.mp ((hp.map Clm.k).nodup_iff.mpr hn)
  refine (h1.and h2).imp fun {a b} h => ?_
  obtain ⟨h3, h4⟩ := h
  have := SrtO.lexB_no.mp h3
  simp only at this
  unfold cLt
  omega
section
variable {P : Program} {w : World} {K : PySem.W.Frag} {mg : Str → Option Value} {base : Heap} {M : Addr}

abbrev s_behind_first : Stmt := top 16
def N_behind_first : List Str := ["last", "numbers", "number"]
theorem sc_behind_first : FnScope N_behind_first ["last", "numbers"] (defScope s_behind_first) := ⟨rfl, rfl, rfl, by decide +kernel, rfl, by decide +kernel, by decide +kernel⟩
theorem ok_behind_first {f : Addr} {fd : FuncData}  (Fn : Fun K "behind_first" "behind_first" s_behind_first f fd) (B : Blt mg)  : FnOk P w K mg base CX0 1 f fd ["last", "numbers"] (LS (aBehind K)) := by
  refine Fn.ok sc_behind_first (fun vs H Q E h => ?_) (fun cdv A outer s H vs Q E hr h => ?_)
  · obtain ⟨J, F, R, hd, j, h, _⟩ := h
    obtain ⟨last, na, ns, rfl, _⟩ := h
    rfl
  · have nd := sc_behind_first.nd
    obtain ⟨J, F, R, hd, j, h, q⟩ := h
    obtain ⟨last, na, ns, rfl, hl, hn, k⟩ := h
    refine ⟨_, (pss_one (ps_ret (pe_op op_cat (pe_lc (own := [("number", 2)]) (te := (tVar 2)) (tt := (tTest (tOp (rI0 fun i j => .bl (decide (j < i))) (tVar 2) (tVar 0)))) (by rfl) nd (pi_list (pv 1)) (blkOk_by (own := [("number", 2)]) (N := N_behind_first) (sc := defScope s_behind_first) (by decide +kernel)) (fun _ _ _ _ _ => (pg_name (i := 2) nd rfl (Or.inl rfl))) (fun _ _ _ _ _ => pts_one (pt_cmpR op_gt (pv 2) (pv 0) (nomark _))) (fun _ _ _ _ _ => (pv 2))) (pe_lc (own := [("number", 2)]) (te := (tVar 2)) (tt := (tTest (tOp (rI0 fun i j => .bl (decide (i ≤ j))) (tVar 2) (tVar 0)))) (by rfl) nd (pi_list (pv 1)) (blkOk_by (own := [("number", 2)]) (N := N_behind_first) (sc := defScope s_behind_first) (by decide +kernel)) (fun _ _ _ _ _ => (pg_name (i := 2) nd rfl (Or.inl rfl))) (fun _ _ _ _ _ => pts_one (pt_cmpR op_le (pv 2) (pv 0) (nomark _))) (fun _ _ _ _ _ => (pv 2)))))), ?_⟩
    refine LS.body j q ?_
    refine sw_ret (ew_op ?_)
    refine ew_lcL hd ?_
    walk_at "ob"
    refine ⟨na, _, rfl, hl, by rw [List.length_map]; omega, fun Dl hDl => ?_⟩
    refine ⟨fun i acc _ G => F = G ∧ acc = ((ns.take i).filter (fun n => decide (last < n))).map V.int, ⟨rfl, rfl⟩, ?_, ?_, ?_⟩
    · rintro i acc _ G hi hg ⟨rfl, rfl⟩
      refine ⟨hl, ?_⟩
      rw [List.length_map]
      refine Nat.le_trans (List.length_filter_le ..) ?_
      rw [List.length_take]
      omega
    · rintro i acc x _ G hi hg ⟨rfl, rfl⟩
      have hd' := hd.jd (D := Dl) (acc := ((ns.take i).filter (fun n => decide (last < n))).map V.int)
      rw [List.getElem?_map] at hi
      obtain ⟨n, hn, rfl⟩ := Option.map_eq_some_iff.mp hi
      have e : ns.take (i + 1) = ns.take i ++ [n] := by rw [List.take_succ, hn]; rfl
      refine gw_name ⟨rfl, ?_⟩
      walk_at "ob"
      refine ⟨fun hb => ?_, fun hb => ?_⟩
      · walk_at "ob"
        refine ⟨rfl, ?_⟩
        rw [e, List.filter_append, List.filter_cons_of_pos (p := (fun n => decide (last < n))) hb, List.map_append]
        rfl
      · refine ⟨rfl, ?_⟩
        rw [e, List.filter_append, List.filter_cons_of_neg (p := (fun n => decide (last < n))) (by rw [hb]; decide), List.filter_nil, List.append_nil]
    · rintro acc _ G hg ⟨rfl, rfl⟩
      rw [List.length_map, List.take_length]

      have g1 : Ex F (upd F Dl (.lst ((ns.filter (fun n => decide (last < n))).map V.int))) := Ex.new (.refl _) hg
      have hl1 := Ex.sqL g1 hl
      refine ew_lcL hd ?_
      walk_at "ob"
      refine ⟨na, _, rfl, hl1, by rw [List.length_map]; omega, fun D2 hD2 => ?_⟩
      refine ⟨fun i acc _ G => _ = G ∧ acc = ((ns.take i).filter (fun n => decide (n ≤ last))).map V.int, ⟨rfl, rfl⟩, ?_, ?_, ?_⟩
      · rintro i acc _ G hi hg ⟨rfl, rfl⟩
        refine ⟨hl1, ?_⟩
        rw [List.length_map]
        refine Nat.le_trans (List.length_filter_le ..) ?_
        rw [List.length_take]
        omega
      · rintro i acc x _ G hi hg ⟨rfl, rfl⟩
        have hd' := hd.jd (D := D2) (acc := ((ns.take i).filter (fun n => decide (n ≤ last))).map V.int)
        rw [List.getElem?_map] at hi
        obtain ⟨n, hn, rfl⟩ := Option.map_eq_some_iff.mp hi
        have e : ns.take (i + 1) = ns.take i ++ [n] := by rw [List.take_succ, hn]; rfl
        refine gw_name ⟨rfl, ?_⟩
        walk_at "ob"
        refine ⟨fun hb => ?_, fun hb => ?_⟩
        · walk_at "ob"
          refine ⟨rfl, ?_⟩
          rw [e, List.filter_append, List.filter_cons_of_pos (p := (fun n => decide (n ≤ last))) hb, List.map_append]
          rfl
        · refine ⟨rfl, ?_⟩
          rw [e, List.filter_append, List.filter_cons_of_neg (p := (fun n => decide (n ≤ last))) (by rw [hb]; decide), List.filter_nil, List.append_nil]
      · rintro acc _ G hg ⟨rfl, rfl⟩
        rw [List.length_map, List.take_length]
  
        have n12 : Dl ≠ D2 := ne_of_none upd_same hg
        have l1 : (ns.filter (fun n => decide (last < n))).length ≤ ns.length := List.length_filter_le ..
        have l2 : (ns.filter (fun n => decide (n ≤ last))).length ≤ ns.length := List.length_filter_le ..
        refine rw_cat hd (l := Dl) (b := D2) (xs := (ns.filter (fun n => decide (last < n))).map V.int) ?_ upd_same ?_ fun q hq => ?_
        · rw [upd_ne n12]; exact upd_same
        · rw [List.length_map, List.length_map]; omega
        refine k q _ ?_ ?_ ?_
        · exact Ex.new (Ex.new g1 hg) hq
        · exact Ex.free (Ex.new g1 hg) hq
        · rw [List.map_append]; exact upd_same

abbrev s_least_first : Stmt := top 15
def N_least_first : List Str := ["pairs", "_", "number"]
theorem sc_least_first : FnScope N_least_first ["pairs"] (defScope s_least_first) := ⟨rfl, rfl, rfl, by decide +kernel, rfl, by decide +kernel, by decide +kernel⟩
theorem ok_least_first {f : Addr} {fd : FuncData}  (Fn : Fun K "least_first" "least_first" s_least_first f fd) (B : Blt mg)  : FnOk P w K mg base CX0 1 f fd ["pairs"] (LS (aLeast K)) := by
  refine Fn.ok sc_least_first (fun vs H Q E h => ?_) (fun cdv A outer s H vs Q E hr h => ?_)
  · obtain ⟨J, F, R, hd, j, h, _⟩ := h
    obtain ⟨pa, xs, ps, rfl, _⟩ := h
    rfl
  · have nd := sc_least_first.nd
    obtain ⟨J, F, R, hd, j, h, q⟩ := h
    obtain ⟨pa, xs, ps, rfl, hl, hx, hn, k⟩ := h
    refine ⟨_, (pss_one (ps_ret (pe_lc (own := [("_", 1), ("number", 2)]) (g := (gTup K 2 (gCons (gName 1) (gCons (gName 2) gNil)))) (te := (tVar 2)) (tt := tYes) (by rfl) nd (pi_list (pe_callB cr_sortedPO (by rfl) B.sorted (by decide +kernel) (pa_cons (pv 0) pa_nil))) (blkOk_by (own := [("_", 1), ("number", 2)]) (N := N_least_first) (sc := defScope s_least_first) (by decide +kernel)) (fun _ _ _ _ _ => (pg_tup rfl (pgs_cons (pg_name (i := 1) nd rfl (Or.inl rfl)) (pgs_cons (pg_name (i := 2) nd rfl (Or.inl rfl)) pgs_nil)))) (fun _ _ _ _ _ => pts_nil) (fun _ _ _ _ _ => (pv 2))))), ?_⟩
    refine LS.body j q ?_
    refine sw_ret (ew_lcL hd ?_)
    walk_at "ob"
    refine cw_sortedPO hd hl hx.at fun ys l hs hst hpl => ?_
    have g1 : Ex F (upd F l (.lst ys)) := Ex.new (.refl _) hpl
    have hyl : ys.length = ps.length := by rw [hst.len, hx.len]
    have hym : ∀ y ∈ ys, ∃ t, y = V.ref t ∧ F t = some (.tup [.int (pairOf F y).1, .int (pairOf F y).2]) := fun y hy => hx.at y (hst.perm.mem_iff.mp hy)
    refine ⟨l, ys, rfl, SqL.of upd_same, by omega, fun Dl hDl => ?_⟩
    refine ⟨fun i acc _ G => upd F l (.lst ys) = G ∧ acc = (ys.take i).map fun y => V.int (pairOf F y).2, ⟨rfl, rfl⟩, ?_, ?_, ?_⟩
    · rintro i acc _ G hi hg ⟨rfl, rfl⟩
      refine ⟨SqL.of upd_same, ?_⟩
      rw [List.length_map, List.length_take]
      omega
    · rintro i acc x _ G hi hg ⟨rfl, rfl⟩
      have hd' := hd.jd (D := Dl) (acc := (ys.take i).map fun y => V.int (pairOf F y).2)
      obtain ⟨t, e, ht⟩ := hym x (List.mem_of_getElem? hi)
      have e2 : ys.take (i + 1) = ys.take i ++ [x] := by rw [List.take_succ, hi]; rfl
      refine gw_tup hd' ⟨t, _, e, SqT.of (g1 _ _ ht), rfl, ?_⟩
      walk_at "ob"
      refine ⟨rfl, ?_⟩
      refine tw_yes ⟨fun _ => ?_, (fun z => by cases z)⟩
      walk_at "ob"
      refine ⟨rfl, ?_⟩
      rw [e2, List.map_append]
      rfl
    · rintro acc _ G hg ⟨rfl, rfl⟩
      rw [List.take_length]
      refine k Dl _ (ys.map (pairOf F)) ?_ ?_ (Ex.new g1 hg) (Ex.free g1 hg) ?_
      · rw [← hx.map]; exact hst.perm.map _
      · exact SrtO.srtd_map hs
      · rw [upd_same, List.map_map]; rfl

abbrev s_in_turn : Stmt := top 14
def N_in_turn : List Str := ["right", "last", "waiting", "numbers", "machine"]
theorem sc_in_turn : FnScope N_in_turn ["right", "last", "waiting"] (defScope s_in_turn) := ⟨rfl, rfl, rfl, by decide +kernel, rfl, by decide +kernel, by decide +kernel⟩
theorem ok_in_turn {f : Addr} {fd : FuncData} {f1 f2 f3 : Addr} {fd1 fd2 fd3 : FuncData} (Fn : Fun K "in_turn" "in_turn" s_in_turn f fd) (B : Blt mg) (HM : ClsF K M mkeys) (Cleast_first : Cal K mg "least_first" f1 fd1 ["pairs"]) (Gleast_first : FnOk P w K mg base CX0 1 f1 fd1 ["pairs"] (LS (aLeast K))) (Cbehind_first : Cal K mg "behind_first" f2 fd2 ["last", "numbers"]) (Gbehind_first : FnOk P w K mg base CX0 1 f2 fd2 ["last", "numbers"] (LS (aBehind K))) (M_need : Met K M "need" f3 fd3 ["self"]) (G_need : FnOk P w K mg base CX0 1 f3 fd3 ["self"] (LS (aNeed K M))) : FnOk P w K mg base CX0 2 f fd ["right", "last", "waiting"] (LS (aInTurn K M)) := by
  refine Fn.ok sc_in_turn (fun vs H Q E h => ?_) (fun cdv A outer s H vs Q E hr h => ?_)
  · obtain ⟨J, F, R, hd, j, h, _⟩ := h
    obtain ⟨F0, A, t, w, r, p, anew, ex, wa, rfl, _⟩ := h
    rfl
  · have nd := sc_in_turn.nd
    obtain ⟨J, F, R, hd, j, h, q⟩ := h
    obtain ⟨F0, A, t, w, r, p, anew, ex, wa, rfl, rfl, hG, hok, hm5, hwa, k⟩ := h
    refine ⟨_, (pss_cons (ps_if (pt_cmpR op_eq (pv 0) pe_str (nomark _)) (pss_one (ps_ret (pe_call Gleast_first (by exact hr.mono (by decide)) (by rfl) Cleast_first.g Cleast_first.k Cleast_first.a .nil pass0 (pa_cons (pe_lc (own := [("machine", 4)]) (te := (tTup (tCons (tFld K (tVar 4) "since") (tCons (tFld K (tVar 4) "number") tNil)))) (tt := tYes) (by rfl) nd (pi_list (pv 2)) (blkOk_by (own := [("machine", 4)]) (N := N_in_turn) (sc := defScope s_in_turn) (by decide +kernel)) (fun _ _ _ _ _ => (pg_name (i := 4) nd rfl (Or.inl rfl))) (fun _ _ _ _ _ => pts_nil) (fun _ _ _ _ _ => (pe_tup (pa_cons (pe_fld (pv 4) rfl) (pa_cons (pe_fld (pv 4) rfl) pa_nil))))) pa_nil)))) pss_nil)
      (pss_cons (ps_if (pt_cmpR op_eq (pv 0) pe_str (nomark _)) (pss_one (ps_ret (pe_call Gleast_first (by exact hr.mono (by decide)) (by rfl) Cleast_first.g Cleast_first.k Cleast_first.a .nil pass0 (pa_cons (pe_lc (own := [("machine", 4)]) (te := (tTup (tCons (tMeth _ "need" (LS (aNeed K _)) [] E0 (tVar 4) tNil) (tCons (tFld K (tVar 4) "number") tNil)))) (tt := tYes) (by rfl) nd (pi_list (pv 2)) (blkOk_by (own := [("machine", 4)]) (N := N_in_turn) (sc := defScope s_in_turn) (by decide +kernel)) (fun _ _ _ _ _ => (pg_name (i := 4) nd rfl (Or.inl rfl))) (fun _ _ _ _ _ => pts_nil) (fun _ _ _ _ _ => (pe_tup (pa_cons (pe_meth0 (pv 4) M_need.cl M_need.m G_need (by exact hr.mono (by decide)) M_need.a .nil pass0) (pa_cons (pe_fld (pv 4) rfl) pa_nil))))) pa_nil)))) pss_nil)
      (pss_cons (ps_setLc (i := 3) rfl nd rfl rfl (sw_true rfl rfl rfl (by decide +kernel)) (own := [("machine", 4)]) (te := (tFld K (tVar 4) "number")) (tt := tYes) (pi_list (pv 2)) (blkOk_by (own := [("machine", 4)]) (N := N_in_turn) (sc := defScope s_in_turn) (by decide +kernel)) (fun _ _ _ _ _ => (pg_name (i := 4) nd rfl (Or.inl rfl))) (fun _ _ _ _ _ => pts_nil) (fun _ _ _ _ _ => (pe_fld (pv 4) rfl)))
      (pss_cons (ps_if (PW.pt (pw_and (pt_cmpR op_eq (pv 0) pe_str (nomark _)) (pw_and1 (pt_cmpR op_notN (pv 1) pe_non (nomark _))))) (pss_one (ps_ret (pe_call Gbehind_first (by exact hr.mono (by decide)) (by rfl) Cbehind_first.g Cbehind_first.k Cbehind_first.a .nil pass0 (pa_cons (pv 1) (pa_cons (pv 3) pa_nil))))) pss_nil)
      (pss_one (ps_ret (pv 3))))))), ?_⟩
    refine LS.body j q ?_
    have hcl : ∀ c ∈ lClaims w t w.ms.length, ∃ (ad : MAd) (m : Mac) (ss : List Stp) (st : Stp) (k' : Nat), A.mads[k']? = some ad ∧ t.ms[k']? = some m ∧ w.ms[k']? = some ss ∧ ss[m.at_.toNat]? = some st ∧ 0 ≤ m.at_ ∧ c.k = (k' : Int) ∧ c.draw = st.draw ∧ c.since = m.since ∧ refOf A c.k = .ref ad.a := by
      intro c hc
      obtain ⟨j, hj, hcj⟩ := lClaims_mem hc
      obtain ⟨m, ss, st, h2, h3, _, _, hst, rfl⟩ := lClaim_mem hcj
      obtain ⟨ad, m', ss', h1, h2', h3'⟩ := hG.three hj
      rw [h2] at h2'; cases h2'
      rw [h3] at h3'; cases h3'
      refine ⟨ad, m, ss, st, j, h1, h2, h3, hst, (hok.m j m ss h2 h3).a0, rfl, rfl, rfl, ?_⟩
      unfold refOf
      show (match A.mads[((j : Int)).toNat]? with | some ad => V.ref ad.a | none => V.non) = _
      rw [Int.toNat_natCast, h1]
    walk_at "ob"
    refine ⟨fun hb => ?_, fun hb => ?_⟩
    · have hr' : r = .wait := by
        have := of_decide_eq_true hb
        cases r <;> first | rfl | (exact absurd this (by decide +kernel))
      subst hr'
      walk_at "ob"
      refine ew_call hd ?_
      refine aw_cons ?_
      refine ew_lcL hd ?_
      walk_at "ob"
      refine ⟨wa, _, rfl, SqL.of hwa, by rw [List.length_map]; have := lClaims_len (w := w) (t := t) w.ms.length; omega, fun Dl hDl => ?_⟩
      refine ⟨fun i acc _ G => Ex F G ∧ Prs G acc (((lClaims w t w.ms.length).take i).map fun c => (c.since, c.k)), ⟨.refl _, .nil⟩, ?_, ?_, ?_⟩
      · rintro i acc _ G hi hg ⟨hG1, hG2⟩
        refine ⟨SqL.of (hG1 _ _ hwa), ?_⟩
        rw [hG2.len, List.length_map, List.length_take]
        omega
      · rintro i acc x _ G hi hg ⟨hG1, hG2⟩
        have hd' := hd.jd (D := Dl) (acc := acc)
        rw [List.getElem?_map] at hi
        obtain ⟨c, hc, rfl⟩ := Option.map_eq_some_iff.mp hi
        obtain ⟨ad, m, ss, st, k', h1, h2, h3, hst, h0, ek, ed, es, er⟩ := hcl c (List.mem_of_getElem? hc)
        have hmac := hG1 _ _ (hG.mac h1 h2)
        have e2 : (lClaims w t w.ms.length).take (i + 1) = (lClaims w t w.ms.length).take i ++ [c] := by rw [List.take_succ, hc]; rfl
        rw [er]
        refine gw_name ⟨rfl, ?_⟩
        refine tw_yes ⟨fun _ => ?_, (fun z => by cases z)⟩
        refine ew_tup hd' ?_
        refine aw_cons ?_
        refine ew_fld hd' ?_
        walk_at "ob"
        refine ⟨ad.a, A.M, ad.dx, _, _, rfl, hmac, HM.cl, HM.no _ (by decide +kernel), lookup_nd (i := 4) (mfs_nd _ _ _) rfl, ?_⟩
        refine aw_cons ?_
        refine ew_fld hd' ?_
        walk_at "ob"
        refine ⟨ad.a, A.M, ad.dx, _, _, rfl, hmac, HM.cl, HM.no _ (by decide +kernel), lookup_nd (i := 0) (mfs_nd _ _ _) rfl, ?_⟩
        refine aw_nil ⟨by walk_at "ob_len", fun tp htp => ?_⟩
        refine ⟨Ex.new hG1 htp, ?_⟩
        rw [e2, List.map_append]
        refine Prs.snoc ?_ (hG2.ex (Ex.new (.refl _) htp))
        show _ = some (HO.tup [V.int (c.since), V.int c.k])
        rw [ek, es]
        exact upd_same
      · rintro acc _ G hg ⟨hG1, hG2⟩
        rw [List.length_map, List.take_length] at hG2
        have g3 : Ex F (upd G Dl (.lst acc)) := Ex.new hG1 hg
        refine aw_nil ⟨Dl, acc, _, rfl, SqL.of upd_same, hG2.ex (Ex.new (.refl _) hg), by rw [List.length_map]; have := lClaims_len (w := w) (t := t) w.ms.length; omega, ?_⟩
        intro q F' qs hq1 hq2 hq3 hq4 hq5
        obtain ⟨ts, ht1, ht2⟩ := perm_lift (fun c : Clm => (c.since, c.k)) hq1 rfl
        refine k q F' ts (turn_of ht1 (lClaims_nd _) ?_) (fun a o e => hq3 _ _ (g3 _ _ e)) (Ex.free g3 hq4) ?_
        · show SrtO.Srtd SrtO.lexB (ts.map fun c => (c.since, c.k))
          rw [ht2]
          exact hq2
        · rw [hq5, ← ht2, List.map_map]
          rfl
    walk_at "ob"
    refine ⟨fun hb2 => ?_, fun hb2 => ?_⟩
    · have hr' : r = .least := by
        have := of_decide_eq_true hb2
        cases r <;> first | rfl | (exact absurd this (by decide +kernel))
      subst hr'
      walk_at "ob"
      refine ew_call hd ?_
      refine aw_cons ?_
      refine ew_lcL hd ?_
      walk_at "ob"
      refine ⟨wa, _, rfl, SqL.of hwa, by rw [List.length_map]; have := lClaims_len (w := w) (t := t) w.ms.length; omega, fun Dl hDl => ?_⟩
      refine ⟨fun i acc _ G => Ex F G ∧ Prs G acc (((lClaims w t w.ms.length).take i).map fun c => (c.draw, c.k)), ⟨.refl _, .nil⟩, ?_, ?_, ?_⟩
      · rintro i acc _ G hi hg ⟨hG1, hG2⟩
        refine ⟨SqL.of (hG1 _ _ hwa), ?_⟩
        rw [hG2.len, List.length_map, List.length_take]
        omega
      · rintro i acc x _ G hi hg ⟨hG1, hG2⟩
        have hd' := hd.jd (D := Dl) (acc := acc)
        rw [List.getElem?_map] at hi
        obtain ⟨c, hc, rfl⟩ := Option.map_eq_some_iff.mp hi
        obtain ⟨ad, m, ss, st, k', h1, h2, h3, hst, h0, ek, ed, es, er⟩ := hcl c (List.mem_of_getElem? hc)
        have hmac := hG1 _ _ (hG.mac h1 h2)
        have e2 : (lClaims w t w.ms.length).take (i + 1) = (lClaims w t w.ms.length).take i ++ [c] := by rw [List.take_succ, hc]; rfl
        rw [er]
        refine gw_name ⟨rfl, ?_⟩
        refine tw_yes ⟨fun _ => ?_, (fun z => by cases z)⟩
        refine ew_tup hd' ?_
        refine aw_cons ?_
        refine ew_meth hd' ?_
        walk_at "ob"
        refine ⟨ad.a, ad.dx, _, rfl, hmac, mfs_no (by decide +kernel), aw_nil ⟨F0, ad.a, ad.dx, k', ad.sv, ss, m, st, rfl, ⟨hmac, fun a o e => hG1 _ _ (hG.own.ex a o e), hG.st k' ad ss h1 h3⟩, h0, hst, ?_⟩⟩
        refine aw_cons ?_
        refine ew_fld hd' ?_
        walk_at "ob"
        refine ⟨ad.a, A.M, ad.dx, _, _, rfl, hmac, HM.cl, HM.no _ (by decide +kernel), lookup_nd (i := 0) (mfs_nd _ _ _) rfl, ?_⟩
        refine aw_nil ⟨by walk_at "ob_len", fun tp htp => ?_⟩
        refine ⟨Ex.new hG1 htp, ?_⟩
        rw [e2, List.map_append]
        refine Prs.snoc ?_ (hG2.ex (Ex.new (.refl _) htp))
        show _ = some (HO.tup [V.int (c.draw), V.int c.k])
        rw [ek, ed]
        exact upd_same
      · rintro acc _ G hg ⟨hG1, hG2⟩
        rw [List.length_map, List.take_length] at hG2
        have g3 : Ex F (upd G Dl (.lst acc)) := Ex.new hG1 hg
        refine aw_nil ⟨Dl, acc, _, rfl, SqL.of upd_same, hG2.ex (Ex.new (.refl _) hg), by rw [List.length_map]; have := lClaims_len (w := w) (t := t) w.ms.length; omega, ?_⟩
        intro q F' qs hq1 hq2 hq3 hq4 hq5
        obtain ⟨ts, ht1, ht2⟩ := perm_lift (fun c : Clm => (c.draw, c.k)) hq1 rfl
        refine k q F' ts (turn_of ht1 (lClaims_nd _) ?_) (fun a o e => hq3 _ _ (g3 _ _ e)) (Ex.free g3 hq4) ?_
        · show SrtO.Srtd SrtO.lexB (ts.map fun c => (c.draw, c.k))
          rw [ht2]
          exact hq2
        · rw [hq5, ← ht2, List.map_map]
          rfl
    walk_at "ob"
    refine ew_lcL hd ?_
    walk_at "ob"
    refine ⟨wa, _, rfl, SqL.of hwa, by rw [List.length_map]; have := lClaims_len (w := w) (t := t) w.ms.length; omega, fun Dl hDl => ?_⟩
    refine ⟨fun i acc _ G => F = G ∧ acc = ((lClaims w t w.ms.length).take i).map fun c => V.int c.k, ⟨rfl, rfl⟩, ?_, ?_, ?_⟩
    · rintro i acc _ G hi hg ⟨rfl, rfl⟩
      refine ⟨SqL.of hwa, ?_⟩
      rw [List.length_map, List.length_take]
      omega
    · rintro i acc x _ G hi hg ⟨rfl, rfl⟩
      have hd' := hd.jd (D := Dl) (acc := ((lClaims w t w.ms.length).take i).map fun c => V.int c.k)
      rw [List.getElem?_map] at hi
      obtain ⟨c, hc, rfl⟩ := Option.map_eq_some_iff.mp hi
      obtain ⟨ad, m, ss, st, k', h1, h2, h3, hst, h0, ek, ed, es, er⟩ := hcl c (List.mem_of_getElem? hc)
      have hmac := hG.mac h1 h2
      have e2 : (lClaims w t w.ms.length).take (i + 1) = (lClaims w t w.ms.length).take i ++ [c] := by rw [List.take_succ, hc]; rfl
      rw [er]
      refine gw_name ⟨rfl, ?_⟩
      refine tw_yes ⟨fun _ => ?_, (fun z => by cases z)⟩
      refine ew_fld hd' ?_
      walk_at "ob"
      refine ⟨ad.a, A.M, ad.dx, _, _, rfl, hmac, HM.cl, HM.no _ (by decide +kernel), lookup_nd (i := 0) (mfs_nd _ _ _) rfl, ?_⟩
      refine ⟨rfl, ?_⟩
      rw [e2, List.map_append, ← ek]
      rfl
    · rintro acc _ G hg ⟨rfl, rfl⟩
      rw [List.length_map, List.take_length]
      have g1 : Ex F (upd F Dl (.lst ((lClaims w t w.ms.length).map fun c => V.int c.k))) := Ex.new (.refl _) hg
      have hrank : (r = .rank ∨ (r = .turns ∧ t.last < 0)) → TurnOk r t.last (lClaims w t w.ms.length) (lClaims w t w.ms.length) := fun hr' => by
        refine ⟨.refl _, ?_⟩
        have hkk : (lClaims w t w.ms.length).Pairwise (fun a b => a.k < b.k) := List.pairwise_map.mp (lClaims_srt w.ms.length)
        refine List.Pairwise.imp_of_mem (fun {a b} ha hb h => ?_) hkk
        have ka := lClaims_k0 ha
        have kb := lClaims_k0 hb
        rcases hr' with rfl | ⟨rfl, hl⟩
        · exact Or.inr ⟨rfl, h⟩
        · refine Or.inr ⟨?_, h⟩
          show b2i (decide (a.k ≤ t.last)) = b2i (decide (b.k ≤ t.last))
          rw [decide_eq_false (by omega), decide_eq_false (by omega)]
      walk_at "ob"
      refine ⟨fun hb3 => ?_, fun hb3 => ⟨(fun z => by cases z), fun _ => ?_⟩⟩
      · have hr' : r = .turns := by
          have := of_decide_eq_true hb3
          cases r <;> first | rfl | (exact absurd this (by decide +kernel))
        subst hr'
        walk_at "ob"
        rw [ovV_non]
        refine ⟨fun hb4 => ?_, fun hb4 => ?_⟩
        · have hl := of_decide_eq_true hb4
          walk_at "ob"
          refine ew_call hd ?_
          walk_at "ob"
          refine ⟨t.last, Dl, (lClaims w t w.ms.length).map Clm.k, ?_, SqL.of (by rw [List.map_map]; exact upd_same), by rw [List.length_map]; have := lClaims_len (w := w) (t := t) w.ms.length; omega, fun q F' e1 e2 e3 => ?_⟩
          · unfold ovV
            rw [if_neg (by omega)]
          · refine k q F' ((lClaims w t w.ms.length).filter (fun c => decide (t.last < c.k)) ++ (lClaims w t w.ms.length).filter (fun c => decide (c.k ≤ t.last))) ⟨?_, ?_⟩ (fun a o e => e1 _ _ (g1 _ _ e)) (Ex.free g1 e2) ?_
            · have e4 : (fun c : Clm => decide (c.k ≤ t.last)) = fun c => !decide (t.last < c.k) := by
                funext c
                by_cases h : c.k ≤ t.last
                · rw [decide_eq_true h, decide_eq_false (by omega)]; rfl
                · rw [decide_eq_false h, decide_eq_true (by omega)]; rfl
              rw [e4]
              exact List.filter_append_perm _ _
            · have hkk : (lClaims w t w.ms.length).Pairwise (fun a b => a.k < b.k) := List.pairwise_map.mp (lClaims_srt w.ms.length)
              refine List.pairwise_append.mpr ⟨?_, ?_, ?_⟩
              · refine List.Pairwise.imp_of_mem (fun {a b} ha hb h => ?_) (hkk.filter _)
                have ka := of_decide_eq_true (List.mem_filter.mp ha).2
                have kb := of_decide_eq_true (List.mem_filter.mp hb).2
                refine Or.inr ⟨?_, h⟩
                show b2i (decide (a.k ≤ t.last)) = b2i (decide (b.k ≤ t.last))
                rw [decide_eq_false (by omega), decide_eq_false (by omega)]
              · refine List.Pairwise.imp_of_mem (fun {a b} ha hb h => ?_) (hkk.filter _)
                have ka := of_decide_eq_true (List.mem_filter.mp ha).2
                have kb := of_decide_eq_true (List.mem_filter.mp hb).2
                refine Or.inr ⟨?_, h⟩
                show b2i (decide (a.k ≤ t.last)) = b2i (decide (b.k ≤ t.last))
                rw [decide_eq_true ka, decide_eq_true kb]
              · intro a ha b hb
                have ka := of_decide_eq_true (List.mem_filter.mp ha).2
                have kb := of_decide_eq_true (List.mem_filter.mp hb).2
                refine Or.inl ?_
                show b2i (decide (a.k ≤ t.last)) < b2i (decide (b.k ≤ t.last))
                rw [decide_eq_false (by omega), decide_eq_true kb]
                decide
            · rw [e3, List.filter_map, List.filter_map, List.map_append, List.map_append, List.map_map, List.map_map]
              rfl
        · have hl := of_decide_eq_false hb4
          walk_at "ob"
          exact k Dl _ _ (hrank (Or.inr ⟨rfl, by omega⟩)) g1 hg upd_same
      · have hr' : r = .rank := by
          have n1 := of_decide_eq_false hb
          have n2 := of_decide_eq_false hb2
          have n3 := of_decide_eq_false hb3
          cases r with
          | rank => rfl
          | turns => exact absurd rfl n3
          | wait => exact absurd rfl n1
          | least => exact absurd rfl n2
        walk_at "ob"
        exact k Dl _ _ (hrank (Or.inl hr')) g1 hg upd_same
end
end Obr
/-! ### a target that is a field; enumerate of a tuple -/
namespace Obr
open PySem L2 PySem.Spec PyProof.Rows
section
variable {X : Cx} {pos : Pos}
def gFld (K : PySem.W.Frag) (ta : TE) (f : Str) : TG := fun v σ H Q => ta σ H fun x H1 => ∃ a C dx fs, x = .ref a ∧ H1 a = some (.ins C dx fs) ∧ Cls K C ∧ NoAttr K C f ∧ fs.length < 1000 ∧ Q σ (upd H1 a (.ins C dx (putF f v fs)))
theorem pg_fld {o : Expr} {f : Str} {ta : TE} (ho : PE X o ta) : PG X (.Attribute o f pos) (gFld X.K ta f) := by
  refine ⟨fun pins s σ H v u Q I r h => ?_⟩
  rw [PySem.assign_Attribute]
  refine wpAny_bind (wpAny_holding (thn (ho.run pins s σ H _ I h) fun ov s1 ⟨x, H1, I1, rx, a, C, dx, fs, ex, ea, c, n, l, q⟩ => ?_))
  subst ex
  obtain rfl : ov = Value.ref a := rx
  refine wpAny_bind (wpAny_standAt (wpAny_bind (wpAny_holding ?_)))
  refine setattr_ok I1 ea c n l r fun s3 I3 => ?_
  exact wpAny_release ⟨σ, _, I3, q⟩
end
section
variable {S : Type} {J : S → Hp → Hp → Prop} {K : PySem.W.Frag} {σ : L2.St} {s : S} {F : Hp} {ta : TE} {x : V} {f : Str} {N : L2.St → S → Hp → Prop}
theorem gw_fld (hd : Hid J) (h : EW J ta σ s F fun o s1 F1 => ∃ a C dx fs, o = .ref a ∧ F1 a = some (.ins C dx fs) ∧ Cls K C ∧ NoAttr K C f ∧ fs.length < 1000 ∧ N σ s1 (upd F1 a (.ins C dx (putF f x fs)))) : GW J (gFld K ta f) x σ s F N := fun H j Q q =>
  h H j _ fun o s1 F1 H1 j1 ⟨a, C, dx, fs, e, hf, c, n, l, k⟩ => ⟨a, C, dx, fs, e, hd.ex j1 _ _ hf, c, n, l, q _ _ _ _ (hd.mu j1 hf) k⟩
end
end Obr
namespace PySem
open Sem (wp)
set_option maxHeartbeats 4000000 in
theorem meets_enumerate_newB1 {v : Value} {o : Obj} {H : Heap → Prop} (B : Begins v o H) :
    Meets (Builtin.«enumerate.__new__» ⟨[.type "enumerate", v], []⟩) (fun _ R s => H s.heap ∧
      R (.ok (.ret (.ref (s.heap.push o).objs.size))) { s with heap := (s.heap.push o).push { cls := .type "enumerate", data := .fields #[.none, .bool false, .ref s.heap.objs.size, rawInt 0, .none, .none] } }) :=
  .of_wp fun prog w A R s h => by
    obtain ⟨hp, g, d, tk, os⟩ := s; obtain ⟨h1, h⟩ := h
    have hsub := sub_enumerate
    have q1 : ∀ {A' : Around} {E : Value → Shared → Prop} {Q : Value → Shared → Prop}, Q (.ref hp.objs.size) ⟨hp.push o, g, d, tk, os⟩ → wpAny (model prog w) A' (pyIter v) Q E ⟨hp, g, d, tk, os⟩ :=
      fun q => B.iter prog w _ _ ⟨hp, g, d, tk, os⟩ _ h1 q
    wp_walk using q1
    refine wpAny_stack_any fun st => wpAny_pure ?_
    split
    · rename_i c _ _ _ _ _
      cases (c == Value.type "enumerate")
      · wp_walk using q1
        exact ⟨_, rfl, h⟩
      · wp_walk using q1
        exact ⟨_, rfl, h⟩
    · wp_walk using q1
      exact ⟨_, rfl, h⟩
section
variable {prog : Program} {w : World} {A : Around} {E : Value → Shared → Prop} {s : Shared}
theorem enum_begins1 {v : Value} {o : Obj} {H : Heap → Prop} {Q : Value → Shared → Prop} (B : Begins v o H) (h1 : H s.heap)
    (h : ∀ h', IsEnum h' (s.heap.objs.size + 1) s.heap.objs.size 0 .none → h'.get? s.heap.objs.size = some o → h'.objs.size = s.heap.objs.size + 2 →
      (∀ b o, s.heap.get? b = some o → h'.get? b = some o) → Q (.ref (s.heap.objs.size + 1)) { s with heap := h' }) :
    wpAny (model prog w) A (call (.type "enumerate") [v]) Q E s := by
  refine callType_new F.called_enumerate (by decide) (F.typeCall_enumerate_1 _) (F.newCall_enumerate_1 _) (fun obj => F.args_object_init_2 obj _) F.entry_enumerate_new
    (meets_enumerate_newB1 B) ⟨h1, ?_⟩
  have hz : (s.heap.push o).objs.size = s.heap.objs.size + 1 := Heap.size_push ..
  show _ ∧ _
  rw [hz]
  have he : IsEnum ((s.heap.push o).push { cls := .type "enumerate", data := .fields #[.none, .bool false, .ref s.heap.objs.size, rawInt 0, .none, .none] }) (s.heap.objs.size + 1) s.heap.objs.size 0 .none := by
    have := Heap.get?_push_size (s.heap.push o) (o := { cls := .type "enumerate", data := .fields #[.none, .bool false, .ref s.heap.objs.size, rawInt 0, .none, .none] }) rfl
    rw [hz] at this; exact this
  refine ⟨⟨_, he, rfl⟩, h _ he (Heap.get?_push_of_some _ (Heap.get?_push_size _ B.free)) (by rw [Heap.size_push, hz]) fun b o x => Heap.get?_push_of_some _ (Heap.get?_push_of_some _ x)⟩
end
end PySem
namespace Obr
open PySem L2 PySem.Spec PyProof.Rows
/-- the tuple at a, each item in a new pair -/
def IteT (K : PySem.W.Frag) (a : Addr) : It :=
  ⟨fun i H => ∃ (xs : List V) (x : V), SqT K H a xs ∧ xs[i]? = some x, fun i H v H' => ∃ T x, v = .ref T ∧ H T = none ∧ H' = upd H T (.tup [.int (i : Nat), x]) ∧ ∀ xs, SqT K H a xs → xs[i]? = some x, fun i H => ∃ xs : List V, SqT K H a xs ∧ xs.length ≤ i⟩
theorem turn_enumT {P : Program} {w : World} {K : PySem.W.Frag} {elts : List Expr} {kk : Nat} {tpos : Pos} (a e it : Addr) :
    Turn P w K (.Tuple elts kk tpos) (IteT K a) [e, it] e (fun i h => (∃ old, IsEnum h e it ((i : Nat) : Int) old) ∧ h.IsTupleIter it a i ∧ e ≠ it) where
  mem := by simp
  obj := fun i h st b hb => by
    obtain ⟨⟨old, he⟩, ⟨o, ho, hc, hd⟩, _⟩ := st
    have e' : b = e ∨ b = it := by simpa using hb
    rcases e' with z | z
    · rw [z]; exact ⟨_, he, fun v q => nomatch q⟩
    · rw [z]; exact ⟨o, ho, fun v q => by rw [hd] at q; cases q⟩
  keep := fun i h h' st k => let ⟨⟨old, he⟩, hi, hne⟩ := st; ⟨⟨old, k e (by simp) _ he⟩, hi.at fun o q => k it (by simp) o q, hne⟩
  item := by
    intro X hP hw hK hc i pins s σ H E I hf st hg
    subst hP hw hK
    obtain ⟨⟨old, he⟩, hit, hne⟩ := st
    obtain ⟨xs, x, hq, hx⟩ := hg
    obtain ⟨its, rv, p, hz⟩ := I.tuple hq
    have p' : s.heap.IsTuple a its.toArray := p
    obtain ⟨u, hu, ru⟩ := rv.get hx
    have hel : e < s.heap.objs.size := Heap.lt_size he
    have hil : it < s.heap.objs.size := by obtain ⟨_, q, _⟩ := hit; exact Heap.lt_size q
    have hai : a ≠ it := fun z => by
      obtain ⟨o1, q1, c1, _⟩ := p'
      obtain ⟨o2, q2, c2, _⟩ := hit
      rw [z, q2] at q1
      cases q1
      rw [c1] at c2
      exact absurd c2 (by decide)
    have hae : e ≠ a := fun z => by
      obtain ⟨o1, q1, c1, _⟩ := p'
      have he' : s.heap.get? e = some _ := he
      rw [z, q1] at he'
      cases he'
      exact absurd (show Value.type "enumerate" = Value.type "tuple" from c1) (by decide)
    have hlt : i < its.toArray.size := by
      have := (List.getElem?_eq_some_iff.mp hu).1
      simpa using this
    refine wpAny_pyNext_enum_itemD (Draws.tuple (A := X.A.in1) (I.ok.hd hc) it a hai its.toArray) he ⟨hit, p'⟩ hlt hne (by simp [hne, hae]) fun v h' tk hv ho hst hT hsz hk => ?_
    have hvu : v = u := by
      have hv' : its[i]? = some v := by simpa using hv
      rw [hu] at hv'
      exact (Option.some.inj hv').symm
    subst hvu
    refine ⟨_, rfl, wpAny_letOwnedTupleGo_enum (s := { s with heap := h', toks := tk + 1 }) ho fun h'' he' sb => ?_⟩
    have hT2 : h''.get? s.heap.objs.size = some { cls := .type "tuple", data := .seq #[.int i tk, v] } := (sb.2 _ (Nat.ne_of_gt hel)).trans hT
    have new : ObjOk X.prog X.w (upd H s.heap.objs.size (.tup [.int (i : Nat), x])) h'' s.heap.objs.size (.tup [.int (i : Nat), x]) :=
      ⟨by show 2 ≤ sizeLine; decide, [.int i tk, v], .cons ⟨_, rfl⟩ (.cons ru .nil), ⟨_, hT2, rfl, _, rfl⟩⟩
    have I1 : Inv X pins σ (upd H s.heap.objs.size (.tup [.int (i : Nat), x])) { s with heap := h'', toks := tk + 1 } :=
      I.turnedNew (ch := [e, it]) (fun b ob hb q => (sb.2 b (fun z => hb (by simp [z]))).trans (hk b ob (fun z => hb (by simp [z])) (fun z => hb (by simp [z])) q)) hf (Nat.le_refl _) new
    refine ⟨.ref s.heap.objs.size, _, I1, rfl, ⟨_, x, rfl, I.hok.fresh (Nat.le_refl _), rfl, fun ys hy => by rw [I.tuple_inj hy hq]; exact hx⟩, ⟨⟨v, ?_⟩, hst.1.at fun o q => (sb.2 it (Ne.symm hne)).trans q, hne⟩, fun b hb => ?_⟩
    · have e1 : ((i + 1 : Nat) : Int) = (i : Int) + 1 := by omega
      rw [e1]; exact he'
    · have hb' : b < s.heap.objs.size := by
        have e' : b = e ∨ b = it := by simpa using hb
        rcases e' with z | z
        · rw [z]; exact hel
        · rw [z]; exact hil
      rw [upd_ne (Nat.ne_of_lt hb')]
      exact (hf b hb).1
  done := by
    intro X hP hw hK hc i pins s σ H E I hf st hg
    subst hP hw hK
    obtain ⟨⟨old, he⟩, hit, hne⟩ := st
    obtain ⟨xs, hq, hx⟩ := hg
    obtain ⟨its, rv, p, hz⟩ := I.tuple hq
    have p' : s.heap.IsTuple a its.toArray := p
    obtain ⟨f0, f1, f2, f3, f4, f5⟩ := hf it (by simp)
    have hl := rv.length
    have hT : s.TypeIs (.ref e) "enumerate" := ⟨_, he, rfl⟩
    unfold pyNext
    refine wpAny_bind (wpAny_attempt (wpAny_callSpecial?_slot (name := Str.ofString "__next__") hT F.slot_enumerate_next
      (wpAny_call_entry F.slot_enumerate_next hT F.entry_enumerate_next ?_ (F.args_enumerate_next_1 _))))
    show wpAny _ _ (field (.ref e) 2 >>= _) _ _ _
    refine wpAny_bind (wpAny_field he rfl (x := .ref it) rfl ?_)
    refine wpAny_bind (wpAny_nextOf_tuple_end (I.ok.hd hc) hit p' (by simp; omega) fun h' x he' hx' => ?_)
    obtain ⟨o, ho, hc'⟩ := hx'
    refine wpAny_bind (wpAny_isInstance (T := "StopIteration") (b := true) ⟨o, ho, hc'⟩ isSubtype_stop ?_)
    exact wpAny_pure ⟨rfl, I.turned (t' := s.toks) (fun b o hb q => he' b o hb q) f0 f1 f3 f4 f5⟩
  self := fun A i s Q E st h => let ⟨⟨_, he⟩, _⟩ := st; wpAny_pyIter_enum he h
def iEnumT (K : PySem.W.Frag) (ta : TA) : TI := fun σ H R => ta σ H fun vs H1 => ∃ a xs, vs = [.ref a] ∧ SqT K H1 a xs ∧ R (IteT K a) H1
theorem pi_enumT {X : Cx} {e : Expr} {ta : TA} {p pos tpos : Pos} {elts : List Expr} {kk : Nat} (hg : Gl X "enumerate") (hm : X.mg "enumerate" = none) (ha : PA X [e] ta) (hs : starEach [e] X.env = [(false, eval e X.env)] := by rfl) :
    PI X (.Tuple elts kk tpos) (.Call (.Name "enumerate" p) [e] [] pos) (iEnumT X.K ta) := by
  refine ⟨fun pins s σ H R I h => ?_⟩
  refine Call_ (ld_blt I hg hm boot_enumerate (PyProof.Rows.callWith_type1 (thn (ha.run pos pins s σ H _ I h) fun us s1 ⟨vs, H1, I1, r1, q1⟩ => ?_) hs rfl))
  obtain ⟨a, xs, ex, hq, q⟩ := q1
  subst ex
  cases r1 with
  | cons r rr =>
    cases rr
    cases r
    obtain ⟨its, rv, p', hz⟩ := I1.tuple hq
    have p'' : s1.heap.IsTuple a its.toArray := p'
    refine enum_begins1 (begins_tuple a its.toArray) p'' fun h' he hit hsz hk => wpAny_pyIter_enum he ?_
    have I2 : Inv X pins σ H1 { s1 with heap := h' } := I1.kept (t' := s1.toks) hk
    refine ⟨s1.heap.objs.size + 1, [s1.heap.objs.size + 1, s1.heap.objs.size], _, _, H1, rfl, I2, turn_enumT a (s1.heap.objs.size + 1) s1.heap.objs.size, ⟨⟨.none, he⟩, ⟨_, hit, rfl, rfl⟩, Nat.succ_ne_self _⟩, fun b hb => ?_, q⟩
    have e' : b = s1.heap.objs.size + 1 ∨ b = s1.heap.objs.size := by simpa using hb
    have hle : s1.heap.objs.size ≤ b := by
      rcases e' with z | z
      · rw [z]; exact Nat.le_add_right _ _
      · rw [z]; exact Nat.le_refl _
    exact I1.fpOk hle (I1.hok.fresh hle)
theorem walk_enumT {K : PySem.W.Frag} {a : Addr} {xs : List V} : Walk (IteT K a) xs.length (fun H => SqT K H a xs) (YPair (fun i => some (.int (i : Nat))) (fun i => xs[i]?)) := by
  refine ⟨fun i _ hi q => ⟨xs, xs[i], q, by simp [hi]⟩, fun _ q => ⟨xs, q, Nat.le_refl _⟩, fun i H v H' _ q y => ?_⟩
  obtain ⟨T, x, h1, h2, h3, h4⟩ := y
  exact ⟨T, .int (i : Nat), x, h1, h2, h3, rfl, h4 xs q⟩
section
variable {S : Type} {J : S → Hp → Hp → Prop} {K : PySem.W.Frag} {σ : L2.St} {s : S} {F : Hp} {R : V → S → Hp → Prop} {te : TE} {tt : TT} {t : TS} {g : TG} {ta : TA} {D : En S} {vs : List Nat}
theorem sw_forET (hd : Hid J) (h : AW J ta σ s F fun ws s1 F1 => ∃ (a : Addr) (xs : List V) (Pv : Nat → L2.St → S → Hp → Prop), ws = [.ref a] ∧ SqT K F1 a xs ∧ Pv 0 σ s1 F1 ∧ (∀ i σ s F, i ≤ xs.length → Pv i σ s F → SqT K F a xs) ∧
      (∀ (i : Nat) x σ s F T, xs[i]? = some x → Pv i σ s F → F T = none → GW J g (.ref T) σ s (upd F T (.tup [.int (i : Int), x])) fun σ s F => SW J t { D with nx := Pv (i + 1), ct := Pv (i + 1), bk := D.nx } σ s F) ∧ (∀ σ s F, Pv xs.length σ s F → D.nx σ s F)) :
    SW J (tFor (iEnumT K ta) g t) D σ s F := fun H j D' l =>
  h H j _ fun v s1 F1 H1 j1 ⟨a, xs, Pv, e, l1, h0, hl, hs, hdn⟩ => ⟨a, xs, e, hd.sqT j1 l1, for_it walk_enumT (fun i σ H => ∃ s F, J s F H ∧ Pv i σ s F) ⟨s1, F1, j1, h0⟩
    (fun i σ' H' hi ⟨s', F', j', p⟩ => hd.sqT j' (hl i σ' s' F' hi p))
    (fun i x σ' H' H'' hi ⟨s', F', j', p⟩ ⟨T, y, z, ex, hT, eH, e1, e2⟩ => by
      subst ex eH
      cases e1
      exact hs i z σ' s' F' T e2 p (hd.fresh j' hT) _ (hd.al j' hT) _ fun σ2 s2 F2 H2 j2 k => k H2 j2 _ ⟨fun σ3 s3 F3 H3 j3 k3 => ⟨s3, F3, j3, k3⟩, l.rt, l.nx, fun σ3 s3 F3 H3 j3 k3 => ⟨s3, F3, j3, k3⟩⟩)
    (fun σ' H' ⟨s', F', j', p⟩ => l.nx _ _ _ _ j' (hdn σ' s' F' p))⟩
end
end Obr
namespace Obr
open PySem L2 PyProof.Rows
local macro_rules | `(tactic| walk_at "ob_at") => `(tactic| first
  | assumption
  | exact upd_same
  | (refine Eq.trans (upd_ne ?obn) ?obr; (case obn => walk_at "ob_ne"); (case obr => walk_at "ob_at")))
local macro_rules | `(tactic| walk_at "ob_ne") => `(tactic| first
  | assumption
  | (refine Ne.symm ?obs; (case obs => assumption))
  | (refine' ne_of_none (H := ?_) ?obe ?obh; (case obh => assumption); (case obe => walk_at "ob_at"))
  | (refine Ne.symm ?obs; (case obs => (refine' ne_of_none (H := ?_) ?obe ?obh; (case obh => assumption); (case obe => walk_at "ob_at")))))
local macro_rules | `(tactic| walk_at "ob_fr") => `(tactic| first
  | assumption
  | (refine Eq.trans (upd_ne ?obn) ?obr; (case obn => walk_at "ob_ne"); (case obr => walk_at "ob_fr"))
  | (refine Ex.free (G := ?_) (by assumption) ?obh; (case obh => walk_at "ob_fr")))
local macro_rules | `(tactic| walk_at "ob_ex") => `(tactic| first
  | assumption
  | exact Ex.refl _
  | (refine Ex.out ?obg ?obh; (case obh => assumption); (case obg => walk_at "ob_ex"))
  | (refine Ex.new ?obg ?obh; (case obh => assumption); (case obg => walk_at "ob_ex"))
  | (refine Ex.new ?obg ?obh; (case obh => walk_at "ob_fr"); (case obg => walk_at "ob_ex")))
local macro_rules | `(tactic| walk_at "ob_sq") => `(tactic| first
  | assumption
  | (refine SqL.of ?oba; (case oba => walk_at "ob_at"))
  | (refine Ex.sqT (F := ?_) ?obg ?obh; (case obh => assumption); (case obg => walk_at "ob_ex"))
  | (refine Ex.sqL (F := ?_) ?obg ?obh; (case obh => assumption); (case obg => walk_at "ob_ex"))
  | (refine SqT.of ?oba; (case oba => walk_at "ob_at")))
local macro_rules | `(tactic| walk_at "ob_side") => `(tactic| first | exact rfl | assumption | decide | omega | exact ⟨by decide, by decide, by decide⟩ | exact Or.inr ⟨by decide, by decide⟩ | exact Or.inl ⟨by decide, by decide⟩ | exact wide_div (b := 60) (by first | decide | omega) (by first | decide | omega) (by decide) (by decide))
local macro_rules | `(tactic| walk_at "ob1") => `(tactic| first
  | with_reducible refine sw_seq ?_
  | with_reducible refine sw_asg ?_
  | with_reducible refine sw_ret ?_
  | with_reducible refine sw_par ?_
  | with_reducible refine ⟨_, _, rfl, ?_⟩
  | with_reducible refine sw_drop ?_
  | with_reducible refine sw_if ?_
  | with_reducible refine sw_next ?_
  | with_reducible refine gw_name ?_
  | with_reducible refine gw_subL (by assumption) ?_
  | with_reducible refine gsw_cons ?_
  | with_reducible refine gsw_nil ?_
  | with_reducible refine ew_c ?_
  | ((with_reducible refine' ew_var (v := ?_) ?obv ?_); (case obv => exact rfl))
  | ((with_reducible refine ew_next (by assumption) ?obv ?_); (case obv => exact rfl))
  | ((with_reducible refine ew_world (by assumption) ?obv ?_); (case obv => exact rfl))
  | ((with_reducible refine ew_rule (by assumption) ?obv ?_); (case obv => exact rfl))
  | with_reducible refine ew_op ?_
  | with_reducible refine ew_un ?_
  | with_reducible refine ew_dget (by assumption) ?_
  | with_reducible refine uw_I ?_
  | with_reducible refine ppw_nil ?_
  | with_reducible refine ppw_cons ?_
  | with_reducible refine sw_dput (by assumption) ?_
  | with_reducible refine ew_cb ?_
  | with_reducible refine ew_if ?_
  | with_reducible refine ew_slL (by assumption) ?_
  | with_reducible refine ow_some ?_
  | with_reducible refine ow_none ?_
  | with_reducible refine aw_nil ?_
  | with_reducible refine aw_cons ?_
  | with_reducible refine rw_I0 ?_
  | ((with_reducible refine rw_I ?obc ?_); (case obc => walk_at "ob_side"))
  | with_reducible refine rw_isN ?_
  | with_reducible refine rw_notN ?_
  | ((with_reducible refine rw_eq ?obc ?_); (case obc => exact rfl))
  | ((with_reducible refine rw_ne ?obc ?_); (case obc => exact rfl))
  | with_reducible refine cw_max2 ?_
  | with_reducible refine cw_min2 ?_
  | with_reducible refine tw_test ?_
  | with_reducible refine tw_B ?_
  | with_reducible refine tw_not ?_
  | with_reducible refine tw_truB ?_
  | with_reducible refine tw_and ?_
  | with_reducible refine tw_or ?_
  | with_reducible refine ew_and ?_
  | (refine' Exists.intro _ (And.intro (show V.bl _ = V.bl _ from rfl) ?_))
  | (refine' Exists.intro _ (And.intro (show V.int _ = V.int _ from rfl) ?_))
  | ((with_reducible refine' rw_ixL (v := ?_) (xs := ?_) (by assumption) ?obl ?oba ?_); (case obl => walk_at "ob_sq"); (case oba => first | exact rfl | exact at_zero))
  | ((with_reducible refine' rw_ixT (v := ?_) (xs := ?_) (by assumption) ?obl ?oba ?_); (case obl => walk_at "ob_sq"); (case oba => first | exact rfl | exact at_zero))
  | ((with_reducible refine' ew_lst (by assumption) ?_))
  | ((with_reducible refine' ew_tup (by assumption) ?_)))
local macro_rules | `(tactic| walk_at "ob_len") => `(tactic| first | exact Nat.le_of_ble_eq_true rfl | (simp; done) | omega)
local macro_rules | `(tactic| walk_at "ob") => `(tactic| repeat walk_at "ob1")

/-! ### Shop: begin, close_beat, open_beat, enter, __init__ -/
/-- a shop whose list of machines may grow yet -/
structure SEnt (sh : Bool) (K : PySem.W.Frag) (F0 F : Hp) (A : RAd) (t : LSt) (w : Wld) (r : Rgt) (p anew : Bool) (ex : List (Addr × HO)) : Prop where
  own : Own F0 F ((A.a, .ins A.C A.dx (rfsS sh A t w r p anew)) :: (A.ml, .lst (A.mads.map fun ad => .ref ad.a)) :: (mcells A.M 0 A.mads t.ms ++ ex))
  st : ∀ (k : Nat) (ad : MAd) (ss : List Stp), A.mads[k]? = some ad → w.ms[k]? = some ss → Dp K F0 ad.sv (macD ss)
  len1 : A.mads.length = w.ms.length
  len2 : t.ms.length = w.ms.length
section
variable {sh : Bool} {K : PySem.W.Frag} {F0 F : Hp} {A : RAd} {t : LSt} {w : Wld} {r : Rgt} {p anew : Bool} {ex : List (Addr × HO)}
theorem SEnt.cell (h : SEnt sh K F0 F A t w r p anew ex) : F A.a = some (.ins A.C A.dx (rfsS sh A t w r p anew)) := h.own.get (i := 0) rfl
theorem SEnt.mlc (h : SEnt sh K F0 F A t w r p anew ex) : F A.ml = some (.lst (A.mads.map fun ad => .ref ad.a)) := h.own.get (i := 1) rfl
theorem SEnt.ml0 (h : SEnt sh K F0 F A t w r p anew ex) : F0 A.ml = none := h.own.none (i := 1) rfl
/-- no more comes in -/
theorem SEnt.shut (h : SEnt sh K F0 F A t w r p anew ex) : SAt sh K (upd F0 A.ml (.lst (A.mads.map fun ad => .ref ad.a))) F A t w r p anew ex :=
  ⟨(h.own.perm (List.Perm.swap _ _ _)).freeze rfl, upd_same, fun k ad ss h1 h2 => dp_ex (Ex.new (.refl _) h.ml0) (h.st k ad ss h1 h2), h.len1, h.len2⟩
theorem SEnt.same (h : SEnt sh K F0 F A t w r p anew ex) {t' : LSt} {w' : Wld} (e1 : t'.ms.map mcore = t.ms.map mcore) (e2 : t'.level = t.level) (e3 : t'.last = t.last) (e4 : t'.beat = t.beat) (ew : w' = w) : SEnt sh K F0 F A t' w' r p anew ex := by
  subst ew
  refine ⟨?_, h.st, h.len1, by have := congrArg List.length e1; simp at this; rw [this]; exact h.len2⟩
  have e : rfsS sh A t' w' r p anew = rfsS sh A t w' r p anew := by unfold rfsS; rw [e2, e3, e4]
  rw [mcells_core e1, e]
  exact h.own
end
theorem mcells_app {M : Addr} {ad : MAd} {m : Mac} : ∀ {n : Nat} {as : List MAd} {ms : List Mac}, as.length = ms.length → mcells M n (as ++ [ad]) (ms ++ [m]) = mcells M n as ms ++ [mcell M (n + as.length) ad m]
  | _, [], [], _ => rfl
  | _, [], _ :: _, h => by simp at h
  | _, _ :: _, [], h => by simp at h
  | n, a :: as, b :: ms, h => by
    have := mcells_app (M := M) (ad := ad) (m := m) (n := n + 1) (as := as) (ms := ms) (by simpa using h)
    show mcell M n a b :: mcells M (n + 1) (as ++ [ad]) (ms ++ [m]) = mcell M n a b :: (mcells M (n + 1) as ms ++ [mcell M (n + (as.length + 1)) ad m])
    rw [this, show n + 1 + as.length = n + (as.length + 1) from by omega]
def sBegin (t : LSt) (k : Nat) (m : Mac) (st : Stp) : LSt := { t with level := t.level - st.draw, ms := t.ms.set k { m with over := t.beat + st.long } }
def aBeginR (sh : Bool) (K : PySem.W.Frag) (C M : Addr) : List V → Hp → VK → Prop := fun vs F R => ∃ (F0 : Hp) (A : RAd) (t : LSt) (w : Wld) (r : Rgt) (p anew : Bool) (ex : List (Addr × HO)) (k : Nat) (ad : MAd) (m : Mac) (ss : List Stp) (st : Stp), vs = [.ref A.a, .ref ad.a] ∧ A.C = C ∧ A.M = M ∧ SAt sh K F0 F A t w r p anew ex ∧
  A.mads[k]? = some ad ∧ t.ms[k]? = some m ∧ w.ms[k]? = some ss ∧ 0 ≤ m.at_ ∧ ss[m.at_.toNat]? = some st ∧ 0 ≤ t.beat + st.long ∧ ∀ F', SAt sh K F0 F' A (sBegin t k m st) w r p anew ex → R .non F'
def aCloseB (sh : Bool) (K : PySem.W.Frag) (C M : Addr) : List V → Hp → VK → Prop := fun vs F R => ∃ (F0 : Hp) (A : RAd) (t : LSt) (w : Wld) (r : Rgt) (p anew : Bool) (ex : List (Addr × HO)), vs = [.ref A.a] ∧ A.C = C ∧ A.M = M ∧ SAt sh K F0 F A t w r p anew ex ∧
  ∀ F', SAt sh K F0 F' A { t with beat := t.beat + 1 } w r p anew ex → R .non F'
def aOpenB (sh : Bool) (K : PySem.W.Frag) (C M : Addr) : List V → Hp → VK → Prop := fun vs F R => ∃ (F0 : Hp) (A : RAd) (t : LSt) (w : Wld) (r : Rgt) (p anew : Bool) (ex : List (Addr × HO)), vs = [.ref A.a] ∧ A.C = C ∧ A.M = M ∧ SAt sh K F0 F A t w r p anew ex ∧ LOk w t ∧ w.ms.length ≤ 5 ∧
  ∀ (q : Addr) (F' : Hp), SAt sh K F0 F' A (lFill w (lEnds w anew t w.ms.length)) w r p anew ((q, .lst ((overs t w.ms.length).map V.int)) :: ex) → R (.ref q) F'
def aEnterS (sh : Bool) (K : PySem.W.Frag) (C M : Addr) : List V → Hp → VK → Prop := fun vs F R => ∃ (F0 : Hp) (A : RAd) (t : LSt) (w : Wld) (r : Rgt) (p anew : Bool) (ex : List (Addr × HO)) (sv : V) (ss : List Stp), vs = [.ref A.a, sv] ∧ A.C = C ∧ A.M = M ∧ SEnt sh K F0 F A t w r p anew ex ∧ Dp K F0 sv (macD ss) ∧ w.ms.length ≤ 5 ∧
  ∀ (ad : MAd) (F' : Hp), SEnt sh K F0 F' { A with mads := A.mads ++ [ad] } { t with ms := t.ms ++ [mac0 t.beat] } { w with ms := w.ms ++ [ss] } r p anew ex → R .non F'
def aSInit (K : PySem.W.Frag) (C M : Addr) : List V → Hp → VK → Prop := fun vs F R => ∃ (Fb : Hp) (a dx : Addr) (wv : V) (w : Wld) (r : Rgt) (p anew : Bool), vs = [.ref a, wv, .bl anew] ∧ F = upd Fb a (.ins C dx []) ∧ Fb a = none ∧ Dp K Fb wv (wldD w) ∧ w.ms.length ≤ 5 ∧
  ∀ (F' : Hp) (A : RAd), A.a = a → A.C = C → A.M = M → SEnt true K Fb F' A (lBegun w) w r p anew [] → R .non F'
section
variable {sh : Bool} {P : Program} {w : World} {K : PySem.W.Frag} {mg : Str → Option Value} {base : Heap} {C M : Addr}
theorem in_subR : (rSub : V → V → Hp → VK → Prop) = fun x y H Q => ∃ i j, x = .int i ∧ y = .int j ∧ Q (.int (i - j)) H := rfl

abbrev s_Shop__dot__begin : Stmt := inClass (top 34) 5
def N_Shop_begin : List Str := ["self", "machine"]
theorem sc_Shop_begin : FnScope N_Shop_begin ["self", "machine"] (defScope s_Shop__dot__begin) := ⟨rfl, rfl, rfl, by decide +kernel, rfl, by decide +kernel, by decide +kernel⟩
theorem ok_Shop_begin {f : Addr} {fd : FuncData} {f1 f2 : Addr} {fd1 fd2 : FuncData} (Fn : Fun K "begin" "Shop.begin" s_Shop__dot__begin f fd) (B : Blt mg) (HR : ClsF K C rkeys) (HM : ClsF K M mkeys) (M_need : Met K M "need" f1 fd1 ["self"]) (G_need : FnOk P w K mg base CX0 1 f1 fd1 ["self"] (LS (aNeed K M))) (M_begin_step : Met K M "begin_step" f2 fd2 ["self", "beat"]) (G_begin_step : FnOk P w K mg base CX0 1 f2 fd2 ["self", "beat"] (LS (aBegin K M))) : FnOk P w K mg base CX0 2 f fd ["self", "machine"] (LS (aBeginR sh K C M)) := by
  refine Fn.ok sc_Shop_begin (fun vs H Q E h => ?_) (fun cdv A outer s H vs Q E hr h => ?_)
  · obtain ⟨J, F, R, hd, j, h, _⟩ := h
    obtain ⟨F0, A, t, w, r, p, anew, ex, kk, ad, m, ss, st, rfl, _⟩ := h
    rfl
  · have nd := sc_Shop_begin.nd
    obtain ⟨J, F, R, hd, j, h, q⟩ := h
    obtain ⟨F0, A, t, w, r, p, anew, ex, kk, ad, m, ss, st, rfl, rfl, rfl, hX, h1, h2, h3, ha0, hst, hl0, k⟩ := h
    refine ⟨_, (pss_cons (ps_fldaug (pv 0) (pe_meth0 (pv 1) M_need.cl M_need.m G_need (by exact hr.mono (by decide)) M_need.a .nil pass0) in_sub)
      (pss_one (ps_expr (pe_meth (pv 1) M_begin_step.cl M_begin_step.m G_begin_step (by exact hr.mono (by decide)) M_begin_step.a .nil pass0 (pa_cons (pe_fld (pv 0) rfl) pa_nil))))), ?_⟩
    refine LS.body j q ?_
    refine sw_seq (sw_fldaugI hd in_subR ?_)
    walk_at "ob"
    refine ⟨A.a, A.C, A.dx, _, t.level, rfl, hX.cell, HR.cl, HR.no _ (by decide +kernel), lookup_nd (i := 1) (rfs_nd _ _ _ _ _ _) rfl, ?_⟩
    refine ew_meth hd ?_
    walk_at "ob"
    refine ⟨ad.a, ad.dx, _, rfl, hX.mac h1 h2, mfs_no (by decide +kernel), aw_nil ⟨F0, ad.a, ad.dx, kk, ad.sv, ss, m, st, rfl, hX.mobj h1 h2 h3, ha0, hst, ?_⟩⟩
    refine ⟨st.draw, A.dx, _, rfl, hX.cell, rfs_lt, ?_⟩
    rw [putF_nd (i := 1) (rfs_nd _ _ _ _ _ _) rfl]
    have hX1 := hX.put (t' := { t with level := t.level - st.draw }) rfl
    refine sw_drop (ew_meth hd ?_)
    walk_at "ob"
    refine ⟨ad.a, ad.dx, _, rfl, hX1.mac h1 h2, mfs_no (by decide +kernel), ?_⟩
    refine aw_cons (ew_fld hd ?_)
    walk_at "ob"
    refine ⟨A.a, A.C, A.dx, _, _, rfl, hX1.cell, HR.cl, HR.no _ (by decide +kernel), lookup_nd (i := 4) (rfs_nd _ _ _ _ _ _) rfl, ?_⟩
    refine aw_nil ⟨F0, ad.a, ad.dx, kk, ad.sv, ss, m, st, t.beat, rfl, hX1.mobj h1 h2 h3, ha0, hst, hl0, ?_⟩
    exact k _ (hX1.mput h1 h2 (m' := { m with over := t.beat + st.long }) (t' := sBegin t kk m st) rfl rfl)

abbrev s_Shop__dot__close_beat : Stmt := inClass (top 34) 6
def N_Shop_close_beat : List Str := ["self"]
theorem sc_Shop_close_beat : FnScope N_Shop_close_beat ["self"] (defScope s_Shop__dot__close_beat) := ⟨rfl, rfl, rfl, by decide +kernel, rfl, by decide +kernel, by decide +kernel⟩
theorem ok_Shop_close_beat {f : Addr} {fd : FuncData}  (Fn : Fun K "close_beat" "Shop.close_beat" s_Shop__dot__close_beat f fd) (B : Blt mg) (HR : ClsF K C rkeys) (HM : ClsF K M mkeys) : FnOk P w K mg base CX0 1 f fd ["self"] (LS (aCloseB sh K C M)) := by
  refine Fn.ok sc_Shop_close_beat (fun vs H Q E h => ?_) (fun cdv A outer s H vs Q E hr h => ?_)
  · obtain ⟨J, F, R, hd, j, h, _⟩ := h
    obtain ⟨F0, A, t, w, r, p, anew, ex, rfl, _⟩ := h
    rfl
  · have nd := sc_Shop_close_beat.nd
    obtain ⟨J, F, R, hd, j, h, q⟩ := h
    obtain ⟨F0, A, t, w, r, p, anew, ex, rfl, rfl, rfl, hX, k⟩ := h
    refine ⟨_, (pss_one (ps_fldaug (pv 0) pe_int in_add)), ?_⟩
    refine LS.body j q ?_
    refine sw_fldaugI hd in_addR ?_
    walk_at "ob"
    refine ⟨A.a, A.C, A.dx, _, _, rfl, hX.cell, HR.cl, HR.no _ (by decide +kernel), lookup_nd (i := 4) (rfs_nd _ _ _ _ _ _) rfl, ?_⟩
    walk_at "ob"
    refine ⟨1, A.dx, _, rfl, hX.cell, rfs_lt, ?_⟩
    rw [putF_nd (i := 4) (rfs_nd _ _ _ _ _ _) rfl]
    exact k _ (hX.put (t' := { t with beat := t.beat + 1 }) rfl)

abbrev s_Shop__dot__open_beat : Stmt := inClass (top 34) 2
def N_Shop_open_beat : List Str := ["self", "over"]
theorem sc_Shop_open_beat : FnScope N_Shop_open_beat ["self"] (defScope s_Shop__dot__open_beat) := ⟨rfl, rfl, rfl, by decide +kernel, rfl, by decide +kernel, by decide +kernel⟩
theorem ok_Shop_open_beat {f : Addr} {fd : FuncData} {f1 f2 : Addr} {fd1 fd2 : FuncData} (Fn : Fun K "open_beat" "Shop.open_beat" s_Shop__dot__open_beat f fd) (B : Blt mg) (HR : ClsF K C rkeys) (HM : ClsF K M mkeys) (M_end_steps : Met K C "end_steps" f1 fd1 ["self"]) (G_end_steps : FnOk P w K mg base CX0 2 f1 fd1 ["self"] (LS (aEndSteps sh K C M))) (M_put_in : Met K C "put_in" f2 fd2 ["self", "many"]) (G_put_in : FnOk P w K mg base CX0 1 f2 fd2 ["self", "many"] (LS (aPutIn sh K C))) : FnOk P w K mg base CX0 3 f fd ["self"] (LS (aOpenB sh K C M)) := by
  refine Fn.ok sc_Shop_open_beat (fun vs H Q E h => ?_) (fun cdv A outer s H vs Q E hr h => ?_)
  · obtain ⟨J, F, R, hd, j, h, _⟩ := h
    obtain ⟨F0, A, t, w, r, p, anew, ex, rfl, _⟩ := h
    rfl
  · have nd := sc_Shop_open_beat.nd
    obtain ⟨J, F, R, hd, j, h, q⟩ := h
    obtain ⟨F0, A, t, w, r, p, anew, ex, rfl, rfl, rfl, hG, hok, hm5, k⟩ := h
    refine ⟨_, (pss_cons (ps_set (i := 1) nd rfl (Or.inl rfl) (pe_meth0 (pv 0) M_end_steps.cl M_end_steps.m G_end_steps (by exact hr.mono (by decide)) M_end_steps.a .nil pass0))
      (pss_cons (ps_if (pt_cmpR op_gt (pe_fld (pv 0) rfl) pe_int (nomark _)) (pss_one (ps_expr (pe_meth (pv 0) M_put_in.cl M_put_in.m G_put_in (by exact hr.mono (by decide)) M_put_in.a .nil pass0 (pa_cons (pe_fld (pv 0) rfl) pa_nil)))) pss_nil)
      (pss_one (ps_ret (pv 1))))), ?_⟩
    refine LS.body j q ?_
    refine sw_seq (sw_asg (ew_meth hd ?_))
    walk_at "ob"
    refine ⟨A.a, A.dx, _, rfl, hG.cell, rfs_no (by decide +kernel), aw_nil ⟨F0, A, t, w, r, p, anew, ex, rfl, rfl, rfl, hG, hok, hm5, fun q1 F1 hX => gw_name ?_⟩⟩
    refine sw_seq (sw_if (tw_test (ew_op (ew_fld hd ?_))))
    walk_at "ob"
    refine ⟨A.a, A.C, A.dx, _, _, rfl, hX.cell, HR.cl, HR.no _ (by decide +kernel), lookup_nd (i := 4) (rfs_nd _ _ _ _ _ _) rfl, ?_⟩
    walk_at "ob"
    refine ⟨fun hb => ?_, fun hb => ?_⟩
    · have hb2 := of_decide_eq_true hb
      refine sw_drop (ew_meth hd ?_)
      walk_at "ob"
      refine ⟨A.a, A.dx, _, rfl, hX.cell, rfs_no (by decide +kernel), aw_cons (ew_fld hd ?_)⟩
      walk_at "ob"
      refine ⟨A.a, A.C, A.dx, _, _, rfl, hX.cell, HR.cl, HR.no _ (by decide +kernel), lookup_nd (i := 2) (rfs_nd _ _ _ _ _ _) rfl, ?_⟩
      refine aw_nil ⟨A, _, w, r, p, anew, w.refill, rfl, rfl, hX.cell, ?_⟩
      refine sw_ret (ew_var rfl ?_)
      refine k q1 _ ?_
      have e : lFill w (lEnds w anew t w.ms.length) = { lEnds w anew t w.ms.length with level := minI w.cap ((lEnds w anew t w.ms.length).level + w.refill) } := by
        unfold lFill
        rw [if_pos hb2]
      rw [e]
      exact hX.put rfl
    · have hb2 := of_decide_eq_false hb
      refine sw_next (sw_ret (ew_var rfl ?_))
      refine k q1 _ ?_
      have e : lFill w (lEnds w anew t w.ms.length) = lEnds w anew t w.ms.length := by
        unfold lFill
        rw [if_neg hb2]
      rw [e]
      exact hX

abbrev s_Shop__dot__enter : Stmt := inClass (top 34) 1
def N_Shop_enter : List Str := ["self", "steps"]
theorem sc_Shop_enter : FnScope N_Shop_enter ["self", "steps"] (defScope s_Shop__dot__enter) := ⟨rfl, rfl, rfl, by decide +kernel, rfl, by decide +kernel, by decide +kernel⟩
theorem ok_Shop_enter {f : Addr} {fd : FuncData} {f1 : Addr} {fd1 : FuncData} (Fn : Fun K "enter" "Shop.enter" s_Shop__dot__enter f fd) (B : Blt mg) (HR : ClsF K C rkeys) (HM : ClsF K M mkeys) (MK_Machine : Mk K M f1) (G_Machine : FnOk P w K mg base CX0 1 f1 fd1 ["self", "number", "steps", "since"] (LS (aMInitC M))) (MK_Machine_g : mg "Machine" = some (.ref M)) (MK_Machine_a : Binds K fd1 ["self", "number", "steps", "since"] []) : FnOk P w K mg base CX0 3 f fd ["self", "steps"] (LS (aEnterS sh K C M)) := by
  refine Fn.ok sc_Shop_enter (fun vs H Q E h => ?_) (fun cdv A outer s H vs Q E hr h => ?_)
  · obtain ⟨J, F, R, hd, j, h, _⟩ := h
    obtain ⟨F0, A, t, w, r, p, anew, ex, sv, ss, rfl, _⟩ := h
    rfl
  · have nd := sc_Shop_enter.nd
    obtain ⟨J, F, R, hd, j, h, q⟩ := h
    obtain ⟨F0, A, t, w, r, p, anew, ex, sv, ss, rfl, rfl, rfl, hX, dsv, hm5, k⟩ := h
    refine ⟨_, (pss_one (ps_expr (pe_bm PySem.F.plainAttrs_list PySem.F.slot_list_append PySem.F.type_list_append mt_append (pe_fld (pv 0) rfl) (pa_cons (pe_make MK_Machine G_Machine (by exact hr.mono (by decide)) (by rfl) MK_Machine_g MK_Machine_a .nil pass0 (pa_cons (pe_callB call_len_seq (by rfl) B.len (by decide +kernel) (pa_cons (pe_fld (pv 0) rfl) pa_nil)) (pa_cons (pv 1) (pa_cons (pe_fld (pv 0) rfl) pa_nil)))) pa_nil)))), ?_⟩
    refine LS.body j q ?_
    refine sw_drop (ew_bmL hd (ew_fld hd ?_))
    walk_at "ob"
    refine ⟨A.a, A.C, A.dx, _, _, rfl, hX.cell, HR.cl, HR.no _ (by decide +kernel), lookup_nd (i := 5) (rfs_nd _ _ _ _ _ _) rfl, ?_⟩
    refine ⟨A.ml, _, rfl, SqL.of hX.mlc, ?_⟩
    refine aw_cons (ew_make hd ?_)
    refine aw_cons (ew_cb (aw_cons (ew_fld hd ?_)))
    walk_at "ob"
    refine ⟨A.a, A.C, A.dx, _, _, rfl, hX.cell, HR.cl, HR.no _ (by decide +kernel), lookup_nd (i := 5) (rfs_nd _ _ _ _ _ _) rfl, ?_⟩
    refine aw_nil (cw_lenS hd (Or.inl (SqL.of hX.mlc)) ?_)
    refine aw_cons (ew_var rfl (aw_cons (ew_fld hd ?_)))
    walk_at "ob"
    refine ⟨A.a, A.C, A.dx, _, _, rfl, hX.cell, HR.cl, HR.no _ (by decide +kernel), lookup_nd (i := 4) (rfs_nd _ _ _ _ _ _) rfl, ?_⟩
    refine aw_nil ?_
    intro x dx hx hdx hne
    refine ⟨x, dx, _, _, sv, rfl, upd_same, rfl, ?_⟩
    rw [upd_upd]
    have hln : (A.mads.map fun ad => V.ref ad.a).length = A.mads.length := List.length_map _
    have h5 := hX.len1
    have o1 := (hX.own.new' (o := .own x) hdx).set (i := 1) (a := A.ml) (o' := .lst ((A.mads.map fun ad => V.ref ad.a) ++ [.ref x])) rfl
    have o2 := hX.own.new' (o := .own x) hdx
    have hx2 : upd F dx (.own x) x = none := by rw [upd_ne hne.symm]; exact hx
    have o3 := o2.more (p := x) (o := .ins A.M dx (mfs A.mads.length sv (mac0 t.beat))) hx2
    rw [hln]
    refine aw_nil (mw_append hd (o3.get (i := 2) rfl) (by rw [hln]; omega) ?_)
    refine k ⟨x, dx, sv⟩ _ ⟨?_, ?_, ?_, ?_⟩
    · have o4 := o3.set (i := 2) (a := A.ml) (o' := .lst ((A.mads.map fun ad => V.ref ad.a) ++ [.ref x])) rfl
      have e1 : mcells A.M 0 (A.mads ++ [(⟨x, dx, sv⟩ : MAd)]) (t.ms ++ [mac0 t.beat]) = mcells A.M 0 A.mads t.ms ++ [(x, .ins A.M dx (mfs A.mads.length sv (mac0 t.beat)))] := by
        rw [mcells_app (by rw [hX.len1, hX.len2]), Nat.zero_add]
        rfl
      show Own F0 _ ((A.a, .ins A.C A.dx (rfsS sh A t w r p anew)) :: (A.ml, .lst ((A.mads ++ [(⟨x, dx, sv⟩ : MAd)]).map fun ad => V.ref ad.a)) :: (mcells A.M 0 (A.mads ++ [(⟨x, dx, sv⟩ : MAd)]) (t.ms ++ [mac0 t.beat]) ++ ex))
      rw [e1, List.map_append]
      refine o4.perm ?_
      rw [List.append_assoc]
      exact (List.Perm.cons _ (List.Perm.cons _ List.perm_middle)).trans ((List.Perm.cons _ (List.Perm.swap _ _ _)).trans (List.Perm.swap _ _ _))
    · intro k' ad ss' h1 h2
      have hA : A.mads.length = w.ms.length := hX.len1
      by_cases c : k' < A.mads.length
      · refine hX.st k' ad ss' ?_ ?_
        · rw [← h1]; exact (List.getElem?_append_left c).symm
        · rw [← h2]; exact (List.getElem?_append_left (by omega)).symm
      · have e3 : k' = A.mads.length := by
          have := (List.getElem?_eq_some_iff.mp h1).1
          simp at this
          omega
        have h1' : (A.mads ++ [(⟨x, dx, sv⟩ : MAd)])[k']? = some ad := h1
        have h2' : (w.ms ++ [ss])[k']? = some ss' := h2
        rw [List.getElem?_append_right (by omega), e3, Nat.sub_self] at h1'
        rw [List.getElem?_append_right (by omega), e3, hA, Nat.sub_self] at h2'
        have ea : ad = ⟨x, dx, sv⟩ := by simpa using h1'.symm
        have es : ss' = ss := by simpa using h2'.symm
        rw [ea, es]
        exact dsv
    · show (A.mads ++ [_]).length = (w.ms ++ [ss]).length
      rw [List.length_append, List.length_append, hX.len1]
      rfl
    · show (t.ms ++ [_]).length = (w.ms ++ [ss]).length
      rw [List.length_append, List.length_append, hX.len2]
      rfl

abbrev s_Shop__dot____init__ : Stmt := inClass (top 34) 0
def N_Shop___init__ : List Str := ["self", "world", "anew", "store", "machines", "steps"]
theorem sc_Shop___init__ : FnScope N_Shop___init__ ["self", "world", "anew"] (defScope s_Shop__dot____init__) := ⟨rfl, rfl, rfl, by decide +kernel, rfl, by decide +kernel, by decide +kernel⟩
theorem ok_Shop___init__ {f : Addr} {fd : FuncData} {f1 : Addr} {fd1 : FuncData} (Fn : Fun K "__init__" "Shop.__init__" s_Shop__dot____init__ f fd) (B : Blt mg) (HR : ClsF K C rkeys) (HM : ClsF K M mkeys) (M_enter : Met K C "enter" f1 fd1 ["self", "steps"]) (G_enter : FnOk P w K mg base CX0 3 f1 fd1 ["self", "steps"] (LS (aEnterS true K C M))) : FnOk P w K mg base CX0 4 f fd ["self", "world", "anew"] (LS (aSInit K C M)) := by
  refine Fn.ok sc_Shop___init__ (fun vs H Q E h => ?_) (fun cdv A outer s H vs Q E hr h => ?_)
  · obtain ⟨J, F, R, hd, j, h, _⟩ := h
    obtain ⟨Fb, a, dx, wv, w, r, p, anew, rfl, _⟩ := h
    rfl
  · have nd := sc_Shop___init__.nd
    obtain ⟨J, F, R, hd, j, h, q⟩ := h
    obtain ⟨Fb, a, dx, wv, w, r, p, anew, rfl, rfl, hFa, dw, hm5, k⟩ := h
    refine ⟨_, (pss_cons (ps_asg (pv 1) (pg_tup rfl (pgs_cons (pg_name (i := 3) nd rfl (Or.inl rfl)) (pgs_cons (pg_name (i := 4) nd rfl (Or.inl rfl)) pgs_nil))))
      (pss_cons (ps_asg (pv 3) (pg_tup rfl (pgs_cons (pg_fld (pv 0)) (pgs_cons (pg_fld (pv 0)) (pgs_cons (pg_fld (pv 0)) pgs_nil)))))
      (pss_cons (ps_fld (pv 0) (pv 2) rfl)
      (pss_cons (ps_fld (pv 0) pe_int rfl)
      (pss_cons (ps_fld (pv 0) (pe_lst pa_nil) rfl)
      (pss_one (ps_for PassesOwn.never rfl (pi_tup (pv 4)) (pg_name (i := 5) nd rfl (Or.inl rfl)) (pss_one (ps_expr (pe_meth (pv 0) M_enter.cl M_enter.m G_enter (by exact hr.mono (by decide)) M_enter.a .nil pass0 (pa_cons (pv 5) pa_nil))))))))))), ?_⟩
    refine LS.body j q ?_
    obtain ⟨wa, xs, rfl, lx, dxs⟩ := dp_tup dw
    obtain ⟨sv, mv, rfl, ds, dm⟩ := dps2 dxs
    obtain ⟨sa, ys, rfl, ly, dys⟩ := dp_tup ds
    obtain ⟨v1, v2, v3, rfl, d1, d2, d3⟩ := dps3 dys
    cases dp_int d1
    cases dp_int d2
    cases dp_int d3
    obtain ⟨ma, zs, rfl, lz, dzs⟩ := dp_tup dm
    have o0 : Own Fb (upd Fb a (.ins C dx [])) [(a, .ins C dx [])] := own_nil.more hFa
    refine sw_seq (sw_asg ?_)
    walk_at "ob"
    refine gw_tup hd ⟨wa, _, rfl, o0.ex.sqT lx, rfl, gsw_cons (gw_name (gsw_cons (gw_name (gsw_nil ?_))))⟩
    refine sw_seq (sw_asg ?_)
    walk_at "ob"
    refine gw_tup hd ⟨sa, _, rfl, o0.ex.sqT ly, rfl, ?_⟩
    refine gsw_cons (gw_fld hd ?_)
    walk_at "ob"
    refine ⟨a, C, dx, [], rfl, o0.get (i := 0) rfl, HR.cl, HR.no _ (by decide +kernel), Nat.lt_of_le_of_lt (Nat.le_of_ble_eq_true (m := 0) rfl) (by decide), ?_⟩
    rw [putF_out (show _ ∉ rkeys.take 0 from by decide +kernel)]
    have o1 := o0.set (i := 0) (a := a) (o' := .ins C dx [("cap", V.int w.cap)]) rfl
    refine gsw_cons (gw_fld hd ?_)
    walk_at "ob"
    refine ⟨a, C, dx, [("cap", V.int w.cap)], rfl, o1.get (i := 0) rfl, HR.cl, HR.no _ (by decide +kernel), Nat.lt_of_le_of_lt (Nat.le_of_ble_eq_true (m := 1) rfl) (by decide), ?_⟩
    rw [putF_out (show _ ∉ rkeys.take 1 from by decide +kernel)]
    have o2 := o1.set (i := 0) (a := a) (o' := .ins C dx [("cap", V.int w.cap), ("have", V.int w.start)]) rfl
    refine gsw_cons (gw_fld hd ?_)
    walk_at "ob"
    refine ⟨a, C, dx, [("cap", V.int w.cap), ("have", V.int w.start)], rfl, o2.get (i := 0) rfl, HR.cl, HR.no _ (by decide +kernel), Nat.lt_of_le_of_lt (Nat.le_of_ble_eq_true (m := 2) rfl) (by decide), ?_⟩
    rw [putF_out (show _ ∉ rkeys.take 2 from by decide +kernel)]
    have o3 := o2.set (i := 0) (a := a) (o' := .ins C dx [("cap", V.int w.cap), ("have", V.int w.start), ("refill", V.int w.refill)]) rfl
    refine gsw_nil ?_
    refine sw_seq (sw_fld hd ?_)
    walk_at "ob"
    refine ⟨a, C, dx, [("cap", V.int w.cap), ("have", V.int w.start), ("refill", V.int w.refill)], rfl, o3.get (i := 0) rfl, HR.cl, HR.no _ (by decide +kernel), Nat.lt_of_le_of_lt (Nat.le_of_ble_eq_true (m := 3) rfl) (by decide), ?_⟩
    rw [putF_out (show _ ∉ rkeys.take 3 from by decide +kernel)]
    have o4 := o3.set (i := 0) (a := a) (o' := .ins C dx [("cap", V.int w.cap), ("have", V.int w.start), ("refill", V.int w.refill), ("anew", V.bl anew)]) rfl
    refine sw_seq (sw_fld hd ?_)
    walk_at "ob"
    refine ⟨a, C, dx, [("cap", V.int w.cap), ("have", V.int w.start), ("refill", V.int w.refill), ("anew", V.bl anew)], rfl, o4.get (i := 0) rfl, HR.cl, HR.no _ (by decide +kernel), Nat.lt_of_le_of_lt (Nat.le_of_ble_eq_true (m := 4) rfl) (by decide), ?_⟩
    rw [putF_out (show _ ∉ rkeys.take 4 from by decide +kernel)]
    have o5 := o4.set (i := 0) (a := a) (o' := .ins C dx [("cap", V.int w.cap), ("have", V.int w.start), ("refill", V.int w.refill), ("anew", V.bl anew), ("beat", V.int 0)]) rfl
    refine sw_seq (sw_fld hd (ew_lst hd (aw_nil ⟨by decide, fun ml hml => ?_⟩)))
    have o5' := o5.more (o := .lst []) hml
    walk_at "ob"
    refine ⟨a, C, dx, [("cap", V.int w.cap), ("have", V.int w.start), ("refill", V.int w.refill), ("anew", V.bl anew), ("beat", V.int 0)], rfl, o5'.get (i := 1) rfl, HR.cl, HR.no _ (by decide +kernel), Nat.lt_of_le_of_lt (Nat.le_of_ble_eq_true (m := 5) rfl) (by decide), ?_⟩
    rw [putF_out (show _ ∉ rkeys.take 5 from by decide +kernel)]
    have o6 := (o5'.set (i := 1) (a := a) (o' := .ins C dx [("cap", V.int w.cap), ("have", V.int w.start), ("refill", V.int w.refill), ("anew", V.bl anew), ("beat", V.int 0), ("machines", V.ref ml)]) rfl).perm (List.Perm.swap _ _ _)
    have hzl : zs.length = w.ms.length := by have := dps_len dzs; simpa using this
    have hbl : (lBegun w).ms.length = w.ms.length := by unfold lBegun; simp
    have h0 : SEnt true K Fb (upd (upd _ ml (.lst [])) a (.ins C dx [("cap", V.int w.cap), ("have", V.int w.start), ("refill", V.int w.refill), ("anew", V.bl anew), ("beat", V.int 0), ("machines", V.ref ml)])) ⟨a, dx, ml, C, M, []⟩ { lBegun w with ms := (lBegun w).ms.take 0 } { w with ms := w.ms.take 0 } r p anew [] := ⟨o6, (fun k' ad ss h _ => by simp at h), rfl, rfl⟩
    refine sw_forT hd ?_
    walk_at "ob"
    refine ⟨ma, zs, fun i σ _ G => ∃ (as : List MAd) (x4 : Option V), σ = [some (.ref a), some (.ref wa), some (.bl anew), some (.ref sa), some (.ref ma), x4] ∧ SEnt true K Fb G ⟨a, dx, ml, C, M, as⟩ { lBegun w with ms := (lBegun w).ms.take i } { w with ms := w.ms.take i } r p anew [], rfl, h0.own.ex.sqT lz, ⟨[], none, rfl, h0⟩, ?_, ?_, ?_⟩
    · rintro i σ _ G hi ⟨as, x4, rfl, hX⟩
      exact hX.own.ex.sqT lz
    · rintro i x σ _ G hi ⟨as, x4, rfl, hX⟩
      have hil : i < w.ms.length := by rw [← hzl]; exact (List.getElem?_eq_some_iff.mp hi).1
      refine gw_name ?_
      refine sw_drop (ew_meth hd ?_)
      walk_at "ob"
      obtain ⟨d, hd1, hd2⟩ := dps_get' dzs hi
      rw [List.getElem?_map, List.getElem?_eq_getElem hil] at hd1
      cases hd1
      refine ⟨a, dx, _, rfl, hX.cell, rfs_no (by decide +kernel), aw_cons (ew_var rfl (aw_nil ?_))⟩
      refine ⟨Fb, ⟨a, dx, ml, C, M, as⟩, _, _, r, p, anew, [], x, w.ms[i], rfl, rfl, rfl, hX, hd2, ?_, fun ad F' hX2 => ?_⟩
      · show (w.ms.take i).length ≤ 5
        rw [List.length_take]; omega
      · refine ⟨as ++ [ad], _, rfl, ?_⟩
        refine hX2.same ?_ rfl rfl rfl ?_
        · show ((lBegun w).ms.take (i + 1)).map mcore = (((lBegun w).ms.take i) ++ [mac0 0]).map mcore
          have hm : (lBegun w).ms[i]? = some ⟨0, -1, 0, 0, 0, if w.ms[i].isEmpty then some 0 else none⟩ := by
            unfold lBegun
            rw [List.getElem?_map, List.getElem?_eq_getElem hil]; rfl
          rw [List.take_succ, hm, List.map_append, List.map_append]
          rfl
        · show ({ w with ms := w.ms.take (i + 1) } : Wld) = { w with ms := w.ms.take i ++ [w.ms[i]] }
          rw [List.take_succ, List.getElem?_eq_getElem hil]
          rfl
    · rintro σ _ G ⟨as, x4, rfl, hX⟩
      rw [hzl] at hX
      have e1 : ({ lBegun w with ms := (lBegun w).ms.take w.ms.length } : LSt) = lBegun w := by rw [List.take_of_length_le (by rw [hbl]; exact Nat.le_refl _)]
      have e2 : ({ w with ms := w.ms.take w.ms.length } : Wld) = w := by rw [List.take_length]
      rw [e1, e2] at hX
      exact k _ _ rfl rfl rfl hX
end
end Obr
namespace Obr
open PySem L2 PyProof.Rows
local macro_rules | `(tactic| walk_at "ob_at") => `(tactic| first
  | assumption
  | exact upd_same
  | (refine Eq.trans (upd_ne ?obn) ?obr; (case obn => walk_at "ob_ne"); (case obr => walk_at "ob_at")))
local macro_rules | `(tactic| walk_at "ob_ne") => `(tactic| first
  | assumption
  | (refine Ne.symm ?obs; (case obs => assumption))
  | (refine' ne_of_none (H := ?_) ?obe ?obh; (case obh => assumption); (case obe => walk_at "ob_at"))
  | (refine Ne.symm ?obs; (case obs => (refine' ne_of_none (H := ?_) ?obe ?obh; (case obh => assumption); (case obe => walk_at "ob_at")))))
local macro_rules | `(tactic| walk_at "ob_fr") => `(tactic| first
  | assumption
  | (refine Eq.trans (upd_ne ?obn) ?obr; (case obn => walk_at "ob_ne"); (case obr => walk_at "ob_fr"))
  | (refine Ex.free (G := ?_) (by assumption) ?obh; (case obh => walk_at "ob_fr")))
local macro_rules | `(tactic| walk_at "ob_ex") => `(tactic| first
  | assumption
  | exact Ex.refl _
  | (refine Ex.out ?obg ?obh; (case obh => assumption); (case obg => walk_at "ob_ex"))
  | (refine Ex.new ?obg ?obh; (case obh => assumption); (case obg => walk_at "ob_ex"))
  | (refine Ex.new ?obg ?obh; (case obh => walk_at "ob_fr"); (case obg => walk_at "ob_ex")))
local macro_rules | `(tactic| walk_at "ob_sq") => `(tactic| first
  | assumption
  | (refine SqL.of ?oba; (case oba => walk_at "ob_at"))
  | (refine Ex.sqT (F := ?_) ?obg ?obh; (case obh => assumption); (case obg => walk_at "ob_ex"))
  | (refine Ex.sqL (F := ?_) ?obg ?obh; (case obh => assumption); (case obg => walk_at "ob_ex"))
  | (refine SqT.of ?oba; (case oba => walk_at "ob_at")))
local macro_rules | `(tactic| walk_at "ob_side") => `(tactic| first | exact rfl | assumption | decide | omega | exact ⟨by decide, by decide, by decide⟩ | exact Or.inr ⟨by decide, by decide⟩ | exact Or.inl ⟨by decide, by decide⟩ | exact wide_div (b := 60) (by first | decide | omega) (by first | decide | omega) (by decide) (by decide))
local macro_rules | `(tactic| walk_at "ob1") => `(tactic| first
  | with_reducible refine sw_seq ?_
  | with_reducible refine sw_asg ?_
  | with_reducible refine sw_ret ?_
  | with_reducible refine sw_par ?_
  | with_reducible refine ⟨_, _, rfl, ?_⟩
  | with_reducible refine sw_drop ?_
  | with_reducible refine sw_if ?_
  | with_reducible refine sw_next ?_
  | with_reducible refine gw_name ?_
  | with_reducible refine gw_subL (by assumption) ?_
  | with_reducible refine gsw_cons ?_
  | with_reducible refine gsw_nil ?_
  | with_reducible refine ew_c ?_
  | ((with_reducible refine' ew_var (v := ?_) ?obv ?_); (case obv => exact rfl))
  | ((with_reducible refine ew_next (by assumption) ?obv ?_); (case obv => exact rfl))
  | ((with_reducible refine ew_world (by assumption) ?obv ?_); (case obv => exact rfl))
  | ((with_reducible refine ew_rule (by assumption) ?obv ?_); (case obv => exact rfl))
  | with_reducible refine ew_op ?_
  | with_reducible refine ew_un ?_
  | with_reducible refine ew_dget (by assumption) ?_
  | with_reducible refine uw_I ?_
  | with_reducible refine ppw_nil ?_
  | with_reducible refine ppw_cons ?_
  | with_reducible refine sw_dput (by assumption) ?_
  | with_reducible refine ew_cb ?_
  | with_reducible refine ew_if ?_
  | with_reducible refine ew_slL (by assumption) ?_
  | with_reducible refine ow_some ?_
  | with_reducible refine ow_none ?_
  | with_reducible refine aw_nil ?_
  | with_reducible refine aw_cons ?_
  | with_reducible refine rw_I0 ?_
  | ((with_reducible refine rw_I ?obc ?_); (case obc => walk_at "ob_side"))
  | with_reducible refine rw_isN ?_
  | with_reducible refine rw_notN ?_
  | ((with_reducible refine rw_eq ?obc ?_); (case obc => exact rfl))
  | ((with_reducible refine rw_ne ?obc ?_); (case obc => exact rfl))
  | with_reducible refine cw_max2 ?_
  | with_reducible refine cw_min2 ?_
  | with_reducible refine tw_test ?_
  | with_reducible refine tw_B ?_
  | with_reducible refine tw_not ?_
  | with_reducible refine tw_truB ?_
  | with_reducible refine tw_and ?_
  | with_reducible refine tw_or ?_
  | with_reducible refine ew_and ?_
  | (refine' Exists.intro _ (And.intro (show V.bl _ = V.bl _ from rfl) ?_))
  | (refine' Exists.intro _ (And.intro (show V.int _ = V.int _ from rfl) ?_))
  | ((with_reducible refine' rw_ixL (v := ?_) (xs := ?_) (by assumption) ?obl ?oba ?_); (case obl => walk_at "ob_sq"); (case oba => first | exact rfl | exact at_zero))
  | ((with_reducible refine' rw_ixT (v := ?_) (xs := ?_) (by assumption) ?obl ?oba ?_); (case obl => walk_at "ob_sq"); (case oba => first | exact rfl | exact at_zero))
  | ((with_reducible refine' ew_lst (by assumption) ?_))
  | ((with_reducible refine' ew_tup (by assumption) ?_)))
local macro_rules | `(tactic| walk_at "ob_len") => `(tactic| first | exact Nat.le_of_ble_eq_true rfl | (simp; done) | omega)
local macro_rules | `(tactic| walk_at "ob") => `(tactic| repeat walk_at "ob1")

/-! ### Run.begin_steps -/
theorem Own.take {F0 F F' : Hp} {own : List (Addr × HO)} (h : Own F0 F own) (g : Ex F F') {a : Addr} {o : HO} (ha : F a = Option.none) (e : F' a = some o) : Own F0 F' ((a, o) :: own) where
  ex := h.ex.trans g
  out := fun q hq => by
    rcases List.mem_cons.mp hq with rfl | hq
    · exact h.ex.free ha
    · exact h.out q hq
  at_ := fun q hq => by
    rcases List.mem_cons.mp hq with rfl | hq
    · exact e
    · exact g _ _ (h.at_ q hq)
  nd := by
    rw [List.map_cons, List.nodup_cons]
    refine ⟨fun hm => ?_, h.nd⟩
    obtain ⟨q, hq, e⟩ := List.mem_map.mp hm
    have := h.at_ q hq
    rw [e, ha] at this
    cases this
section
variable {K : PySem.W.Frag} {F0 F : Hp} {A : RAd} {t : LSt} {w : Wld} {r : Rgt} {p anew : Bool} {ex : List (Addr × HO)}
theorem SAt.take {sh : Bool} (h : SAt sh K F0 F A t w r p anew ex) {F' : Hp} (g : Ex F F') {a : Addr} {o : HO} (ha : F a = none) (e : F' a = some o) : SAt sh K F0 F' A t w r p anew ((a, o) :: ex) := ⟨(h.own.take g ha e).perm run_perm, h.ml, h.st, h.len1, h.len2⟩
theorem SAt.drop2 {sh : Bool} {x y : Addr × HO} (h : SAt sh K F0 F A t w r p anew (x :: y :: ex)) : SAt sh K F0 F A t w r p anew (x :: ex) := by
  have o : Own F0 F (y :: x :: (A.a, .ins A.C A.dx (rfsS sh A t w r p anew)) :: (mcells A.M 0 A.mads t.ms ++ ex)) := (h.own.perm ((List.Perm.swap x y _).trans (List.Perm.cons x run_perm.symm) |>.trans run_perm.symm))
  refine ⟨?_, h.ml, h.st, h.len1, h.len2⟩
  refine Own.perm ?_ run_perm
  refine ⟨o.ex, fun q hq => o.out q (List.mem_cons_of_mem _ hq), fun q hq => o.at_ q (List.mem_cons_of_mem _ hq), ?_⟩
  have := o.nd
  rw [List.map_cons, List.nodup_cons] at this
  exact this.2
theorem SAt.swap {sh : Bool} {x y : Addr × HO} (h : SAt sh K F0 F A t w r p anew (x :: y :: ex)) : SAt sh K F0 F A t w r p anew (y :: x :: ex) :=
  ⟨h.own.perm (List.Perm.cons _ ((List.Perm.swap x y ex).append_left _)), h.ml, h.st, h.len1, h.len2⟩
end
/-- alike in what the program keeps -/
def lCore (t t' : LSt) : Prop := t'.ms.map mcore = t.ms.map mcore ∧ t'.level = t.level ∧ t'.last = t.last ∧ t'.beat = t.beat
theorem lCore.refl (t : LSt) : lCore t t := ⟨rfl, rfl, rfl, rfl⟩
theorem lCore.trans {a b c : LSt} (h : lCore a b) (k : lCore b c) : lCore a c := ⟨k.1.trans h.1, k.2.1.trans h.2.1, k.2.2.1.trans h.2.2.1, k.2.2.2.trans h.2.2.2⟩
theorem SAt.core {sh : Bool} {K : PySem.W.Frag} {F0 F : Hp} {A : RAd} {t t' : LSt} {w : Wld} {r : Rgt} {p anew : Bool} {ex : List (Addr × HO)} (h : SAt sh K F0 F A t w r p anew ex) (c : lCore t t') : SAt sh K F0 F A t' w r p anew ex := h.same c.1 c.2.1 c.2.2.1 c.2.2.2
theorem set_core {ms : List Mac} {k : Nat} {m m' : Mac} (h : ms[k]? = some m) (e : mcore m' = mcore m) : (ms.set k m').map mcore = ms.map mcore := by
  rw [List.map_set, e]
  refine List.ext_getElem? fun j => ?_
  rw [List.getElem?_set]
  by_cases c : k = j
  · subst c
    have hk := (List.getElem?_eq_some_iff.mp h).1
    rw [if_pos rfl, if_pos (by rw [List.length_map]; exact hk), List.getElem?_map, h]
    rfl
  · rw [if_neg c]
theorem lDraw_no {w : Wld} {p : Bool} {x : LSt × List Int × Bool} {c : Clm} (h : ¬ (x.2.2 = true ∧ c.draw ≤ x.1.level)) : lCore x.1 (lDraw w p x c).1 ∧ (lDraw w p x c).2.1 = x.2.1 := by
  unfold lDraw
  split
  · rename_i m ss hm hs
    rw [if_neg h]
    exact ⟨⟨set_core hm rfl, rfl, rfl, rfl⟩, rfl⟩
  · exact ⟨lCore.refl _, rfl⟩
theorem lDraw_shut {w : Wld} {p : Bool} {x : LSt × List Int × Bool} {c : Clm} (h : x.2.2 = false) : (lDraw w p x c).2.2 = false := by
  unfold lDraw
  split
  · rw [if_neg (fun z => by rw [h] at z; cases z.1), h]
    rfl
  · exact h
theorem lDraws_shut {w : Wld} {p : Bool} : ∀ (cs : List Clm) {x : LSt × List Int × Bool}, x.2.2 = false → lCore x.1 (cs.foldl (lDraw w p) x).1 ∧ (cs.foldl (lDraw w p) x).2.1 = x.2.1
  | [], x, _ => ⟨lCore.refl _, rfl⟩
  | c :: cs, x, h => by
    have h1 := lDraw_no (w := w) (p := p) (c := c) (fun z => by rw [h] at z; cases z.1)
    have h2 := lDraws_shut (w := w) (p := p) cs (x := lDraw w p x c) (lDraw_shut h)
    exact ⟨h1.1.trans h2.1, h2.2.trans h1.2⟩
theorem atI_lst {α : Type} {xs : List α} {x : α} : atI (xs ++ [x]) (-1) = some x := by
  have e : ixN (xs ++ [x]).length (-1) = some xs.length := by
    unfold ixN
    rw [if_neg (by decide), if_pos (by rw [List.length_append, List.length_singleton]; omega)]
    congr 1
    rw [List.length_append, List.length_singleton]
    omega
  unfold atI
  rw [e]
  show (xs ++ [x])[xs.length]? = some x
  simp
theorem lDraw_bg0 {w : Wld} {p : Bool} {x : LSt × List Int × Bool} {c : Clm} (hc : 0 ≤ c.k) (h : ∀ b ∈ x.2.1, 0 ≤ b) : ∀ b ∈ (lDraw w p x c).2.1, 0 ≤ b := by
  unfold lDraw
  repeat' split
  · intro b hb
    rcases List.mem_append.mp hb with hb | hb
    · exact h b hb
    · rw [List.mem_singleton.mp hb]; exact hc
  all_goals exact h
theorem lDraws_bg0' {w : Wld} {p : Bool} : ∀ (cs : List Clm) {x : LSt × List Int × Bool}, (∀ c ∈ cs, 0 ≤ c.k) → (∀ b ∈ x.2.1, 0 ≤ b) → ∀ b ∈ (cs.foldl (lDraw w p) x).2.1, 0 ≤ b
  | [], _, _, h => h
  | c :: cs, x, hc, h => lDraws_bg0' (w := w) (p := p) cs (x := lDraw w p x c) (fun d hd => hc d (List.mem_cons_of_mem _ hd)) (lDraw_bg0 (hc c List.mem_cons_self) h)
theorem lDraws_bg0 {w : Wld} {p : Bool} {ts : List Clm} {t : LSt} {b : Int} (hc : ∀ c ∈ ts, 0 ≤ c.k) (h : b ∈ (lDraws w p ts t).2.1) : 0 ≤ b := lDraws_bg0' (w := w) (p := p) ts hc (fun b hb => by cases hb) b h
def lPut (t : LSt) (bg : List Int) : LSt := { t with last := (if bg.isEmpty then t.last else bg.getLastD 0) }
def aBeginSteps (K : PySem.W.Frag) (C M : Addr) : List V → Hp → VK → Prop := fun vs F R => ∃ (F0 : Hp) (A : RAd) (t : LSt) (w : Wld) (r : Rgt) (p anew : Bool) (ex : List (Addr × HO)), vs = [.ref A.a] ∧ A.C = C ∧ A.M = M ∧ RunAt K F0 F A t w r p anew ex ∧ LOk w t ∧ w.ms.length ≤ 5 ∧ (∀ ss ∈ w.ms, ∀ st ∈ ss, (0 : Int) ≤ st.long) ∧
  ∀ (q : Addr) (F' : Hp) (ts : List Clm), TurnOk r t.last (lClaims w t w.ms.length) ts → RunAt K F0 F' A (lPut (lDraws w p ts t).1 (lDraws w p ts t).2.1) w r p anew ((q, .lst ((lDraws w p ts t).2.1.map V.int)) :: ex) → R (.ref q) F'
section
variable {P : Program} {w : World} {K : PySem.W.Frag} {mg : Str → Option Value} {base : Heap} {C M : Addr}

abbrev s_Run__dot__begin_steps : Stmt := inClass (top 35) 2
def N_Run_begin_steps : List Str := ["self", "begun", "number", "machine"]
theorem sc_Run_begin_steps : FnScope N_Run_begin_steps ["self"] (defScope s_Run__dot__begin_steps) := ⟨rfl, rfl, rfl, by decide +kernel, rfl, by decide +kernel, by decide +kernel⟩
theorem ok_Run_begin_steps {f : Addr} {fd : FuncData} {f1 f2 f3 f4 : Addr} {fd1 fd2 fd3 fd4 : FuncData} (Fn : Fun K "begin_steps" "Run.begin_steps" s_Run__dot__begin_steps f fd) (B : Blt mg) (HR : ClsF K C rkeys) (HM : ClsF K M mkeys) (M_waiting : Met K C "waiting" f1 fd1 ["self"]) (G_waiting : FnOk P w K mg base CX0 3 f1 fd1 ["self"] (LS (aWaitingR false K C M))) (Cin_turn : Cal K mg "in_turn" f2 fd2 ["right", "last", "waiting"]) (Gin_turn : FnOk P w K mg base CX0 2 f2 fd2 ["right", "last", "waiting"] (LS (aInTurn K M))) (M_need : Met K M "need" f3 fd3 ["self"]) (G_need : FnOk P w K mg base CX0 1 f3 fd3 ["self"] (LS (aNeed K M))) (M_begin : Met K C "begin" f4 fd4 ["self", "machine"]) (G_begin : FnOk P w K mg base CX0 2 f4 fd4 ["self", "machine"] (LS (aBeginR false K C M))) : FnOk P w K mg base CX0 4 f fd ["self"] (LS (aBeginSteps K C M)) := by
  refine Fn.ok sc_Run_begin_steps (fun vs H Q E h => ?_) (fun cdv A outer s H vs Q E hr h => ?_)
  · obtain ⟨J, F, R, hd, j, h, _⟩ := h
    obtain ⟨F0, A, t, w, r, p, anew, ex, rfl, _⟩ := h
    rfl
  · have nd := sc_Run_begin_steps.nd
    obtain ⟨J, F, R, hd, j, h, q⟩ := h
    obtain ⟨F0, A, t, w, r, p, anew, ex, rfl, rfl, rfl, hG, hok, hm5, hlong, k⟩ := h
    refine ⟨_, (pss_cons (ps_set (i := 1) nd rfl (Or.inl rfl) (pe_lst pa_nil))
      (pss_cons (ps_for PassesOwn.never rfl (pi_list (pe_call Gin_turn (by exact hr.mono (by decide)) (by rfl) Cin_turn.g Cin_turn.k Cin_turn.a .nil pass0 (pa_cons (pe_fld (pv 0) rfl) (pa_cons (pe_fld (pv 0) rfl) (pa_cons (pe_meth0 (pv 0) M_waiting.cl M_waiting.m G_waiting (by exact hr.mono (by decide)) M_waiting.a .nil pass0) pa_nil))))) (pg_name (i := 2) nd rfl (Or.inl rfl)) (pss_cons (ps_set (i := 3) nd rfl (Or.inl rfl) (pe_ix ix_list (pe_fld (pv 0) rfl) (pv 2) (fun _ _ => rfl)))
      (pss_one (ps_if (pt_cmpR op_le (pe_meth0 (pv 3) M_need.cl M_need.m G_need (by exact hr.mono (by decide)) M_need.a .nil pass0) (pe_fld (pv 0) rfl) (nomark _)) (pss_cons (ps_expr (pe_meth (pv 0) M_begin.cl M_begin.m G_begin (by exact hr.mono (by decide)) M_begin.a .nil pass0 (pa_cons (pv 3) pa_nil)))
      (pss_one (ps_expr (pe_bm PySem.F.plainAttrs_list PySem.F.slot_list_append PySem.F.type_list_append mt_append (pv 1) (pa_cons (pv 2) pa_nil))))) (pss_one (ps_if (pt_not (pt_truth (pe_fld (pv 0) rfl) (by intro _; rfl))) (pss_one ps_break) pss_nil))))))
      (pss_cons (ps_if (pt_truth (pv 1) (by intro _; rfl)) (pss_one (ps_fld (pv 0) (pe_ix ix_list (pv 1) (pe_un un_neg pe_int) (fun _ _ => rfl)) rfl)) pss_nil)
      (pss_one (ps_ret (pv 1)))))), ?_⟩
    refine LS.body j q ?_
    walk_at "ob"
    refine ⟨by walk_at "ob_len", fun ov hov => ?_⟩
    have g0 := hG.more (o := .lst []) hov
    walk_at "ob"
    refine sw_mid (fun σ _ G => ∃ (ts : List Clm) (x2 x3 : Option V), TurnOk r t.last (lClaims w t w.ms.length) ts ∧ σ = [some (.ref A.a), some (.ref ov), x2, x3] ∧ RunAt K F0 G A (lDraws w p ts t).1 w r p anew ((ov, .lst ((lDraws w p ts t).2.1.map V.int)) :: ex)) ?_ ?_
    · refine sw_forL hd ?_
      refine ew_call hd ?_
      refine aw_cons (ew_fld hd ?_)
      walk_at "ob"
      refine ⟨A.a, A.C, A.dx, _, _, rfl, g0.cell, HR.cl, HR.no _ (by decide +kernel), lookup_nd (i := 6) (rfs_nd _ _ _ _ _ _) rfl, ?_⟩
      refine aw_cons (ew_fld hd ?_)
      walk_at "ob"
      refine ⟨A.a, A.C, A.dx, _, _, rfl, g0.cell, HR.cl, HR.no _ (by decide +kernel), lookup_nd (i := 8) (rfs_nd _ _ _ _ _ _) rfl, ?_⟩
      refine aw_cons (ew_meth hd ?_)
      walk_at "ob"
      refine ⟨A.a, A.dx, _, rfl, g0.cell, rfs_no (by decide +kernel), aw_nil ⟨F0, A, t, w, r, p, anew, _, rfl, rfl, rfl, g0, hok, hm5, fun wl F1 e1 hw0 hw1 => ?_⟩⟩
      have g1 := g0.grow e1
      refine aw_nil ⟨F0, A, t, w, r, p, anew, _, wl, rfl, rfl, g1, hok, hm5, hw1, fun q F2 ts hts e2 hq0 hq1 => ?_⟩
      have g2 := (g1.take e2 hq0 hq1).swap
      have hlen : ts.length ≤ 5 := by rw [hts.perm.length_eq]; have := lClaims_len (w := w) (t := t) w.ms.length; omega
      refine ⟨q, _, fun i σ _ G => ∃ (x2 x3 : Option V) (X : LSt × List Int × Bool), σ = [some (.ref A.a), some (.ref ov), x2, x3] ∧ X = (ts.take i).foldl (lDraw w p) (t, [], true) ∧ X.2.2 = true ∧ SameAt t X.1 ∧ RunAt K F0 G A X.1 w r p anew ((ov, .lst (X.2.1.map V.int)) :: (q, .lst (ts.map fun c => V.int c.k)) :: ex) ∧ X.2.1.length ≤ i, rfl, SqL.of hq1, ⟨none, none, (t, [], true), rfl, rfl, rfl, ⟨rfl, fun _ => rfl⟩, ?_, Nat.zero_le _⟩, ?_, ?_, ?_⟩
      · exact g2
      · rintro i σ _ G hi ⟨x2, x3, X, rfl, eX, ho, hs, hX, hl⟩
        exact SqL.of hX.swap.ex0
      · rintro i x σ _ G hi ⟨x2, x3, X, rfl, eX, ho, hs, hX, hl⟩
        rw [List.getElem?_map] at hi
        obtain ⟨c, hc, rfl⟩ := Option.map_eq_some_iff.mp hi
        have hil := (List.getElem?_eq_some_iff.mp hc).1
        have hcm := hts.perm.mem_iff.mp (List.mem_of_getElem? hc)
        obtain ⟨k', hj, hcj⟩ := lClaims_mem hcm
        obtain ⟨m, ss, st, h2t, h3, _, _, hst, ec⟩ := lClaim_mem hcj
        have ha0 := (hok.m k' m ss h2t h3).a0
        obtain ⟨ad, m', ss', h1, h2, h3'⟩ := hX.three hj
        rw [h3] at h3'; cases h3'
        have eat : m'.at_ = m.at_ := by
          have := hs.2 k'
          rw [h2, h2t] at this
          exact Option.some.inj this
        have ek : c.k = (k' : Int) := by rw [ec]
        have ed : c.draw = st.draw := by rw [ec]
        have eN : ts.take (i + 1) = ts.take i ++ [c] := by rw [List.take_succ, hc]; rfl
        have eS : (ts.take (i + 1)).foldl (lDraw w p) (t, [], true) = lDraw w p X c := by rw [eN, List.foldl_append, ← eX]; rfl
        have hbt : X.1.beat = t.beat := hs.1
        have hkn : c.k.toNat = k' := by rw [ek]; exact Int.toNat_natCast _
        walk_at "ob"
        refine ew_fld hd ?_
        walk_at "ob"
        refine ⟨A.a, A.C, A.dx, _, _, rfl, hX.cell, HR.cl, HR.no _ (by decide +kernel), lookup_nd (i := 5) (rfs_nd _ _ _ _ _ _) rfl, ?_⟩
        walk_at "ob"
        refine rw_ixL hd (xs := A.mads.map fun ad => .ref ad.a) (v := .ref ad.a) (SqL.of (hX.own.ex _ _ hX.ml)) ?_ ?_
        · rw [ek]
          refine atI_nat ?_
          rw [List.getElem?_map, h1]
          rfl
        walk_at "ob"
        refine ew_meth hd ?_
        walk_at "ob"
        refine ⟨ad.a, ad.dx, _, rfl, hX.mac h1 h2, mfs_no (by decide +kernel), aw_nil ⟨F0, ad.a, ad.dx, k', ad.sv, ss, m', st, rfl, hX.mobj h1 h2 h3, by rw [eat]; exact ha0, by rw [eat]; exact hst, ?_⟩⟩
        refine ew_fld hd ?_
        walk_at "ob"
        refine ⟨A.a, A.C, A.dx, _, _, rfl, hX.cell, HR.cl, HR.no _ (by decide +kernel), lookup_nd (i := 1) (rfs_nd _ _ _ _ _ _) rfl, ?_⟩
        walk_at "ob"
        refine ⟨fun hb => ?_, fun hb => ?_⟩
        · have hle : c.draw ≤ X.1.level := by rw [ed]; exact of_decide_eq_true hb
          have eD : lDraw w p X c = ({ X.1 with level := X.1.level - c.draw, ms := X.1.ms.set k' { m' with over := X.1.beat + st.long } }, X.2.1 ++ [c.k], X.2.2) := by
            unfold lDraw
            rw [hkn, h2, h3]
            simp only []
            rw [if_pos ⟨ho, hle⟩, eat, hst]
          have hl0 : 0 ≤ X.1.beat + st.long := by
            have := hlong ss (List.mem_of_getElem? h3) st (List.mem_of_getElem? hst)
            have := hok.b
            omega
          refine sw_seq (sw_drop (ew_meth hd ?_))
          walk_at "ob"
          refine ⟨A.a, A.dx, _, rfl, hX.cell, rfs_no (by decide +kernel), aw_cons (ew_var rfl (aw_nil ?_))⟩
          refine ⟨F0, A, X.1, w, r, p, anew, _, k', ad, m', ss, st, rfl, rfl, rfl, hX, h1, h2, h3, by rw [eat]; exact ha0, by rw [eat]; exact hst, hl0, fun G2 hX2 => ?_⟩
          refine sw_drop (ew_bmL hd ?_)
          walk_at "ob"
          refine ⟨ov, _, rfl, SqL.of hX2.ex0, ?_⟩
          walk_at "ob"
          refine mw_append hd hX2.ex0 (by rw [List.length_map]; omega) ?_
          have hX3 := hX2.exset (o' := .lst (X.2.1.map V.int ++ [V.int c.k]))
          refine ⟨_, _, lDraw w p X c, rfl, eS.symm, ?_, ?_, ?_, ?_⟩
          · rw [eD]; exact ho
          · refine SameAt.set hs h2 (m' := { m' with over := X.1.beat + st.long }) ?_ rfl ?_
            · rw [eD]
            · rw [eD]
          · rw [eD, List.map_append, ed]
            exact hX3
          · rw [eD, List.length_append, List.length_singleton]
            omega
        · have hle : ¬ c.draw ≤ X.1.level := by rw [ed]; exact of_decide_eq_false hb
          have hn := lDraw_no (w := w) (p := p) (x := X) (c := c) (fun z => hle z.2)
          have eD : lDraw w p X c = ({ X.1 with ms := X.1.ms.set k' { m' with waits := m'.waits + 1 } }, X.2.1, X.2.2 && p) := by
            unfold lDraw
            rw [hkn, h2, h3]
            simp only []
            rw [if_neg (fun z => hle z.2)]
          refine sw_if (tw_not (tw_truB (ew_fld hd ?_)))
          walk_at "ob"
          refine ⟨A.a, A.C, A.dx, _, _, rfl, hX.cell, HR.cl, HR.no _ (by decide +kernel), lookup_nd (i := 7) (rfs_nd _ _ _ _ _ _) rfl, ?_⟩
          refine ⟨p, rfl, fun hp => ?_, fun hp => ?_⟩
          · refine sw_break ⟨ts, _, _, hts, rfl, ?_⟩
            have hp' : p = false := by cases p with | false => rfl | true => cases hp
            have hsh : (lDraw w p X c).2.2 = false := by rw [eD, hp', Bool.and_false]
            have hrest := lDraws_shut (w := w) (p := p) (ts.drop (i + 1)) hsh
            have hall : lDraws w p ts t = (ts.drop (i + 1)).foldl (lDraw w p) (lDraw w p X c) := by
              rw [← eS, ← List.foldl_append, List.take_append_drop]
              rfl
            rw [hall, hrest.2, hn.2]
            exact ((hX.core hn.1).core hrest.1).drop2
          · refine sw_next ⟨_, _, lDraw w p X c, rfl, eS.symm, ?_, ?_, ?_, ?_⟩
            · have hp' : p = true := by cases p with | true => rfl | false => cases hp
              rw [eD, hp', Bool.and_true]
              exact ho
            · refine SameAt.set hs h2 (m' := { m' with waits := m'.waits + 1 }) ?_ rfl ?_
              · rw [eD]
              · rw [eD]
            · rw [hn.2]
              exact hX.core hn.1
            · rw [hn.2]
              omega
      · rintro σ _ G ⟨x2, x3, X, rfl, eX, ho, hs, hX, hl⟩
        rw [List.length_map, List.take_length] at eX
        have eX' : lDraws w p ts t = X := eX.symm
        refine ⟨ts, _, _, hts, rfl, ?_⟩
        rw [eX']
        exact hX.drop2
    · rintro σ _ G ⟨ts, x2, x3, hts, rfl, hX⟩
      refine sw_seq (sw_if (tw_truL hd ?_))
      walk_at "ob"
      refine ⟨ov, _, rfl, SqL.of hX.ex0, ?_⟩
      have hie : (((lDraws w p ts t).2.1.map V.int).isEmpty) = (lDraws w p ts t).2.1.isEmpty := by cases (lDraws w p ts t).2.1 <;> rfl
      rw [hie]
      refine ⟨fun hb => ?_, fun hb => ?_⟩
      · have hne : (lDraws w p ts t).2.1.isEmpty = false := by cases h : (lDraws w p ts t).2.1.isEmpty <;> rw [h] at hb <;> first | rfl | cases hb
        obtain ⟨bs, b, hbs⟩ : ∃ bs b, (lDraws w p ts t).2.1 = bs ++ [b] := by
          rcases List.eq_nil_or_concat (lDraws w p ts t).2.1 with h | ⟨bs, b, h⟩
          · rw [h] at hne; cases hne
          · exact ⟨bs, b, by rw [h, List.concat_eq_append]⟩
        refine sw_fld hd ?_
        walk_at "ob"
        refine rw_ixL hd (v := .int b) (SqL.of hX.ex0) ?_ ?_
        · rw [hbs, List.map_append]
          exact atI_lst
        walk_at "ob"
        refine ⟨A.a, A.C, A.dx, _, rfl, hX.cell, HR.cl, HR.no _ (by decide +kernel), rfs_lt, ?_⟩
        rw [putF_nd (i := 8) (rfs_nd _ _ _ _ _ _) rfl]
        walk_at "ob"
        have hX1 := hX.put (t' := lPut (lDraws w p ts t).1 (lDraws w p ts t).2.1) rfl
        have e : (rfs A (lDraws w p ts t).1 w r p anew).set 8 ("last", V.int b) = rfs A (lPut (lDraws w p ts t).1 (lDraws w p ts t).2.1) w r p anew := by
          have hb0 : 0 ≤ b := by
            have : b ∈ (lDraws w p ts t).2.1 := by rw [hbs]; simp
            exact lDraws_bg0 (fun c hc => (lClaims_k0 (hts.perm.mem_iff.mp hc)).1) this
          have el : (lPut (lDraws w p ts t).1 (lDraws w p ts t).2.1).last = b := by
            unfold lPut
            rw [hne, hbs]
            simp
          have eo : ovV b = V.int b := by
            unfold ovV
            rw [if_neg (by omega)]
          rw [← eo, ← el]
          rfl
        rw [e]
        exact k ov _ ts hts hX1
      · have hne : (lDraws w p ts t).2.1.isEmpty = true := by cases h : (lDraws w p ts t).2.1.isEmpty <;> rw [h] at hb <;> first | rfl | cases hb
        walk_at "ob"
        refine k ov G ts hts ?_
        have e : lPut (lDraws w p ts t).1 (lDraws w p ts t).2.1 = (lDraws w p ts t).1 := by
          unfold lPut
          rw [hne]
          rfl
        rw [e]
        exact hX
end
end Obr
/-! ### C.m(e, ..): a plain def of a class, called by the class's name -/
namespace Obr
open PySem L2 PySem.Spec PyProof.Rows
/-- the class's def of this name, read off the class -/
structure ClsFn (K : PySem.W.Frag) (C : Addr) (m : Str) (f : Addr) (fd : FuncData) (ps : List Str) : Prop where
  rd : ClX.CRead K C (.type "type")
  vl : ClX.CVal K C (.type "type") m (.ref f) (.ref f)
  kp : PySem.W.keepIn K (.ref f) = true
  a : Binds K fd ps []
def tCFun (C : Addr) (sp : Sp) (E : XK) (ta : TE) (t : TA) : TE := fun σ H Q => ta σ H fun x H1 => x = .ref C ∧ t σ H1 fun vs H2 => sp (vs ++ []) H2 Q E
section
variable {X : Cx} {o e : Expr} {es : List Expr} {m : Str} {pos apos : Pos} {ta : TE} {t : TA} {C f : Addr} {fd : FuncData} {ps : List Str} {k : Nat} {CX : CXT} {sp : Sp} {E : XK}
theorem pe_cfun {pl : Sem Bool} (he : PE X o ta) (c : ClsFn X.K C m f fd ps) (F : FnOk X.prog X.w X.K X.mg X.base CX k f fd ps sp) (hr : Room k X.A) (hx : Passes CX X E) (ha : PA X (e :: es) t)
    (hst : starEach (e :: es) X.env = (false, eval e X.env) :: starEach es X.env := by rfl) (hpl : (backTo pos (starEach es X.env)).any (·.1) = false := by rfl)
    (ht : eval (.Call (.Attribute o m apos) (e :: es) [] pos) X.env = (do
      let ov ← eval o X.env
      standAt apos.atName
      let (f, first) ← holding [ov] (getMethod ov m pl)
      callWith pos f first (backTo pos (starEach (e :: es) X.env)) (backToKw pos (keywordEach [] X.env))) := by rfl) :
    PE X (.Call (.Attribute o m apos) (e :: es) [] pos) (tCFun C sp E ta t) := by
  refine ⟨fun pins s σ H Q I h => ?_⟩
  refine PySem.W.methodCall_KW (pl := pl) (thn (he.run pins s σ H _ I h) fun u s1 ⟨x, H1, I1, rx, ex, q⟩ => ?_) ht
  subst ex
  obtain rfl : u = Value.ref C := rx
  refine PySem.W.method_cls I1.kIn c.rd.ga (ClX.getcval_ok I1 c.rd c.vl fun s2 I2 => ?_)
  refine PySem.W.callWith_K (first := []) (h₀ := X.base) I.ok.mod.kin c.kp (thn (ha.run pos pins s2 σ H1 _ I2 q) fun us s3 ⟨vs, H2, I3, r, q2⟩ => ⟨I3.kIn, ?_⟩) hst hpl
  exact run_fn (us := us) (vs := vs) F hr c.a .nil hx I3 r q2
end
section
variable {S : Type} {J : S → Hp → Hp → Prop} {K : PySem.W.Frag} {σ : L2.St} {s : S} {F : Hp} {R : V → S → Hp → Prop} {ta : TE} {tr : TA} {A : List V → Hp → VK → Prop} {E : XK} {C : Addr}
theorem ew_cfun (hd : Hid J) (h : EW J ta σ s F fun x s1 F1 => x = .ref C ∧ AW J tr σ s1 F1 fun vs s2 F2 => A vs F2 fun v F' => R v s2 F') :
    EW J (tCFun C (LS A) E ta tr) σ s F R := fun H j Q q =>
  h H j _ fun x s1 F1 H1 j1 ⟨e, h2⟩ => ⟨e, h2 H1 j1 _ fun vs s2 F2 H2 j2 k => by
    show LS A (vs ++ []) H2 Q E
    rw [List.append_nil]
    exact ⟨_, F2, _, hd.unit s2, j2, k, fun v F' H' j' r => q v s2 F' H' j' r⟩⟩
end
/-- the head's look at such a def -/
def clsFnB (K : PySem.W.Frag) (C : Addr) (m : Str) (f : Addr) : Bool := PySem.W.readsIn K C (.type "type") && (PySem.W.specialIn K (.ref C) "__getattribute__" == some (some (.builtin "type.__getattribute__"))) && (match PySem.W.findCls K (.ref C) (.type "type") m with | some (.val v) => v == .ref f | _ => false)
theorem clsFn_ok {K : PySem.W.Frag} {C f : Addr} {m : Str} {fd : FuncData} {ps : List Str} (h : clsFnB K C m f = true) (kp : PySem.W.keepIn K (.ref f) = true) (b : Binds K fd ps []) : ClsFn K C m f fd ps := by
  unfold clsFnB at h
  rw [Bool.and_eq_true, Bool.and_eq_true] at h
  obtain ⟨⟨h1, h2⟩, h3⟩ := h
  refine ⟨⟨h1, eq_of_beq h2⟩, ⟨?_, rfl⟩, kp, b⟩
  split at h3
  · rename_i v e
    rw [e, eq_of_beq h3]
  · cases h3
end Obr
namespace Obr
open PySem PySem.Spec PyProof.Rows L2
def dd (a : Str × Option Str) (x qual : Str) (st : Stmt) : He.DefD := ⟨a, x, qual, defArgs st, defBody st, defScope st, [], []⟩
def fn0 : List He.DefD := [dd ("_wall", none) "_wall" "_wall" (top 0), dd ("in_turn", none) "in_turn" "in_turn" (top 14), dd ("least_first", none) "least_first" "least_first" (top 15), dd ("behind_first", none) "behind_first" "behind_first" (top 16), dd ("check_world", none) "check_world" "check_world" (top 23), dd ("check_store", none) "check_store" "check_store" (top 24), dd ("check_steps", none) "check_steps" "check_steps" (top 25), dd ("is_step", none) "is_step" "is_step" (top 26), dd ("check_rule", none) "check_rule" "check_rule" (top 27), dd ("check_count", none) "check_count" "check_count" (top 28), dd ("Machine", some "__init__") "__init__" "Machine.__init__" (inClass (top 33) 0), dd ("Machine", some "is_done") "is_done" "Machine.is_done" (inClass (top 33) 1), dd ("Machine", some "is_busy") "is_busy" "Machine.is_busy" (inClass (top 33) 2), dd ("Machine", some "is_waiting") "is_waiting" "Machine.is_waiting" (inClass (top 33) 3), dd ("Machine", some "need") "need" "Machine.need" (inClass (top 33) 4), dd ("Machine", some "left") "left" "Machine.left" (inClass (top 33) 5), dd ("Machine", some "begin_step") "begin_step" "Machine.begin_step" (inClass (top 33) 6), dd ("Machine", some "end_step") "end_step" "Machine.end_step" (inClass (top 33) 7), dd ("Machine", some "begin_anew") "begin_anew" "Machine.begin_anew" (inClass (top 33) 8), dd ("Shop", some "__init__") "__init__" "Shop.__init__" (inClass (top 34) 0)]
def fn1 : List He.DefD := [dd ("Shop", some "enter") "enter" "Shop.enter" (inClass (top 34) 1), dd ("Shop", some "open_beat") "open_beat" "Shop.open_beat" (inClass (top 34) 2), dd ("Shop", some "end_steps") "end_steps" "Shop.end_steps" (inClass (top 34) 3), dd ("Shop", some "put_in") "put_in" "Shop.put_in" (inClass (top 34) 4), dd ("Shop", some "begin") "begin" "Shop.begin" (inClass (top 34) 5), dd ("Shop", some "close_beat") "close_beat" "Shop.close_beat" (inClass (top 34) 6), dd ("Shop", some "waiting") "waiting" "Shop.waiting" (inClass (top 34) 7), dd ("Run", some "__init__") "__init__" "Run.__init__" (inClass (top 35) 0), dd ("Run", some "do_beat") "do_beat" "Run.do_beat" (inClass (top 35) 1), dd ("Run", some "begin_steps") "begin_steps" "Run.begin_steps" (inClass (top 35) 2), dd ("Run", some "is_still") "is_still" "Run.is_still" (inClass (top 35) 3), dd ("checked_run", none) "checked_run" "checked_run" (top 36), dd ("period", none) "period" "period" (top 40), dd ("after", none) "after" "after" (top 41), dd ("come_round", none) "come_round" "come_round" (top 42), dd ("gained", none) "gained" "gained" (top 43), dd ("picture_of", none) "picture_of" "picture_of" (top 44), dd ("memory_of", none) "memory_of" "memory_of" (top 45), dd ("place_of", none) "place_of" "place_of" (top 46), dd ("_law_mix", none) "_law_mix" "_law_mix" (top 48)]
def fn2 : List He.DefD := [dd ("_law_next", none) "_law_next" "_law_next" (top 49), dd ("_law_alike", none) "_law_alike" "_law_alike" (top 50), dd ("_law_world", none) "_law_world" "_law_world" (top 51), dd ("_law_rule", none) "_law_rule" "_law_rule" (top 52), dd ("_law_turn", none) "_law_turn" "_law_turn" (top 53), dd ("_law_begun", none) "_law_begun" "_law_begun" (top 54), dd ("_law_beat", none) "_law_beat" "_law_beat" (top 55), dd ("_law_kind", none) "_law_kind" "_law_kind" (top 56), dd ("_law_state", none) "_law_state" "_law_state" (top 57), dd ("law", none) "law" "law" (top 58), dd ("Run", some "enter") "enter" "Shop.enter" (inClass (top 34) 1), dd ("Run", some "open_beat") "open_beat" "Shop.open_beat" (inClass (top 34) 2), dd ("Run", some "end_steps") "end_steps" "Shop.end_steps" (inClass (top 34) 3), dd ("Run", some "put_in") "put_in" "Shop.put_in" (inClass (top 34) 4), dd ("Run", some "begin") "begin" "Shop.begin" (inClass (top 34) 5), dd ("Run", some "close_beat") "close_beat" "Shop.close_beat" (inClass (top 34) 6), dd ("Run", some "waiting") "waiting" "Shop.waiting" (inClass (top 34) 7)]
def fn : List He.DefD := fn0 ++ fn1 ++ fn2
def fa0 : List He.Fa := [.exc "BadCount", .exm "BadCount" "BreathError" true, .glo "BadStep", .glo "BadPlan", .glo "NoMachine", .glo "BadDeed", .glo "BadText", .glo "BadStore", .glo "BadRule", .glo "BadCount", .glo "TooMany", .glo "BreathError", .glo "_wall", .glo "in_turn", .glo "least_first", .glo "behind_first", .glo "check_world", .glo "check_store", .glo "check_steps", .glo "is_step", .glo "check_rule", .glo "check_count", .glo "checked_run", .glo "period", .glo "after", .glo "come_round", .glo "gained", .glo "picture_of", .glo "memory_of", .glo "place_of"]
def fa1 : List He.Fa := [.glo "_law_mix", .glo "_law_next", .glo "_law_alike", .glo "_law_world", .glo "_law_rule", .glo "_law_turn", .glo "_law_begun", .glo "_law_beat", .glo "_law_kind", .glo "_law_state", .glo "law", .glo "Machine", .glo "Shop", .glo "Run", .glo "RIGHTS", .free "len", .free "list", .free "tuple", .free "max", .free "min", .free "range", .free "sum", .free "sorted", .free "enumerate", .free "zip", .free "isinstance", .free "int", .free "str", .free "bool", .free "ValueError"]
def fa2 : List He.Fa := [.free "any", .free "divmod", .int "MOST_CAP" 99, .int "MOST_REFILL" 9, .int "MOST_MACHINES" 5, .int "MOST_STEPS" 6, .int "MOST_LONG" 9, .int "DRAW" 0, .int "LONG" 1, .int "BACK" 2, .int "MOST_ROUND" 5000, .int "MOST_AFTER" 1000000000000, .cls "Machine", .cls "Shop", .cls "Run", .mkr "Machine", .mkr "Shop", .mkr "Run", .meth "Machine" "is_done", .meth "Machine" "is_busy", .meth "Machine" "is_waiting", .meth "Machine" "need", .meth "Machine" "left", .meth "Machine" "begin_step", .meth "Machine" "end_step", .meth "Machine" "begin_anew", .meth "Shop" "enter", .meth "Shop" "open_beat", .meth "Shop" "end_steps", .meth "Shop" "put_in"]
def fa3 : List He.Fa := [.meth "Shop" "begin", .meth "Shop" "close_beat", .meth "Shop" "waiting", .meth "Run" "do_beat", .meth "Run" "begin_steps", .meth "Run" "is_still", .meth "Run" "enter", .meth "Run" "open_beat", .meth "Run" "end_steps", .meth "Run" "put_in", .meth "Run" "begin", .meth "Run" "close_beat", .meth "Run" "waiting"]
def fa : List He.Fa := fa0 ++ fa1 ++ fa2 ++ fa3
def kitBx (K : PySem.W.Frag) : Bool := decide (PySem.W.kitOne K (.ref (He.ga K "BadCount")) (.ref (He.ga K "BadStep")) = some false) && decide (PySem.W.kitOne K (.ref (He.ga K "BadCount")) (.ref (He.ga K "BadPlan")) = some false) && decide (PySem.W.kitOne K (.ref (He.ga K "BadCount")) (.ref (He.ga K "NoMachine")) = some false) && decide (PySem.W.kitOne K (.ref (He.ga K "BadCount")) (.ref (He.ga K "BadDeed")) = some false) && decide (PySem.W.kitOne K (.ref (He.ga K "BadCount")) (.ref (He.ga K "BadText")) = some false) && decide (PySem.W.kitOne K (.ref (He.ga K "BadCount")) (.ref (He.ga K "BadStore")) = some false) && decide (PySem.W.kitOne K (.ref (He.ga K "BadCount")) (.ref (He.ga K "BadRule")) = some false) && decide (PySem.W.kitOne K (.ref (He.ga K "BadCount")) (.ref (He.ga K "BadCount")) = some true) && decide (PySem.W.kitOne K (.ref (He.ga K "BadCount")) (.ref (He.ga K "TooMany")) = some false) && decide (PySem.W.kitOne K (.ref (He.ga K "BadCount")) (.type "ValueError") = some true)
def excB (K : PySem.W.Frag) : Bool := He.eqO (PySem.W.findIn K (.ref (He.ga K "BadCount")) "__getattribute__") (some (some (.builtin "BaseException.__getattribute__"))) && He.eqO (PySem.W.findIn K (.ref (He.ga K "BadCount")) "__getattr__") (some none) && decide (PySem.W.subIn K (.ref (He.ga K "BadCount")) (.type "BaseException") = some true) && PySem.W.hasDictIn K (He.ga K "BadCount") && He.eqO (PySem.W.findIn K (.ref (He.ga K "BadCount")) "__class__") (some (some (.builtin "object.__class__"))) && He.eqO (PySem.W.specialIn K (.builtin "object.__class__") "__get__") (some (some (.builtin "getset_descriptor.__get__"))) && decide (PySem.W.takesIn K (.builtin "object.__class__") = some true) && decide (PySem.W.mroIn K (He.ga K "BadCount") (.type "object") = some true)
def tabB (K : PySem.W.Frag) : Bool := match K.lookup (He.ga K "law") with
  | some ⟨_, _, .func fd, _⟩ => (match fd.code with
    | .ref c => (match K.lookup c with
      | some ⟨_, _, .fields vs, _⟩ => (match vs[11]? with
        | some (Value.ref P) => (K.lookup P).isNone
        | _ => false)
      | _ => false)
    | _ => false)
  | _ => false
def exA (K : PySem.W.Frag) : Bool := He.tupB K "RIGHTS" [.str "rank", .str "turns", .str "wait", .str "least"] && ((mkeys.all fun f => (He.Fa.noat "Machine" f).ok K) && ((rkeys.all fun f => (He.Fa.noat "Run" f).ok K) && (clsFnB K (He.ga K "Shop") "__init__" (He.ma K (He.ga K "Shop") "__init__"))))
def asC (g : Addr → Option Obj) (n : Nat) : List Addr := He.asD g n ++ [cStatics]
def tabOf (K : PySem.W.Frag) : Option Addr := match K.lookup (He.ga K "law") with
  | some ⟨_, _, .func fd, _⟩ => (match fd.code with
    | .ref c => (match K.lookup c with
      | some ⟨_, _, .fields vs, _⟩ => (match vs[11]? with
        | some (Value.ref P) => some P
        | _ => none)
      | _ => none)
    | _ => none)
  | _ => none
def asX (g : Addr → Option Obj) (n : Nat) : List Addr := match tabOf (He.frG g (asC g n)) with
  | some P => (asC g n).filter fun a => !Nat.beq a P
  | none => asC g n
def exB (K : PySem.W.Frag) : Bool := kitBx K && (excB K && (tabB K && (exA K)))
def hookY (n : Nat) (fa : List He.Fa) (fn : List He.DefD) (ex : PySem.W.Frag → Bool) : PySem.W.Hook where
  α := He.AlD × Bool
  obs := fun s => (He.obsD fa fn (He.frG s.heap.get? (asX s.heap.get? n)), ex (He.frG s.heap.get? (asX s.heap.get? n)))
  val := fun _ => (He.valD fn, true)
  says := fun _ h => ∃ K : PySem.W.Frag, K.In h ∧ He.SaysD fa fn K ∧ ex K = true
  of := fun _ _ e => ⟨_, He.frG_in, congrArg (fun z : He.AlD × Bool => z.1) e, congrArg (fun z : He.AlD × Bool => z.2) e⟩
  keeps := fun _ _ _ ⟨K, hK, c⟩ k => ⟨K, PySem.W.Frag.In.keeps hK k, c⟩
abbrev RR : PySem.W.OpenRow := PySem.W.OpenLaw.row PySem.Challenge.rw_onebreath_k04_whole_rounds_for_ever
abbrev hk : PySem.W.Hook := hookY 5 fa fn exB
def ob (s : PySem.W.SharedT) : He.AlD × Bool := (He.obsD fa fn (He.frG (HandSHeadRun.getT s) (asX (HandSHeadRun.getT s) 5)), exB (He.frG (HandSHeadRun.getT s) (asX (HandSHeadRun.getT s) 5)))
theorem ob_eq (s : PySem.W.SharedT) : ob s = hk.obs s.abs := by
  have e : HandSHeadRun.getT s = s.abs.heap.get? := funext (HandSHeadRun.getT_eq s)
  unfold ob
  rw [e] <;> rfl
def loose0 : List Str := ["_wall", "BreathError", "BadStore", "BadStep", "BadRule", "BadCount", "BadPlan", "TooMany", "NoMachine", "BadDeed", "BadText", "RIGHTS", "in_turn", "least_first", "behind_first", "MOST_CAP", "MOST_REFILL", "MOST_MACHINES", "MOST_STEPS", "MOST_LONG"]
def loose1 : List Str := ["check_world", "check_store", "check_steps", "is_step", "check_rule", "check_count", "DRAW", "LONG", "BACK", "Machine", "Shop", "Run", "checked_run", "MOST_AFTER", "MOST_ROUND", "period", "after", "come_round", "gained", "picture_of"]
def loose2 : List Str := ["memory_of", "place_of", "_law_mix", "_law_next", "_law_alike", "_law_world", "_law_rule", "_law_turn", "_law_begun", "_law_beat", "_law_kind", "_law_state"]
def loose : List Str := loose0 ++ loose1 ++ loose2
theorem run (w : World) : HandSHeadRun.RunEq RR (PySem.W.view RR.prog [58]) hk ob 6000 loose w := by
  intro os
  kernel_rfl
end Obr
namespace Obr
open PySem L2 PyProof.Rows
local macro_rules | `(tactic| walk_at "ob_at") => `(tactic| first
  | assumption
  | exact upd_same
  | (refine Eq.trans (upd_ne ?obn) ?obr; (case obn => walk_at "ob_ne"); (case obr => walk_at "ob_at")))
local macro_rules | `(tactic| walk_at "ob_ne") => `(tactic| first
  | assumption
  | (refine Ne.symm ?obs; (case obs => assumption))
  | (refine' ne_of_none (H := ?_) ?obe ?obh; (case obh => assumption); (case obe => walk_at "ob_at"))
  | (refine Ne.symm ?obs; (case obs => (refine' ne_of_none (H := ?_) ?obe ?obh; (case obh => assumption); (case obe => walk_at "ob_at")))))
local macro_rules | `(tactic| walk_at "ob_fr") => `(tactic| first
  | assumption
  | (refine Eq.trans (upd_ne ?obn) ?obr; (case obn => walk_at "ob_ne"); (case obr => walk_at "ob_fr"))
  | (refine Ex.free (G := ?_) (by assumption) ?obh; (case obh => walk_at "ob_fr")))
local macro_rules | `(tactic| walk_at "ob_ex") => `(tactic| first
  | assumption
  | exact Ex.refl _
  | (refine Ex.out ?obg ?obh; (case obh => assumption); (case obg => walk_at "ob_ex"))
  | (refine Ex.new ?obg ?obh; (case obh => assumption); (case obg => walk_at "ob_ex"))
  | (refine Ex.new ?obg ?obh; (case obh => walk_at "ob_fr"); (case obg => walk_at "ob_ex")))
local macro_rules | `(tactic| walk_at "ob_sq") => `(tactic| first
  | assumption
  | (refine SqL.of ?oba; (case oba => walk_at "ob_at"))
  | (refine Ex.sqT (F := ?_) ?obg ?obh; (case obh => assumption); (case obg => walk_at "ob_ex"))
  | (refine Ex.sqL (F := ?_) ?obg ?obh; (case obh => assumption); (case obg => walk_at "ob_ex"))
  | (refine SqT.of ?oba; (case oba => walk_at "ob_at")))
local macro_rules | `(tactic| walk_at "ob_side") => `(tactic| first | exact rfl | assumption | decide | omega | exact ⟨by decide, by decide, by decide⟩ | exact Or.inr ⟨by decide, by decide⟩ | exact Or.inl ⟨by decide, by decide⟩ | exact wide_div (b := 60) (by first | decide | omega) (by first | decide | omega) (by decide) (by decide))
local macro_rules | `(tactic| walk_at "ob1") => `(tactic| first
  | with_reducible refine sw_seq ?_
  | with_reducible refine sw_asg ?_
  | with_reducible refine sw_ret ?_
  | with_reducible refine sw_par ?_
  | with_reducible refine ⟨_, _, rfl, ?_⟩
  | with_reducible refine sw_drop ?_
  | with_reducible refine sw_if ?_
  | with_reducible refine sw_next ?_
  | with_reducible refine gw_name ?_
  | with_reducible refine gw_subL (by assumption) ?_
  | with_reducible refine gsw_cons ?_
  | with_reducible refine gsw_nil ?_
  | with_reducible refine ew_c ?_
  | ((with_reducible refine' ew_var (v := ?_) ?obv ?_); (case obv => exact rfl))
  | ((with_reducible refine ew_next (by assumption) ?obv ?_); (case obv => exact rfl))
  | ((with_reducible refine ew_world (by assumption) ?obv ?_); (case obv => exact rfl))
  | ((with_reducible refine ew_rule (by assumption) ?obv ?_); (case obv => exact rfl))
  | with_reducible refine ew_op ?_
  | with_reducible refine ew_un ?_
  | with_reducible refine ew_dget (by assumption) ?_
  | with_reducible refine uw_I ?_
  | with_reducible refine ppw_nil ?_
  | with_reducible refine ppw_cons ?_
  | with_reducible refine sw_dput (by assumption) ?_
  | with_reducible refine ew_cb ?_
  | with_reducible refine ew_if ?_
  | with_reducible refine ew_slL (by assumption) ?_
  | with_reducible refine ow_some ?_
  | with_reducible refine ow_none ?_
  | with_reducible refine aw_nil ?_
  | with_reducible refine aw_cons ?_
  | with_reducible refine rw_I0 ?_
  | ((with_reducible refine rw_I ?obc ?_); (case obc => walk_at "ob_side"))
  | with_reducible refine rw_isN ?_
  | with_reducible refine rw_notN ?_
  | ((with_reducible refine rw_eq ?obc ?_); (case obc => exact rfl))
  | ((with_reducible refine rw_ne ?obc ?_); (case obc => exact rfl))
  | with_reducible refine cw_max2 ?_
  | with_reducible refine cw_min2 ?_
  | with_reducible refine tw_test ?_
  | with_reducible refine tw_B ?_
  | with_reducible refine tw_not ?_
  | with_reducible refine tw_truB ?_
  | with_reducible refine tw_and ?_
  | with_reducible refine tw_or ?_
  | with_reducible refine ew_and ?_
  | (refine' Exists.intro _ (And.intro (show V.bl _ = V.bl _ from rfl) ?_))
  | (refine' Exists.intro _ (And.intro (show V.int _ = V.int _ from rfl) ?_))
  | ((with_reducible refine' rw_ixL (v := ?_) (xs := ?_) (by assumption) ?obl ?oba ?_); (case obl => walk_at "ob_sq"); (case oba => first | exact rfl | exact at_zero))
  | ((with_reducible refine' rw_ixT (v := ?_) (xs := ?_) (by assumption) ?obl ?oba ?_); (case obl => walk_at "ob_sq"); (case oba => first | exact rfl | exact at_zero))
  | ((with_reducible refine' ew_lst (by assumption) ?_))
  | ((with_reducible refine' ew_tup (by assumption) ?_)))
local macro_rules | `(tactic| walk_at "ob_len") => `(tactic| first | exact Nat.le_of_ble_eq_true rfl | (simp; done) | omega)
local macro_rules | `(tactic| walk_at "ob") => `(tactic| repeat walk_at "ob1")

/-! ### Run.is_still, Run.do_beat, Run.__init__ -/
def lStill (w : Wld) (t : LSt) : Bool := !(decide (0 < w.refill) && decide (t.level < w.cap)) && !(t.ms.any fun m => decide (0 ≤ m.over))
def aStill (K : PySem.W.Frag) (C M : Addr) : List V → Hp → VK → Prop := fun vs F R => ∃ (F0 : Hp) (A : RAd) (t : LSt) (w : Wld) (r : Rgt) (p anew : Bool) (ex : List (Addr × HO)), vs = [.ref A.a] ∧ A.C = C ∧ A.M = M ∧ RunAt K F0 F A t w r p anew ex ∧ w.ms.length ≤ 5 ∧
  ∀ (F' : Hp), Ex F F' → R (.bl (lStill w t)) F'
def aDoBeat (K : PySem.W.Frag) (C M : Addr) : List V → Hp → VK → Prop := fun vs F R => ∃ (F0 : Hp) (A : RAd) (t : LSt) (w : Wld) (r : Rgt) (p anew : Bool) (ex : List (Addr × HO)), vs = [.ref A.a] ∧ A.C = C ∧ A.M = M ∧ RunAt K F0 F A t w r p anew ex ∧ LOk w t ∧ w.ms.length ≤ 5 ∧ (∀ ss ∈ w.ms, ∀ st ∈ ss, (0 : Int) ≤ st.long) ∧
  ∀ (q b o : Addr) (F' : Hp) (t' : LSt) (lv : Int) (bg : List Int), LBeat w r p anew t t' lv bg → LOk w t' → RunAt K F0 F' A t' w r p anew ((q, .tup [.ref o, .ref b]) :: (b, .lst (bg.map V.int)) :: (o, .lst ((overs t w.ms.length).map V.int)) :: ex) → R (.ref q) F'
def aRInit (K : PySem.W.Frag) (C M : Addr) : List V → Hp → VK → Prop := fun vs F R => ∃ (Fb : Hp) (a dx : Addr) (wv rv : V) (w : Wld) (r : Rgt) (p anew : Bool), vs = [.ref a, wv, rv, .bl anew] ∧ F = upd Fb a (.ins C dx []) ∧ Fb a = none ∧ Dp K Fb wv (wldD w) ∧ Dp K Fb rv (rulD r p) ∧ w.ms.length ≤ 5 ∧
  ∀ (F' : Hp) (A : RAd), A.a = a → A.C = C → A.M = M → SEnt false K Fb F' A (lBegun w) w r p anew [] → R .non F'
theorem lDraws_ok {w : Wld} {p : Bool} {t : LSt} : ∀ (ts : List Clm) {x : LSt × List Int × Bool}, LOk w x.1 → SameAt t x.1 → (∀ c ∈ ts, ∀ m ss, t.ms[c.k.toNat]? = some m → w.ms[c.k.toNat]? = some ss → m.at_ < ss.length) → LOk w (ts.foldl (lDraw w p) x).1
  | [], _, h, _, _ => h
  | c :: cs, x, h, hs, hc => by
    have h1 : LOk w (lDraw w p x c).1 := lDraw_ok h fun m ss hm hss => by
      have e := hs.2 c.k.toNat
      rw [hm] at e
      cases hm2 : t.ms[c.k.toNat]? with
      | none => rw [hm2] at e; cases e
      | some m2 =>
        rw [hm2] at e
        have e2 : m.at_ = m2.at_ := Option.some.inj e
        rw [e2]
        exact hc c List.mem_cons_self m2 ss hm2 hss
    have h2 : SameAt t (lDraw w p x c).1 := by
      unfold lDraw
      split
      · rename_i m ss hm hss
        split
        · split
          · rename_i st _; exact hs.set (m' := { m with over := x.1.beat + st.long }) hm rfl rfl rfl
          · exact hs
        · exact hs.set (m' := { m with waits := m.waits + 1 }) hm rfl rfl rfl
      · exact hs
    exact lDraws_ok (w := w) (p := p) cs (x := lDraw w p x c) h1 h2 fun d hd => hc d (List.mem_cons_of_mem _ hd)
theorem beat_ok {w : Wld} {r : Rgt} {p anew : Bool} {t t' : LSt} {lv : Int} {bg : List Int} (h : LOk w t) (b : LBeat w r p anew t t' lv bg) : LOk w t' := by
  obtain ⟨ts, hts, e1, e2, _⟩ := b.ex
  have h0 := lFill_ok (lEnds_ok (anew := anew) h w.ms.length)
  have h1 : LOk w (lDraws w p ts (lFill w (lEnds w anew t w.ms.length))).1 := lDraws_ok (t := lFill w (lEnds w anew t w.ms.length)) ts h0 ⟨rfl, fun _ => rfl⟩ fun c hc m ss hm hss => by
    obtain ⟨j, hj, hcj⟩ := lClaims_mem (hts.perm.mem_iff.mp hc)
    obtain ⟨m2, ss2, st, h2, h3, _, h5, _, ec⟩ := lClaim_mem hcj
    have ek : c.k.toNat = j := by rw [ec]; exact Int.toNat_natCast j
    rw [ek] at hm hss
    rw [h2] at hm
    rw [h3] at hss
    cases hm
    cases hss
    exact h5
  subst e2
  exact h1.same rfl (by show 0 ≤ _ + 1; have := h1.b; omega)
section
variable {P : Program} {w : World} {K : PySem.W.Frag} {mg : Str → Option Value} {base : Heap} {C M : Addr}

abbrev s_Run__dot__do_beat : Stmt := inClass (top 35) 1
def N_Run_do_beat : List Str := ["self", "over", "begun"]
theorem sc_Run_do_beat : FnScope N_Run_do_beat ["self"] (defScope s_Run__dot__do_beat) := ⟨rfl, rfl, rfl, by decide +kernel, rfl, by decide +kernel, by decide +kernel⟩
theorem ok_Run_do_beat {f : Addr} {fd : FuncData} {f1 f2 f3 : Addr} {fd1 fd2 fd3 : FuncData} (Fn : Fun K "do_beat" "Run.do_beat" s_Run__dot__do_beat f fd) (B : Blt mg) (HR : ClsF K C rkeys) (HM : ClsF K M mkeys) (M_open_beat : Met K C "open_beat" f1 fd1 ["self"]) (G_open_beat : FnOk P w K mg base CX0 3 f1 fd1 ["self"] (LS (aOpenB false K C M))) (M_begin_steps : Met K C "begin_steps" f3 fd3 ["self"]) (G_begin_steps : FnOk P w K mg base CX0 4 f3 fd3 ["self"] (LS (aBeginSteps K C M))) (M_close_beat : Met K C "close_beat" f2 fd2 ["self"]) (G_close_beat : FnOk P w K mg base CX0 1 f2 fd2 ["self"] (LS (aCloseB false K C M))) : FnOk P w K mg base CX0 5 f fd ["self"] (LS (aDoBeat K C M)) := by
  refine Fn.ok sc_Run_do_beat (fun vs H Q E h => ?_) (fun cdv A outer s H vs Q E hr h => ?_)
  · obtain ⟨J, F, R, hd, j, h, _⟩ := h
    obtain ⟨F0, A, t, w, r, p, anew, ex, rfl, _⟩ := h
    rfl
  · have nd := sc_Run_do_beat.nd
    obtain ⟨J, F, R, hd, j, h, q⟩ := h
    obtain ⟨F0, A, t, w, r, p, anew, ex, rfl, rfl, rfl, hG, hok, hm5, hlong, k⟩ := h
    refine ⟨_, (pss_cons (ps_set (i := 1) nd rfl (Or.inl rfl) (pe_meth0 (pv 0) M_open_beat.cl M_open_beat.m G_open_beat (by exact hr.mono (by decide)) M_open_beat.a .nil pass0))
      (pss_cons (ps_set (i := 2) nd rfl (Or.inl rfl) (pe_meth0 (pv 0) M_begin_steps.cl M_begin_steps.m G_begin_steps (by exact hr.mono (by decide)) M_begin_steps.a .nil pass0))
      (pss_cons (ps_expr (pe_meth0 (pv 0) M_close_beat.cl M_close_beat.m G_close_beat (by exact hr.mono (by decide)) M_close_beat.a .nil pass0))
      (pss_one (ps_ret (pe_tup (pa_cons (pv 1) (pa_cons (pv 2) pa_nil)))))))), ?_⟩
    refine LS.body j q ?_
    refine sw_seq (sw_asg (ew_meth hd ?_))
    walk_at "ob"
    refine ⟨A.a, A.dx, _, rfl, hG.cell, rfs_no (by decide +kernel), aw_nil ⟨F0, A, t, w, r, p, anew, ex, rfl, rfl, rfl, hG, hok, hm5, fun q1 F1 hX => gw_name ?_⟩⟩
    have hok2 := lFill_ok (lEnds_ok (anew := anew) hok w.ms.length)
    refine sw_seq (sw_asg (ew_meth hd ?_))
    walk_at "ob"
    refine ⟨A.a, A.dx, _, rfl, hX.cell, rfs_no (by decide +kernel), aw_nil ⟨F0, A, _, w, r, p, anew, _, rfl, rfl, rfl, hX, hok2, hm5, hlong, fun b F3 ts hts hX3 => gw_name ?_⟩⟩
    refine sw_seq (sw_drop (ew_meth hd ?_))
    walk_at "ob"
    refine ⟨A.a, A.dx, _, rfl, hX3.cell, rfs_no (by decide +kernel), aw_nil ⟨F0, A, _, w, r, p, anew, _, rfl, rfl, rfl, hX3, fun F4 hX4 => ?_⟩⟩
    refine sw_ret (ew_tup hd ?_)
    walk_at "ob"
    refine ⟨by walk_at "ob_len", fun q hq => ?_⟩
    have bt : LBeat w r p anew t (lLast (lDraws w p ts (lFill w (lEnds w anew t w.ms.length))).1 (lDraws w p ts (lFill w (lEnds w anew t w.ms.length))).2.1) (lLast (lDraws w p ts (lFill w (lEnds w anew t w.ms.length))).1 (lDraws w p ts (lFill w (lEnds w anew t w.ms.length))).2.1).level (lDraws w p ts (lFill w (lEnds w anew t w.ms.length))).2.1 := ⟨ts, hts, rfl, rfl, rfl⟩
    exact k q b q1 _ _ _ _ bt (beat_ok hok bt) (hX4.more hq)

abbrev s_Run__dot____init__ : Stmt := inClass (top 35) 0
def N_Run___init__ : List Str := ["self", "world", "rule", "anew"]
theorem sc_Run___init__ : FnScope N_Run___init__ ["self", "world", "rule", "anew"] (defScope s_Run__dot____init__) := ⟨rfl, rfl, rfl, by decide +kernel, rfl, by decide +kernel, by decide +kernel⟩
theorem ok_Run___init__ {f : Addr} {fd : FuncData} {f1 : Addr} {fd1 : FuncData} (Fn : Fun K "__init__" "Run.__init__" s_Run__dot____init__ f fd) (B : Blt mg) (HR : ClsF K C rkeys) (HM : ClsF K M mkeys) {SC : Addr} (gShop : mg "Shop" = some (.ref SC)) (CF_Shop___init__ : ClsFn K SC "__init__" f1 fd1 ["self", "world", "anew"]) (G_Shop___init__ : FnOk P w K mg base CX0 4 f1 fd1 ["self", "world", "anew"] (LS (aSInit K C M))) : FnOk P w K mg base CX0 5 f fd ["self", "world", "rule", "anew"] (LS (aRInit K C M)) := by
  refine Fn.ok sc_Run___init__ (fun vs H Q E h => ?_) (fun cdv A outer s H vs Q E hr h => ?_)
  · obtain ⟨J, F, R, hd, j, h, _⟩ := h
    obtain ⟨Fb, a, dx, wv, rv, w, r, p, anew, rfl, _⟩ := h
    rfl
  · have nd := sc_Run___init__.nd
    obtain ⟨J, F, R, hd, j, h, q⟩ := h
    obtain ⟨Fb, a, dx, wv, rv, w, r, p, anew, rfl, rfl, hFa, dw, dr, hm5, k⟩ := h
    refine ⟨_, (pss_cons (ps_expr (pe_cfun (pe_glob (v := .ref SC) rfl gShop rfl) CF_Shop___init__ G_Shop___init__ (by exact hr.mono (by decide)) pass0 (pa_cons (pv 0) (pa_cons (pv 1) (pa_cons (pv 3) pa_nil)))))
      (pss_cons (ps_asg (pv 2) (pg_tup rfl (pgs_cons (pg_fld (pv 0)) (pgs_cons (pg_fld (pv 0)) pgs_nil))))
      (pss_one (ps_fld (pv 0) pe_non rfl)))), ?_⟩
    refine LS.body j q ?_
    obtain ⟨ra, us, rfl, lu, dus⟩ := dp_tup dr
    obtain ⟨u1, u2, rfl, e1, e2⟩ := dps2 dus
    cases dp_str e1
    cases dp_bl e2
    refine sw_seq (sw_drop (ew_cfun hd (ew_c ⟨rfl, ?_⟩)))
    refine aw_cons (ew_var rfl (aw_cons (ew_var rfl (aw_cons (ew_var rfl (aw_nil ?_))))))
    refine ⟨Fb, a, dx, wv, w, r, p, anew, rfl, rfl, hFa, dw, hm5, fun F' A ea eC eM hX => ?_⟩
    subst ea eC
    have hra : SqT K F' ra [.str (rgtS r), .bl p] := hX.own.ex.sqT lu
    refine sw_seq (sw_asg ?_)
    walk_at "ob"
    refine gw_tup hd ⟨ra, _, rfl, hra, rfl, ?_⟩
    have o0 := hX.own
    refine gsw_cons (gw_fld hd ?_)
    walk_at "ob"
    refine ⟨A.a, A.C, A.dx, _, rfl, o0.get (i := 0) rfl, HR.cl, HR.no _ (by decide +kernel), rfs_lt, ?_⟩
    rw [putF_out (show _ ∉ rkeys.take 6 from by decide +kernel)]
    have o1 := o0.set (i := 0) (a := A.a) (o' := .ins A.C A.dx ((rfsS true A (lBegun w) w r p anew) ++ ([("right", V.str (rgtS r))] : List (Str × V)))) rfl
    refine gsw_cons (gw_fld hd ?_)
    walk_at "ob"
    refine ⟨A.a, A.C, A.dx, _, rfl, o1.get (i := 0) rfl, HR.cl, HR.no _ (by decide +kernel), Nat.lt_of_le_of_lt (Nat.le_of_ble_eq_true (m := 9) rfl) (by decide), ?_⟩
    rw [putF_out (show _ ∉ rkeys.take 7 from by decide +kernel)]
    have o2 := o1.set (i := 0) (a := A.a) (o' := .ins A.C A.dx ((rfsS true A (lBegun w) w r p anew) ++ ([("right", V.str (rgtS r))] : List (Str × V)) ++ ([("passing", V.bl p)] : List (Str × V)))) rfl
    refine gsw_nil ?_
    refine sw_fld hd ?_
    walk_at "ob"
    refine ⟨A.a, A.C, A.dx, _, rfl, o2.get (i := 0) rfl, HR.cl, HR.no _ (by decide +kernel), Nat.lt_of_le_of_lt (Nat.le_of_ble_eq_true (m := 9) rfl) (by decide), ?_⟩
    rw [putF_out (show _ ∉ rkeys.take 8 from by decide +kernel)]
    have o3 := o2.set (i := 0) (a := A.a) (o' := .ins A.C A.dx ((rfsS true A (lBegun w) w r p anew) ++ ([("right", V.str (rgtS r))] : List (Str × V)) ++ ([("passing", V.bl p)] : List (Str × V)) ++ ([("last", V.non)] : List (Str × V)))) rfl
    exact k _ A rfl rfl eM ⟨o3, hX.st, hX.len1, hX.len2⟩
end
end Obr
namespace Obr
open PySem L2 PyProof.Rows
local macro_rules | `(tactic| walk_at "ob_at") => `(tactic| first
  | assumption
  | exact upd_same
  | (refine Eq.trans (upd_ne ?obn) ?obr; (case obn => walk_at "ob_ne"); (case obr => walk_at "ob_at")))
local macro_rules | `(tactic| walk_at "ob_ne") => `(tactic| first
  | assumption
  | (refine Ne.symm ?obs; (case obs => assumption))
  | (refine' ne_of_none (H := ?_) ?obe ?obh; (case obh => assumption); (case obe => walk_at "ob_at"))
  | (refine Ne.symm ?obs; (case obs => (refine' ne_of_none (H := ?_) ?obe ?obh; (case obh => assumption); (case obe => walk_at "ob_at")))))
local macro_rules | `(tactic| walk_at "ob_fr") => `(tactic| first
  | assumption
  | (refine Eq.trans (upd_ne ?obn) ?obr; (case obn => walk_at "ob_ne"); (case obr => walk_at "ob_fr"))
  | (refine Ex.free (G := ?_) (by assumption) ?obh; (case obh => walk_at "ob_fr")))
local macro_rules | `(tactic| walk_at "ob_ex") => `(tactic| first
  | assumption
  | exact Ex.refl _
  | (refine Ex.out ?obg ?obh; (case obh => assumption); (case obg => walk_at "ob_ex"))
  | (refine Ex.new ?obg ?obh; (case obh => assumption); (case obg => walk_at "ob_ex"))
  | (refine Ex.new ?obg ?obh; (case obh => walk_at "ob_fr"); (case obg => walk_at "ob_ex")))
local macro_rules | `(tactic| walk_at "ob_sq") => `(tactic| first
  | assumption
  | (refine SqL.of ?oba; (case oba => walk_at "ob_at"))
  | (refine Ex.sqT (F := ?_) ?obg ?obh; (case obh => assumption); (case obg => walk_at "ob_ex"))
  | (refine Ex.sqL (F := ?_) ?obg ?obh; (case obh => assumption); (case obg => walk_at "ob_ex"))
  | (refine SqT.of ?oba; (case oba => walk_at "ob_at")))
local macro_rules | `(tactic| walk_at "ob_side") => `(tactic| first | exact rfl | assumption | decide | omega | exact ⟨by decide, by decide, by decide⟩ | exact Or.inr ⟨by decide, by decide⟩ | exact Or.inl ⟨by decide, by decide⟩ | exact wide_div (b := 60) (by first | decide | omega) (by first | decide | omega) (by decide) (by decide))
local macro_rules | `(tactic| walk_at "ob1") => `(tactic| first
  | with_reducible refine sw_seq ?_
  | with_reducible refine sw_asg ?_
  | with_reducible refine sw_ret ?_
  | with_reducible refine sw_par ?_
  | with_reducible refine ⟨_, _, rfl, ?_⟩
  | with_reducible refine sw_drop ?_
  | with_reducible refine sw_if ?_
  | with_reducible refine sw_next ?_
  | with_reducible refine gw_name ?_
  | with_reducible refine gw_subL (by assumption) ?_
  | with_reducible refine gsw_cons ?_
  | with_reducible refine gsw_nil ?_
  | with_reducible refine ew_c ?_
  | ((with_reducible refine' ew_var (v := ?_) ?obv ?_); (case obv => exact rfl))
  | ((with_reducible refine ew_next (by assumption) ?obv ?_); (case obv => exact rfl))
  | ((with_reducible refine ew_world (by assumption) ?obv ?_); (case obv => exact rfl))
  | ((with_reducible refine ew_rule (by assumption) ?obv ?_); (case obv => exact rfl))
  | with_reducible refine ew_op ?_
  | with_reducible refine ew_un ?_
  | with_reducible refine ew_dget (by assumption) ?_
  | with_reducible refine uw_I ?_
  | with_reducible refine ppw_nil ?_
  | with_reducible refine ppw_cons ?_
  | with_reducible refine sw_dput (by assumption) ?_
  | with_reducible refine ew_cb ?_
  | with_reducible refine ew_if ?_
  | with_reducible refine ew_slL (by assumption) ?_
  | with_reducible refine ow_some ?_
  | with_reducible refine ow_none ?_
  | with_reducible refine aw_nil ?_
  | with_reducible refine aw_cons ?_
  | with_reducible refine rw_I0 ?_
  | ((with_reducible refine rw_I ?obc ?_); (case obc => walk_at "ob_side"))
  | with_reducible refine rw_isN ?_
  | with_reducible refine rw_notN ?_
  | ((with_reducible refine rw_eq ?obc ?_); (case obc => exact rfl))
  | ((with_reducible refine rw_ne ?obc ?_); (case obc => exact rfl))
  | with_reducible refine cw_max2 ?_
  | with_reducible refine cw_min2 ?_
  | with_reducible refine tw_test ?_
  | with_reducible refine tw_B ?_
  | with_reducible refine tw_not ?_
  | with_reducible refine tw_truB ?_
  | with_reducible refine tw_and ?_
  | with_reducible refine tw_or ?_
  | with_reducible refine ew_and ?_
  | (refine' Exists.intro _ (And.intro (show V.bl _ = V.bl _ from rfl) ?_))
  | (refine' Exists.intro _ (And.intro (show V.int _ = V.int _ from rfl) ?_))
  | ((with_reducible refine' rw_ixL (v := ?_) (xs := ?_) (by assumption) ?obl ?oba ?_); (case obl => walk_at "ob_sq"); (case oba => first | exact rfl | exact at_zero))
  | ((with_reducible refine' rw_ixT (v := ?_) (xs := ?_) (by assumption) ?obl ?oba ?_); (case obl => walk_at "ob_sq"); (case oba => first | exact rfl | exact at_zero))
  | ((with_reducible refine' ew_lst (by assumption) ?_))
  | ((with_reducible refine' ew_tup (by assumption) ?_)))
local macro_rules | `(tactic| walk_at "ob_len") => `(tactic| first | exact Nat.le_of_ble_eq_true rfl | (simp; done) | omega)
local macro_rules | `(tactic| walk_at "ob") => `(tactic| repeat walk_at "ob1")

/-! ### the checks -/
section
variable {S : Type} {J : S → Hp → Hp → Prop} {σ : L2.St} {s : S} {F : Hp} {ta tb tc : TE} {R : V → S → Hp → Prop}
theorem ew_between (h : EW J ta σ s F fun x s1 F1 => ∃ i, x = .int i ∧ EW J tb σ s1 F1 fun y s2 F2 => ∃ k, y = .int k ∧ i ≤ k ∧ EW J tc σ s2 F2 fun z s3 F3 => ∃ l, z = .int l ∧ k ≤ l ∧ R (.bl true) s3 F3) :
    EW J (tChain (rI0 fun i j => .bl (decide (i ≤ j))) (rI0 fun i j => .bl (decide (i ≤ j))) ta tb tc) σ s F R :=
  ew_chain (h.imp fun x s1 F1 ⟨i, ex, h1⟩ => by
    subst ex
    exact h1.imp fun y s2 F2 ⟨k, ey, hik, h2⟩ => by
      subst ey
      refine rw_I0 ⟨_, rfl, fun _ => h2.imp fun z s3 F3 ⟨l, ez, hkl, r⟩ => ?_, fun hb => ?_⟩
      · subst ez
        refine rw_I0 ?_
        rw [decide_eq_true hkl]
        exact r
      · rw [decide_eq_true hik] at hb
        cases hb)
end
def aIsStep (K : PySem.W.Frag) : List V → Hp → VK → Prop := fun vs F R => ∃ (v : V) (cap : Int) (st : Stp), vs = [v, .int cap] ∧ Dp K F v (stpD st) ∧ StpOk cap st ∧ R (.bl true) F
def aChkSt (K : PySem.W.Frag) : List V → Hp → VK → Prop := fun vs F R => ∃ (v : V) (w : Wld), vs = [v] ∧ Dp K F v (stoD w) ∧ WldOk w ∧ R .non F
def aChkSs (K : PySem.W.Frag) : List V → Hp → VK → Prop := fun vs F R => ∃ (v : V) (n cap : Int) (ss : List Stp), vs = [.int n, v, .int cap] ∧ Dp K F v (macD ss) ∧ ss.length ≤ 6 ∧ (∀ st ∈ ss, StpOk cap st) ∧ ∀ F', Ex F F' → R .non F'
def aChkW (K : PySem.W.Frag) : List V → Hp → VK → Prop := fun vs F R => ∃ (v : V) (w : Wld), vs = [v] ∧ Dp K F v (wldD w) ∧ WldOk w ∧ ∀ F', Ex F F' → R .non F'
def aChkR (K : PySem.W.Frag) : List V → Hp → VK → Prop := fun vs F R => ∃ (v : V) (r : Rgt) (p : Bool), vs = [v] ∧ Dp K F v (rulD r p) ∧ R .non F
def aCount : List V → Hp → VK → Prop := fun vs F R => ∃ a b c : Int, vs = [.int a, .int b, .int c] ∧ b ≤ a ∧ a ≤ c ∧ R .non F
theorem six_all {n k : Nat} (h : n ≤ k) : HT.sIx n 0 none = 0 ∧ HT.sIx n n (some (k : Int)) = n := ⟨HT.sIx_none _ _, by rw [HT.sIx_nat]; exact Nat.min_eq_right h⟩
section
variable {P : Program} {w : World} {K : PySem.W.Frag} {mg : Str → Option Value} {base : Heap} {C M : Addr}

abbrev s_is_step : Stmt := top 26
def N_is_step : List Str := ["step", "cap", "draw", "long", "back"]
theorem sc_is_step : FnScope N_is_step ["step", "cap"] (defScope s_is_step) := ⟨rfl, rfl, rfl, by decide +kernel, rfl, by decide +kernel, by decide +kernel⟩
theorem ok_is_step {f : Addr} {fd : FuncData}  (Fn : Fun K "is_step" "is_step" s_is_step f fd) (B : Blt mg) {tMOST_LONG : Tok} (gMOST_LONG : mg "MOST_LONG" = some (.int 9 tMOST_LONG)) : FnOk P w K mg base CX0 1 f fd ["step", "cap"] (LS (aIsStep K)) := by
  refine Fn.ok sc_is_step (fun vs H Q E h => ?_) (fun cdv A outer s H vs Q E hr h => ?_)
  · obtain ⟨J, F, R, hd, j, h, _⟩ := h
    obtain ⟨v, cap, st, rfl, _⟩ := h
    rfl
  · have nd := sc_is_step.nd
    obtain ⟨J, F, R, hd, j, h, q⟩ := h
    obtain ⟨v, cap, st, rfl, dv, hs, k⟩ := h
    refine ⟨_, (pss_cons (ps_if (pt_cmpR op_ne (pe_callB call_len_seq (by rfl) B.len (by decide +kernel) (pa_cons (pv 0) pa_nil)) pe_int (nomark _)) (pss_one (ps_ret pe_bl)) pss_nil)
      (pss_cons (ps_asg (pv 0) (pg_tup rfl (pgs_cons (pg_name (i := 2) nd rfl (Or.inl rfl)) (pgs_cons (pg_name (i := 3) nd rfl (Or.inl rfl)) (pgs_cons (pg_name (i := 4) nd rfl (Or.inl rfl)) pgs_nil)))))
      (pss_one (ps_ret (pe_and (pe_chain op_le op_le pe_int (pv 2) (pv 1)) (pe_and (pe_chain op_le op_le pe_int (pv 3) (pe_glob (v := .int 9) rfl gMOST_LONG ⟨_, rfl⟩)) (pe_one (pe_chain op_le op_le pe_int (pv 4) (pv 2))))))))), ?_⟩
    refine LS.body j q ?_
    obtain ⟨sa, ys, rfl, ly, dys⟩ := dp_tup dv
    obtain ⟨v1, v2, v3, rfl, d1, d2, d3⟩ := dps3 dys
    cases dp_int d1
    cases dp_int d2
    cases dp_int d3
    refine sw_seq (sw_if (tw_test (ew_op (ew_cb ?_))))
    walk_at "ob"
    refine cw_lenS hd (Or.inr ly) ?_
    walk_at "ob"
    refine ⟨(fun hb => by simp at hb), fun _ => ?_⟩
    walk_at "ob"
    refine gw_tup hd ⟨sa, _, rfl, ly, rfl, gsw_cons (gw_name (gsw_cons (gw_name (gsw_cons (gw_name (gsw_nil ?_))))))⟩
    refine sw_ret (ew_and (ew_between ?_))
    walk_at "ob"
    refine ⟨hs.d0, ?_⟩
    walk_at "ob"
    refine ⟨hs.d1, _, rfl, fun _ => ?_, (fun z => by cases z)⟩
    refine ew_and (ew_between ?_)
    walk_at "ob"
    refine ⟨hs.l0, ?_⟩
    walk_at "ob"
    refine ⟨hs.l1, _, rfl, fun _ => ?_, (fun z => by cases z)⟩
    refine ew_between ?_
    walk_at "ob"
    refine ⟨hs.b0, ?_⟩
    walk_at "ob"
    exact ⟨hs.b1, k⟩

abbrev s_check_store : Stmt := top 24
def N_check_store : List Str := ["store", "cap", "start", "refill"]
theorem sc_check_store : FnScope N_check_store ["store"] (defScope s_check_store) := ⟨rfl, rfl, rfl, by decide +kernel, rfl, by decide +kernel, by decide +kernel⟩
theorem ok_check_store {f : Addr} {fd : FuncData}  (Fn : Fun K "check_store" "check_store" s_check_store f fd) (B : Blt mg) {tMOST_CAP : Tok} (gMOST_CAP : mg "MOST_CAP" = some (.int 99 tMOST_CAP)) {tMOST_REFILL : Tok} (gMOST_REFILL : mg "MOST_REFILL" = some (.int 9 tMOST_REFILL)) : FnOk P w K mg base CX0 1 f fd ["store"] (LS (aChkSt K)) := by
  refine Fn.ok sc_check_store (fun vs H Q E h => ?_) (fun cdv A outer s H vs Q E hr h => ?_)
  · obtain ⟨J, F, R, hd, j, h, _⟩ := h
    obtain ⟨v, w, rfl, _⟩ := h
    rfl
  · have nd := sc_check_store.nd
    obtain ⟨J, F, R, hd, j, h, q⟩ := h
    obtain ⟨v, w, rfl, dv, hw, k⟩ := h
    refine ⟨_, (pss_cons (ps_if (pt_cmpR op_ne (pe_callB call_len_seq (by rfl) B.len (by decide +kernel) (pa_cons (pv 0) pa_nil)) pe_int (nomark _)) (pss_one ps_never) pss_nil)
      (pss_cons (ps_asg (pv 0) (pg_tup rfl (pgs_cons (pg_name (i := 1) nd rfl (Or.inl rfl)) (pgs_cons (pg_name (i := 2) nd rfl (Or.inl rfl)) (pgs_cons (pg_name (i := 3) nd rfl (Or.inl rfl)) pgs_nil)))))
      (pss_cons (ps_if (pt_not (pt_chain op_le op_le pe_int (pv 1) (pe_glob (v := .int 99) rfl gMOST_CAP ⟨_, rfl⟩))) (pss_one ps_never) pss_nil)
      (pss_cons (ps_if (pt_not (pt_chain op_le op_le pe_int (pv 2) (pv 1))) (pss_one ps_never) pss_nil)
      (pss_one (ps_if (pt_not (pt_chain op_le op_le pe_int (pv 3) (pe_glob (v := .int 9) rfl gMOST_REFILL ⟨_, rfl⟩))) (pss_one ps_never) pss_nil)))))), ?_⟩
    refine LS.body j q ?_
    obtain ⟨sa, ys, rfl, ly, dys⟩ := dp_tup dv
    obtain ⟨v1, v2, v3, rfl, d1, d2, d3⟩ := dps3 dys
    cases dp_int d1
    cases dp_int d2
    cases dp_int d3
    refine sw_seq (sw_if (tw_test (ew_op (ew_cb ?_))))
    walk_at "ob"
    refine cw_lenS hd (Or.inr ly) ?_
    walk_at "ob"
    refine ⟨(fun hb => by simp at hb), fun _ => ?_⟩
    walk_at "ob"
    refine gw_tup hd ⟨sa, _, rfl, ly, rfl, gsw_cons (gw_name (gsw_cons (gw_name (gsw_cons (gw_name (gsw_nil ?_))))))⟩
    refine sw_seq (sw_if (tw_not (tw_test (ew_between ?_))))
    walk_at "ob"
    refine ⟨hw.c0, ?_⟩
    walk_at "ob"
    refine ⟨hw.c1, _, rfl, (fun z => by cases z), fun _ => ?_⟩
    walk_at "ob"
    refine ew_between ?_
    walk_at "ob"
    refine ⟨hw.s0, ?_⟩
    walk_at "ob"
    refine ⟨hw.s1, _, rfl, (fun z => by cases z), fun _ => ?_⟩
    walk_at "ob"
    refine ew_between ?_
    walk_at "ob"
    refine ⟨hw.r0, ?_⟩
    walk_at "ob"
    refine ⟨hw.r1, _, rfl, (fun z => by cases z), fun _ => ?_⟩
    walk_at "ob"
    exact k

abbrev s_check_steps : Stmt := top 25
def N_check_steps : List Str := ["number", "steps", "cap", "at", "step"]
theorem sc_check_steps : FnScope N_check_steps ["number", "steps", "cap"] (defScope s_check_steps) := ⟨rfl, rfl, rfl, by decide +kernel, rfl, by decide +kernel, by decide +kernel⟩
theorem ok_check_steps {f : Addr} {fd : FuncData} {f1 : Addr} {fd1 : FuncData} (Fn : Fun K "check_steps" "check_steps" s_check_steps f fd) (B : Blt mg) {tMOST_STEPS : Tok} (gMOST_STEPS : mg "MOST_STEPS" = some (.int 6 tMOST_STEPS)) (Cis_step : Cal K mg "is_step" f1 fd1 ["step", "cap"]) (Gis_step : FnOk P w K mg base CX0 1 f1 fd1 ["step", "cap"] (LS (aIsStep K))) : FnOk P w K mg base CX0 2 f fd ["number", "steps", "cap"] (LS (aChkSs K)) := by
  refine Fn.ok sc_check_steps (fun vs H Q E h => ?_) (fun cdv A outer s H vs Q E hr h => ?_)
  · obtain ⟨J, F, R, hd, j, h, _⟩ := h
    obtain ⟨v, n, cap, ss, rfl, _⟩ := h
    rfl
  · have nd := sc_check_steps.nd
    obtain ⟨J, F, R, hd, j, h, q⟩ := h
    obtain ⟨v, n, cap, ss, rfl, dv, hl6, hs, k⟩ := h
    refine ⟨_, (pss_cons (ps_for PassesOwn.never rfl (pi_enumT (by rfl) B.enumerate (pa_cons (pe_slice sl_tupA (pv 1) po_none (po_some (pe_glob (v := .int 6) rfl gMOST_STEPS ⟨_, rfl⟩))) pa_nil)) (pg_tup rfl (pgs_cons (pg_name (i := 3) nd rfl (Or.inl rfl)) (pgs_cons (pg_name (i := 4) nd rfl (Or.inl rfl)) pgs_nil))) (pss_one (ps_if (pt_not (pt_val (pe_call Gis_step (by exact hr.mono (by decide)) (by rfl) Cis_step.g Cis_step.k Cis_step.a .nil pass0 (pa_cons (pv 4) (pa_cons (pv 2) pa_nil))))) (pss_one ps_never) pss_nil)))
      (pss_one (ps_if (pt_cmpR op_gt (pe_callB call_len_seq (by rfl) B.len (by decide +kernel) (pa_cons (pv 1) pa_nil)) (pe_glob (v := .int 6) rfl gMOST_STEPS ⟨_, rfl⟩) (nomark _)) (pss_one ps_never) pss_nil))), ?_⟩
    refine LS.body j q ?_
    obtain ⟨sa, ys, rfl, ly, dys⟩ := dp_tup dv
    have hyl : ys.length = ss.length := by have := dps_len dys; simpa using this
    refine sw_seq ?_
    refine sw_mid (fun σ _ G => ∃ (x3 x4 : Option V), σ = [some (.int n), some (.ref sa), some (.int cap), x3, x4] ∧ Ex F G) ?_ ?_
    · refine sw_forET hd ?_
      refine aw_cons (ew_slT hd ?_)
      walk_at "ob"
      refine ⟨sa, ys, rfl, ly, fun _ => ?_, fun hn => absurd (six_all (k := 6) (by omega)) hn⟩

      refine aw_nil ⟨sa, ys, fun i σ _ G => ∃ (x3 x4 : Option V), σ = [some (.int n), some (.ref sa), some (.int cap), x3, x4] ∧ Ex F G, rfl, ly, ⟨none, none, rfl, .refl _⟩, ?_, ?_, ?_⟩
      · rintro i σ _ G hi ⟨x3, x4, rfl, g⟩
        exact g.sqT ly
      · rintro i x σ _ G T hi ⟨x3, x4, rfl, g⟩ hT
        refine gw_tup hd ⟨T, _, rfl, SqT.of upd_same, rfl, gsw_cons (gw_name (gsw_cons (gw_name (gsw_nil ?_))))⟩
        obtain ⟨d, hd1, hd2⟩ := dps_get' dys hi
        rw [List.getElem?_map] at hd1
        obtain ⟨st, hst, rfl⟩ := Option.map_eq_some_iff.mp hd1
        refine sw_if (tw_not (tw_B (ew_call hd ?_)))
        walk_at "ob"
        refine ⟨x, cap, st, rfl, dp_ex (Ex.new g hT) hd2, hs st (List.mem_of_getElem? hst), _, rfl, (fun z => by cases z), fun _ => ?_⟩
        exact sw_next ⟨_, _, rfl, Ex.new g hT⟩
      · rintro σ _ G ⟨x3, x4, rfl, g⟩
        exact ⟨_, _, rfl, g⟩
    · rintro σ _ G ⟨x3, x4, rfl, g⟩
      refine sw_if (tw_test (ew_op (ew_cb ?_)))
      walk_at "ob"
      refine cw_lenS hd (Or.inr (g.sqT ly)) ?_
      walk_at "ob"
      refine ⟨(fun hb => absurd (of_decide_eq_true hb) (by omega)), fun _ => ?_⟩
      walk_at "ob"
      exact k _ g

abbrev s_check_world : Stmt := top 23
def N_check_world : List Str := ["world", "store", "machines", "cap", "number", "steps"]
theorem sc_check_world : FnScope N_check_world ["world"] (defScope s_check_world) := ⟨rfl, rfl, rfl, by decide +kernel, rfl, by decide +kernel, by decide +kernel⟩
theorem ok_check_world {f : Addr} {fd : FuncData} {f1 f2 : Addr} {fd1 fd2 : FuncData} (Fn : Fun K "check_world" "check_world" s_check_world f fd) (B : Blt mg) {tMOST_MACHINES : Tok} (gMOST_MACHINES : mg "MOST_MACHINES" = some (.int 5 tMOST_MACHINES)) (Ccheck_store : Cal K mg "check_store" f1 fd1 ["store"]) (Gcheck_store : FnOk P w K mg base CX0 1 f1 fd1 ["store"] (LS (aChkSt K))) (Ccheck_steps : Cal K mg "check_steps" f2 fd2 ["number", "steps", "cap"]) (Gcheck_steps : FnOk P w K mg base CX0 2 f2 fd2 ["number", "steps", "cap"] (LS (aChkSs K))) : FnOk P w K mg base CX0 3 f fd ["world"] (LS (aChkW K)) := by
  refine Fn.ok sc_check_world (fun vs H Q E h => ?_) (fun cdv A outer s H vs Q E hr h => ?_)
  · obtain ⟨J, F, R, hd, j, h, _⟩ := h
    obtain ⟨v, w, rfl, _⟩ := h
    rfl
  · have nd := sc_check_world.nd
    obtain ⟨J, F, R, hd, j, h, q⟩ := h
    obtain ⟨v, w, rfl, dv, hw, k⟩ := h
    refine ⟨_, (pss_cons (ps_asg (pv 0) (pg_tup rfl (pgs_cons (pg_name (i := 1) nd rfl (Or.inl rfl)) (pgs_cons (pg_name (i := 2) nd rfl (Or.inl rfl)) pgs_nil))))
      (pss_cons (ps_expr (pe_call Gcheck_store (by exact hr.mono (by decide)) (by rfl) Ccheck_store.g Ccheck_store.k Ccheck_store.a .nil pass0 (pa_cons (pv 1) pa_nil)))
      (pss_cons (ps_set (i := 3) nd rfl (Or.inl rfl) (pe_ix ix_tup (pv 1) pe_int (fun _ _ => rfl)))
      (pss_cons (ps_for PassesOwn.never rfl (pi_enumT (by rfl) B.enumerate (pa_cons (pe_slice sl_tupA (pv 2) po_none (po_some (pe_glob (v := .int 5) rfl gMOST_MACHINES ⟨_, rfl⟩))) pa_nil)) (pg_tup rfl (pgs_cons (pg_name (i := 4) nd rfl (Or.inl rfl)) (pgs_cons (pg_name (i := 5) nd rfl (Or.inl rfl)) pgs_nil))) (pss_one (ps_expr (pe_call Gcheck_steps (by exact hr.mono (by decide)) (by rfl) Ccheck_steps.g Ccheck_steps.k Ccheck_steps.a .nil pass0 (pa_cons (pv 4) (pa_cons (pv 5) (pa_cons (pv 3) pa_nil)))))))
      (pss_one (ps_if (pt_cmpR op_gt (pe_callB call_len_seq (by rfl) B.len (by decide +kernel) (pa_cons (pv 2) pa_nil)) (pe_glob (v := .int 5) rfl gMOST_MACHINES ⟨_, rfl⟩) (nomark _)) (pss_one ps_never) pss_nil)))))), ?_⟩
    refine LS.body j q ?_
    obtain ⟨wa, xs, rfl, lx, dxs⟩ := dp_tup dv
    obtain ⟨sv, mv, rfl, ds, dm⟩ := dps2 dxs
    obtain ⟨ma, zs, rfl, lz, dzs⟩ := dp_tup dm
    have hzl : zs.length = w.ms.length := by have := dps_len dzs; simpa using this
    have hm5 := hw.m
    obtain ⟨sa, ys, rfl, ly, dys⟩ := dp_tup (show Dp K F sv (.tuple [.int w.cap, .int w.start, .int w.refill]) from ds)
    obtain ⟨v1, v2, v3, rfl, d1, d2, d3⟩ := dps3 dys
    cases dp_int d1
    refine sw_seq (sw_asg ?_)
    walk_at "ob"
    refine gw_tup hd ⟨wa, _, rfl, lx, rfl, gsw_cons (gw_name (gsw_cons (gw_name (gsw_nil ?_))))⟩
    refine sw_seq (sw_drop (ew_call hd ?_))
    walk_at "ob"
    refine ⟨.ref sa, w, rfl, ds, hw, ?_⟩
    refine sw_seq (sw_asg (ew_op ?_))
    walk_at "ob"
    refine sw_mid (fun σ _ G => ∃ (x4 x5 : Option V), σ = [some (.ref wa), some (.ref sa), some (.ref ma), some (.int w.cap), x4, x5] ∧ Ex F G) ?_ ?_
    · refine sw_forET hd ?_
      refine aw_cons (ew_slT hd ?_)
      walk_at "ob"
      refine ⟨ma, zs, rfl, lz, fun _ => ?_, fun hn => absurd (six_all (k := 5) (by omega)) hn⟩

      refine aw_nil ⟨ma, zs, fun i σ _ G => ∃ (x4 x5 : Option V), σ = [some (.ref wa), some (.ref sa), some (.ref ma), some (.int w.cap), x4, x5] ∧ Ex F G, rfl, lz, ⟨none, none, rfl, .refl _⟩, ?_, ?_, ?_⟩
      · rintro i σ _ G hi ⟨x4, x5, rfl, g⟩
        exact g.sqT lz
      · rintro i x σ _ G T hi ⟨x4, x5, rfl, g⟩ hT
        refine gw_tup hd ⟨T, _, rfl, SqT.of upd_same, rfl, gsw_cons (gw_name (gsw_cons (gw_name (gsw_nil ?_))))⟩
        obtain ⟨d, hd1, hd2⟩ := dps_get' dzs hi
        rw [List.getElem?_map] at hd1
        obtain ⟨ss, hss, rfl⟩ := Option.map_eq_some_iff.mp hd1
        refine sw_drop (ew_call hd ?_)
        walk_at "ob"
        refine ⟨x, i, w.cap, ss, rfl, dp_ex (Ex.new g hT) hd2, hw.n ss (List.mem_of_getElem? hss), hw.st ss (List.mem_of_getElem? hss), fun F' g2 => ?_⟩
        exact ⟨_, _, rfl, (Ex.new g hT).trans g2⟩
      · rintro σ _ G ⟨x4, x5, rfl, g⟩
        exact ⟨_, _, rfl, g⟩
    · rintro σ _ G ⟨x4, x5, rfl, g⟩
      refine sw_if (tw_test (ew_op (ew_cb ?_)))
      walk_at "ob"
      refine cw_lenS hd (Or.inr (g.sqT lz)) ?_
      walk_at "ob"
      refine ⟨(fun hb => absurd (of_decide_eq_true hb) (by omega)), fun _ => ?_⟩
      walk_at "ob"
      exact k _ g

abbrev s_check_rule : Stmt := top 27
def N_check_rule : List Str := ["rule"]
theorem sc_check_rule : FnScope N_check_rule ["rule"] (defScope s_check_rule) := ⟨rfl, rfl, rfl, by decide +kernel, rfl, by decide +kernel, by decide +kernel⟩
theorem ok_check_rule {f : Addr} {fd : FuncData}  (Fn : Fun K "check_rule" "check_rule" s_check_rule f fd) (B : Blt mg) {aRI : Addr} (gRIGHTS : mg "RIGHTS" = some (.ref aRI)) (tRIGHTS : ∀ H, SqT K H aRI [.str "rank", .str "turns", .str "wait", .str "least"]) : FnOk P w K mg base CX0 1 f fd ["rule"] (LS (aChkR K)) := by
  refine Fn.ok sc_check_rule (fun vs H Q E h => ?_) (fun cdv A outer s H vs Q E hr h => ?_)
  · obtain ⟨J, F, R, hd, j, h, _⟩ := h
    obtain ⟨v, r, p, rfl, _⟩ := h
    rfl
  · have nd := sc_check_rule.nd
    obtain ⟨J, F, R, hd, j, h, q⟩ := h
    obtain ⟨v, r, p, rfl, dv, k⟩ := h
    refine ⟨_, (pss_cons (ps_if (pt_cmpR op_ne (pe_callB call_len_seq (by rfl) B.len (by decide +kernel) (pa_cons (pv 0) pa_nil)) pe_int (nomark _)) (pss_one ps_never) pss_nil)
      (pss_one (ps_if (pt_cmpR op_notIn_seq (pe_ix ix_tup (pv 0) pe_int (fun _ _ => rfl)) (pe_glob (v := .ref aRI) rfl gRIGHTS rfl) (by rfl)) (pss_one ps_never) pss_nil))), ?_⟩
    refine LS.body j q ?_
    obtain ⟨sa, ys, rfl, ly, dys⟩ := dp_tup dv
    obtain ⟨v1, v2, rfl, d1, d2⟩ := dps2 dys
    cases dp_str d1
    cases dp_bl d2
    refine sw_seq (sw_if (tw_test (ew_op (ew_cb ?_))))
    walk_at "ob"
    refine cw_lenS hd (Or.inr ly) ?_
    walk_at "ob"
    refine ⟨(fun hb => by simp at hb), fun _ => ?_⟩
    walk_at "ob"
    refine rw_in hd (Or.inr (tRIGHTS _)) rfl rfl ?_
    refine ⟨_, rfl, fun hb => absurd hb (by cases r <;> decide +kernel), fun _ => ?_⟩
    walk_at "ob"
    exact k

abbrev s_check_count : Stmt := top 28
def N_check_count : List Str := ["many", "least", "most"]
theorem sc_check_count : FnScope N_check_count ["many", "least", "most"] (defScope s_check_count) := ⟨rfl, rfl, rfl, by decide +kernel, rfl, by decide +kernel, by decide +kernel⟩
theorem ok_check_count {f : Addr} {fd : FuncData}  (Fn : Fun K "check_count" "check_count" s_check_count f fd) (B : Blt mg)  : FnOk P w K mg base CX0 1 f fd ["many", "least", "most"] (LS (aCount)) := by
  refine Fn.ok sc_check_count (fun vs H Q E h => ?_) (fun cdv A outer s H vs Q E hr h => ?_)
  · obtain ⟨J, F, R, hd, j, h, _⟩ := h
    obtain ⟨a, b, c, rfl, _⟩ := h
    rfl
  · have nd := sc_check_count.nd
    obtain ⟨J, F, R, hd, j, h, q⟩ := h
    obtain ⟨a, b, c, rfl, h1, h2, k⟩ := h
    refine ⟨_, (pss_one (ps_if (pt_not (pt_chain op_le op_le (pv 1) (pv 0) (pv 2))) (pss_one ps_never) pss_nil)), ?_⟩
    refine LS.body j q ?_
    refine sw_if (tw_not (tw_test (ew_between ?_)))
    walk_at "ob"
    refine ⟨h1, ?_⟩
    walk_at "ob"
    refine ⟨h2, _, rfl, (fun z => by cases z), fun _ => ?_⟩
    walk_at "ob"
    exact k
end
end Obr
namespace Obr
open PySem L2 PyProof.Rows
local macro_rules | `(tactic| walk_at "ob_at") => `(tactic| first
  | assumption
  | exact upd_same
  | (refine Eq.trans (upd_ne ?obn) ?obr; (case obn => walk_at "ob_ne"); (case obr => walk_at "ob_at")))
local macro_rules | `(tactic| walk_at "ob_ne") => `(tactic| first
  | assumption
  | (refine Ne.symm ?obs; (case obs => assumption))
  | (refine' ne_of_none (H := ?_) ?obe ?obh; (case obh => assumption); (case obe => walk_at "ob_at"))
  | (refine Ne.symm ?obs; (case obs => (refine' ne_of_none (H := ?_) ?obe ?obh; (case obh => assumption); (case obe => walk_at "ob_at")))))
local macro_rules | `(tactic| walk_at "ob_fr") => `(tactic| first
  | assumption
  | (refine Eq.trans (upd_ne ?obn) ?obr; (case obn => walk_at "ob_ne"); (case obr => walk_at "ob_fr"))
  | (refine Ex.free (G := ?_) (by assumption) ?obh; (case obh => walk_at "ob_fr")))
local macro_rules | `(tactic| walk_at "ob_ex") => `(tactic| first
  | assumption
  | exact Ex.refl _
  | (refine Ex.out ?obg ?obh; (case obh => assumption); (case obg => walk_at "ob_ex"))
  | (refine Ex.new ?obg ?obh; (case obh => assumption); (case obg => walk_at "ob_ex"))
  | (refine Ex.new ?obg ?obh; (case obh => walk_at "ob_fr"); (case obg => walk_at "ob_ex")))
local macro_rules | `(tactic| walk_at "ob_sq") => `(tactic| first
  | assumption
  | (refine SqL.of ?oba; (case oba => walk_at "ob_at"))
  | (refine Ex.sqT (F := ?_) ?obg ?obh; (case obh => assumption); (case obg => walk_at "ob_ex"))
  | (refine Ex.sqL (F := ?_) ?obg ?obh; (case obh => assumption); (case obg => walk_at "ob_ex"))
  | (refine SqT.of ?oba; (case oba => walk_at "ob_at")))
local macro_rules | `(tactic| walk_at "ob_side") => `(tactic| first | exact rfl | assumption | decide | omega | exact ⟨by decide, by decide, by decide⟩ | exact Or.inr ⟨by decide, by decide⟩ | exact Or.inl ⟨by decide, by decide⟩ | exact wide_div (b := 60) (by first | decide | omega) (by first | decide | omega) (by decide) (by decide))
local macro_rules | `(tactic| walk_at "ob1") => `(tactic| first
  | with_reducible refine sw_seq ?_
  | with_reducible refine sw_asg ?_
  | with_reducible refine sw_ret ?_
  | with_reducible refine sw_par ?_
  | with_reducible refine ⟨_, _, rfl, ?_⟩
  | with_reducible refine sw_drop ?_
  | with_reducible refine sw_if ?_
  | with_reducible refine sw_next ?_
  | with_reducible refine gw_name ?_
  | with_reducible refine gw_subL (by assumption) ?_
  | with_reducible refine gsw_cons ?_
  | with_reducible refine gsw_nil ?_
  | with_reducible refine ew_c ?_
  | ((with_reducible refine' ew_var (v := ?_) ?obv ?_); (case obv => exact rfl))
  | ((with_reducible refine ew_next (by assumption) ?obv ?_); (case obv => exact rfl))
  | ((with_reducible refine ew_world (by assumption) ?obv ?_); (case obv => exact rfl))
  | ((with_reducible refine ew_rule (by assumption) ?obv ?_); (case obv => exact rfl))
  | with_reducible refine ew_op ?_
  | with_reducible refine ew_un ?_
  | with_reducible refine ew_dget (by assumption) ?_
  | with_reducible refine uw_I ?_
  | with_reducible refine ppw_nil ?_
  | with_reducible refine ppw_cons ?_
  | with_reducible refine sw_dput (by assumption) ?_
  | with_reducible refine ew_cb ?_
  | with_reducible refine ew_if ?_
  | with_reducible refine ew_slL (by assumption) ?_
  | with_reducible refine ow_some ?_
  | with_reducible refine ow_none ?_
  | with_reducible refine aw_nil ?_
  | with_reducible refine aw_cons ?_
  | with_reducible refine rw_I0 ?_
  | ((with_reducible refine rw_I ?obc ?_); (case obc => walk_at "ob_side"))
  | with_reducible refine rw_isN ?_
  | with_reducible refine rw_notN ?_
  | ((with_reducible refine rw_eq ?obc ?_); (case obc => exact rfl))
  | ((with_reducible refine rw_ne ?obc ?_); (case obc => exact rfl))
  | with_reducible refine cw_max2 ?_
  | with_reducible refine cw_min2 ?_
  | with_reducible refine tw_test ?_
  | with_reducible refine tw_B ?_
  | with_reducible refine tw_not ?_
  | with_reducible refine tw_truB ?_
  | with_reducible refine tw_and ?_
  | with_reducible refine tw_or ?_
  | with_reducible refine ew_and ?_
  | (refine' Exists.intro _ (And.intro (show V.bl _ = V.bl _ from rfl) ?_))
  | (refine' Exists.intro _ (And.intro (show V.int _ = V.int _ from rfl) ?_))
  | ((with_reducible refine' rw_ixL (v := ?_) (xs := ?_) (by assumption) ?obl ?oba ?_); (case obl => walk_at "ob_sq"); (case oba => first | exact rfl | exact at_zero))
  | ((with_reducible refine' rw_ixT (v := ?_) (xs := ?_) (by assumption) ?obl ?oba ?_); (case obl => walk_at "ob_sq"); (case oba => first | exact rfl | exact at_zero))
  | ((with_reducible refine' ew_lst (by assumption) ?_))
  | ((with_reducible refine' ew_tup (by assumption) ?_)))
local macro_rules | `(tactic| walk_at "ob_len") => `(tactic| first | exact Nat.le_of_ble_eq_true rfl | (simp; done) | omega)
local macro_rules | `(tactic| walk_at "ob") => `(tactic| repeat walk_at "ob1")

def aChecked (K : PySem.W.Frag) (C M : Addr) : List V → Hp → VK → Prop := fun vs F R => ∃ (wv rv : V) (w : Wld) (r : Rgt) (p anew : Bool), vs = [wv, rv, .bl anew] ∧ Dp K F wv (wldD w) ∧ Dp K F rv (rulD r p) ∧ WldOk w ∧
  ∀ (F' F0 : Hp) (A : RAd), A.C = C → A.M = M → Ex F F0 → RunAt K F0 F' A (lBegun w) w r p anew [] → R (.ref A.a) F'
section
variable {P : Program} {w : World} {K : PySem.W.Frag} {mg : Str → Option Value} {base : Heap} {C M : Addr}

abbrev s_checked_run : Stmt := top 36
def N_checked_run : List Str := ["world", "rule", "anew"]
theorem sc_checked_run : FnScope N_checked_run ["world", "rule", "anew"] (defScope s_checked_run) := ⟨rfl, rfl, rfl, by decide +kernel, rfl, by decide +kernel, by decide +kernel⟩
theorem ok_checked_run {f : Addr} {fd : FuncData} {f1 f2 f3 : Addr} {fd1 fd2 fd3 : FuncData} (Fn : Fun K "checked_run" "checked_run" s_checked_run f fd) (B : Blt mg) (Ccheck_world : Cal K mg "check_world" f1 fd1 ["world"]) (Gcheck_world : FnOk P w K mg base CX0 3 f1 fd1 ["world"] (LS (aChkW K))) (Ccheck_rule : Cal K mg "check_rule" f2 fd2 ["rule"]) (Gcheck_rule : FnOk P w K mg base CX0 1 f2 fd2 ["rule"] (LS (aChkR K))) (MK_Run : Mk K C f3) (G_Run : FnOk P w K mg base CX0 5 f3 fd3 ["self", "world", "rule", "anew"] (LS (aRInit K C M))) (MK_Run_g : mg "Run" = some (.ref C)) (MK_Run_a : Binds K fd3 ["self", "world", "rule", "anew"] []) : FnOk P w K mg base CX0 7 f fd ["world", "rule", "anew"] (LS (aChecked K C M)) := by
  refine Fn.ok sc_checked_run (fun vs H Q E h => ?_) (fun cdv A outer s H vs Q E hr h => ?_)
  · obtain ⟨J, F, R, hd, j, h, _⟩ := h
    obtain ⟨wv, rv, w, r, p, anew, rfl, _⟩ := h
    rfl
  · have nd := sc_checked_run.nd
    obtain ⟨J, F, R, hd, j, h, q⟩ := h
    obtain ⟨wv, rv, w, r, p, anew, rfl, dw, dr, hw, k⟩ := h
    refine ⟨_, (pss_cons (ps_expr (pe_call Gcheck_world (by exact hr.mono (by decide)) (by rfl) Ccheck_world.g Ccheck_world.k Ccheck_world.a .nil pass0 (pa_cons (pv 0) pa_nil)))
      (pss_cons (ps_expr (pe_call Gcheck_rule (by exact hr.mono (by decide)) (by rfl) Ccheck_rule.g Ccheck_rule.k Ccheck_rule.a .nil pass0 (pa_cons (pv 1) pa_nil)))
      (pss_one (ps_ret (pe_make MK_Run G_Run (by exact hr.mono (by decide)) (by rfl) MK_Run_g MK_Run_a .nil pass0 (pa_cons (pv 0) (pa_cons (pv 1) (pa_cons (pv 2) pa_nil)))))))), ?_⟩
    refine LS.body j q ?_
    refine sw_seq (sw_drop (ew_call hd ?_))
    walk_at "ob"
    refine ⟨wv, w, rfl, dw, hw, fun F1 g1 => ?_⟩
    refine sw_seq (sw_drop (ew_call hd ?_))
    walk_at "ob"
    refine ⟨rv, r, p, rfl, dp_ex g1 dr, ?_⟩
    refine sw_ret (ew_make hd ?_)
    walk_at "ob"
    intro x dx hx hdx hne
    have g2 : Ex F (upd F1 dx (.own x)) := Ex.new g1 hdx
    refine ⟨_, x, dx, wv, rv, w, r, p, anew, rfl, rfl, by rw [upd_ne hne.symm]; exact hx, dp_ex g2 dw, dp_ex g2 dr, hw.m, fun F' A ea eC eM hX => ⟨rfl, ?_⟩⟩
    subst ea
    exact k F' _ A eC eM (g2.trans (Ex.new (.refl _) hX.ml0)) hX.shut
end
end Obr
namespace Obr
open PySem L2 PySem.Spec PyProof.Rows
/-! ### dicts whose keys are nested tuples -/
mutual
def nkD : NestedKey → PyData
  | .none => .none
  | .num i => .int i
  | .text x => .str x
  | .tup ks => .tuple (nkDs ks)
def nkDs : List NestedKey → List PyData
  | [] => []
  | k :: ks => nkD k :: nkDs ks
end
section
variable {X : Cx} {pins : List (Addr × Obj)} {σ : L2.St} {H : Hp} {s : Shared}
mutual
theorem nk_is (I : Inv X pins σ H s) : ∀ (k : NestedKey) (v : V) (u : Value), Dp X.K H v (nkD k) → L2.RelV v u → NestedIs s.heap k u
  | .none, v, u, h, r => by
    simp only [nkD] at h
    cases dp_non h
    cases r
    exact .none
  | .num i, v, u, h, r => by
    simp only [nkD] at h
    cases dp_int h
    obtain ⟨t, rfl⟩ := r
    exact .int i t
  | .text x, v, u, h, r => by
    simp only [nkD] at h
    cases dp_str h
    obtain ⟨t, rfl⟩ := r
    exact .text x t
  | .tup ks, v, u, h, r => by
    simp only [nkD] at h
    obtain ⟨a, xs, rfl, l, dxs⟩ := dp_tup h
    cases r
    obtain ⟨its, rv, p, hz⟩ := I.tuple l
    obtain ⟨o, ho, hc, n, hd⟩ := p
    exact .tup ho hc hd (by rw [List.toList_toArray]; exact nk_all I ks xs its dxs rv)
theorem nk_all (I : Inv X pins σ H s) : ∀ (ks : List NestedKey) (vs : List V) (us : List Value), DpAll X.K H vs (nkDs ks) → L2.Vals vs us → NestedAll s.heap ks us
  | [], vs, us, h, r => by
    simp only [nkDs] at h
    cases h
    cases r
    exact .nil
  | k :: ks, vs, us, h, r => by
    simp only [nkDs] at h
    cases h with
    | cons h1 h2 =>
      cases r with
      | cons r1 r2 => exact .cons (nk_is I k _ _ h1 r1) (nk_all I ks _ _ h2 r2)
end
end
/-- a key: where its tuple stands, and that it does -/
def KeyAt (K : PySem.W.Frag) (H : Hp) (k : NestedKey) (a : Addr) : Prop := Dp K H (.ref a) (nkD k) ∧ k.depth ≤ 8
theorem KeyAt.ex {K : PySem.W.Frag} {F G : Hp} {k : NestedKey} {a : Addr} (h : KeyAt K F k a) (g : Ex F G) : KeyAt K G k a := ⟨dp_ex g h.1, h.2⟩
abbrev NKs := List (NestedKey × Addr × V)
def NRel : NestedKey × Addr × V → NestedKey × Addr × Value → Prop := fun p q => p.1 = q.1 ∧ p.2.1 = q.2.1 ∧ L2.RelV p.2.2 q.2.2
def RawN (P : Program) (w : World) (h : Heap) (d : Addr) (ys : List (NestedKey × Addr × Value)) : Prop := ∃ o es ep, h.get? d = some o ∧ o.ExactDict ∧ o.data = .dict es ep ∧ es.toList = ys.map (entryOfKey (nestedKind P w)) ∧ (ys.map (·.1)).Nodup
/-- the dict at d -/
def dnO (P : Program) (w : World) (d : Addr) (xs : NKs) : HO := .ext fun h => xs.length ≤ 100000 ∧ (d == sysModules) = false ∧ ∃ ys, Paired NRel xs ys ∧ RawN P w h d ys
theorem dn_ok {P : Program} {w : World} {H : Hp} {h : Heap} {d : Addr} {xs : NKs} (a : xs.length ≤ 100000) (b : (d == sysModules) = false) {ys : List (NestedKey × Addr × Value)} (r : Paired NRel xs ys) (q : RawN P w h d ys) : ObjOk P w H h d (dnO P w d xs) := by
  refine ⟨⟨a, b, ys, r, q⟩, ?_, fun h1 h2 p k => ?_⟩
  · obtain ⟨o, _, _, ho, _⟩ := q
    exact ⟨o, ho⟩
  · obtain ⟨a', b', ys', r', o, es, ep, ho, q'⟩ := p
    exact ⟨a', b', ys', r', o, es, ep, k o ho, q'⟩
theorem nrel_get {xs : NKs} {ys : List (NestedKey × Addr × Value)} (r : Paired NRel xs ys) : ∀ y ∈ ys, ∃ x ∈ xs, NRel x y := by
  induction r with
  | nil => intro y hy; cases hy
  | cons r rs ih =>
    intro y hy
    rcases List.mem_cons.mp hy with rfl | hy
    · exact ⟨_, List.mem_cons_self, r⟩
    · obtain ⟨x, hx, q⟩ := ih y hy
      exact ⟨x, List.mem_cons_of_mem _ hx, q⟩
theorem nrel_snoc {x : NestedKey × Addr × V} {y : NestedKey × Addr × Value} (h : NRel x y) : ∀ {xs : NKs} {ys : List (NestedKey × Addr × Value)}, Paired NRel xs ys → Paired NRel (xs ++ [x]) (ys ++ [y])
  | [], [], .nil => .cons h .nil
  | _ :: _, _ :: _, .cons r rs => .cons r (nrel_snoc h rs)
/-- what is there for a key -/
def nAt (xs : NKs) (k : NestedKey) : Option V := (xs.find? fun x => decide (x.1 = k)).map (·.2.2)
theorem nAt_none {xs : NKs} {k : NestedKey} (h : k ∉ xs.map (·.1)) : nAt xs k = none := by
  unfold nAt
  rw [List.find?_eq_none.mpr fun x hx => by
    simp only [decide_eq_true_eq]
    exact fun e => h (by rw [← e]; exact List.mem_map_of_mem hx)]
  rfl
theorem nrel_at {k : NestedKey} : ∀ {xs : NKs} {ys : List (NestedKey × Addr × Value)}, Paired NRel xs ys → (∀ v, nAt xs k = some v → ∃ p, atKey ys k = some p ∧ L2.RelV v p.2) ∧ (nAt xs k = none → atKey ys k = none)
  | [], [], .nil => ⟨fun v h => (by cases h), fun _ => rfl⟩
  | x :: xs, y :: ys, .cons r rs => by
    have ih := nrel_at (k := k) rs
    unfold nAt atKey at ih ⊢
    rw [List.find?_cons, List.find?_cons]
    by_cases c : x.1 = k
    · rw [decide_eq_true c, decide_eq_true (r.1.symm.trans c)]
      exact ⟨fun v h => ⟨y.2, rfl, by cases h; exact r.2.2⟩, fun h => by cases h⟩
    · rw [decide_eq_false c, decide_eq_false (fun e => c (r.1.trans e))]
      exact ih
theorem nAt_isSome {xs : NKs} {k : NestedKey} : (nAt xs k).isSome = decide (k ∈ xs.map (·.1)) := by
  by_cases c : k ∈ xs.map (·.1)
  · rw [decide_eq_true c]
    unfold nAt
    rw [Option.isSome_map, List.find?_isSome]
    obtain ⟨x, hx, e⟩ := List.mem_map.mp c
    exact ⟨x, hx, by simp [e]⟩
  · rw [decide_eq_false c, nAt_none c]
    rfl
section
variable {X : Cx} {pins : List (Addr × Obj)} {σ : L2.St} {H : Hp} {s : Shared}
theorem dn_of (I : Inv X pins σ H s) {d : Addr} {xs : NKs} (e : H d = some (dnO X.prog X.w d xs)) (hk : ∀ x ∈ xs, KeyAt X.K H x.1 x.2.1) : xs.length ≤ 100000 ∧ (d == sysModules) = false ∧ ∃ ys, Paired NRel xs ys ∧ s.heap.DictOfH (nestedKind X.prog X.w) d ys := by
  obtain ⟨⟨a, b, ys, r, o, es, ep, h1, h2, h3, h4, h5⟩, _⟩ := I.hok d _ e
  refine ⟨a, b, ys, r, o, es, ep, h1, h2, h3, h4, fun y hy => ?_, h5⟩
  obtain ⟨x, hx, q1, q2, _⟩ := nrel_get r y hy
  have := hk x hx
  rw [q1, q2] at this
  exact ⟨nk_is I _ _ _ this.1 rfl, this.2⟩
theorem room_n (hu : X.A.units + 65 < cLine) : (nestedKind X.prog X.w).room X.A.in1 := by
  show X.A.in1.units + 8 < cLine
  have : X.A.in1.units ≤ X.A.units + 1 := by
    show _ ≤ _
    unfold Around.in1
    exact Nat.le_refl _
  omega
def rInN (P : Program) (w : World) (K : PySem.W.Frag) : R2 := fun x y H Q => ∃ (a d : Addr) (k : NestedKey) (xs : NKs), x = .ref a ∧ y = .ref d ∧ H d = some (dnO P w d xs) ∧ KeyAt K H k a ∧ (∀ x ∈ xs, KeyAt K H x.1 x.2.1) ∧ Q (.bl (decide (k ∈ xs.map (·.1)))) H
theorem op_inN (hu : X.A.units + 65 < cLine) : OpR X (compareOp .In) (rInN X.prog X.w X.K) := by
  intro pins s σ H x y v u Q I rx ry h
  obtain ⟨a, d, k, xs, rfl, rfl, e, hka, hk, q⟩ := h
  cases rx
  cases ry
  obtain ⟨hl, hs, ys, r, dd⟩ := dn_of I e hk
  refine wpAny_in_heap (room_n hu) ⟨nk_is I _ _ _ hka.1 rfl, hka.2⟩ hs dd ?_
  refine ⟨.bl _, H, I.tok _, rfl, ?_⟩
  have e2 : (atKey ys k).isSome = decide (k ∈ xs.map (·.1)) := by
    rw [← nAt_isSome]
    have h1 := nrel_at (k := k) r
    cases hn : nAt xs k with
    | none => rw [h1.2 hn]; rfl
    | some v =>
      obtain ⟨p, hp, _⟩ := h1.1 v hn
      rw [hp]; rfl
  rw [e2]
  exact q
def tDGetN (P : Program) (w : World) (K : PySem.W.Frag) (td ty : TE) : TE := fun σ H Q => td σ H fun x H1 => ty σ H1 fun y H2 => ∃ (a d : Addr) (k : NestedKey) (xs : NKs) (v : V), x = .ref d ∧ y = .ref a ∧ H2 d = some (dnO P w d xs) ∧ KeyAt K H2 k a ∧ (∀ x ∈ xs, KeyAt K H2 x.1 x.2.1) ∧ nAt xs k = some v ∧ Q v H2
theorem pe_dgetN {o i : Expr} {pos : Pos} {td ty : TE} (hu : X.A.units + 65 < cLine) (ho : PE X o td) (hi : PE X i ty) (hs : NoSl i) : PE X (.Subscript o i pos) (tDGetN X.prog X.w X.K td ty) := by
  refine ⟨fun pins s σ H Q I h => ?_⟩
  refine subD_of PySem.F.slot_dict_getitem.lookup hs (thn (ho.run pins s σ H _ I h) fun u s1 ⟨x, H1, I1, rx, q1⟩ => thn (hi.run pins s1 σ H1 _ I1 q1) fun iv s2 ⟨y, H2, I2, ry, a, d, k, xs, v, ex, ey, e, hka, hk, hv, q2⟩ => ?_)
  subst ex ey
  obtain rfl : u = Value.ref d := rx
  obtain rfl : iv = Value.ref a := ry
  obtain ⟨hl, hs, ys, r, dd⟩ := dn_of I2 e hk
  obtain ⟨p, hp, rp⟩ := (nrel_at (k := k) r).1 v hv
  exact ⟨dd.typeIs, wpAny_getItem_heap (room_n hu) ⟨nk_is I2 _ _ _ hka.1 rfl, hka.2⟩ dd hp ⟨v, H2, I2.tok _, rp, q2⟩⟩
def rSetN (P : Program) (w : World) (K : PySem.W.Frag) : TSet := fun o i v H Q => ∃ (a d : Addr) (k : NestedKey) (xs : NKs), o = .ref d ∧ i = .ref a ∧ H d = some (dnO P w d xs) ∧ KeyAt K H k a ∧ (∀ x ∈ xs, KeyAt K H x.1 x.2.1) ∧ k ∉ xs.map (·.1) ∧ xs.length < 100000 ∧ Q (upd H d (dnO P w d (xs ++ [(k, a, v)])))
theorem set_dN (hu : X.A.units + 65 < cLine) : PSet X (rSetN X.prog X.w X.K) := by
  intro pins s σ H o i v ov iv u Q I ro ri rv h
  obtain ⟨a, d, k, xs, rfl, rfl, e, hka, hk, hn, hl2, q⟩ := h
  cases ro
  cases ri
  obtain ⟨hl, hs, ys, r, dd⟩ := dn_of I e hk
  have hat : atKey ys k = none := (nrel_at (k := k) r).2 (nAt_none hn)
  have hlen : ys.length = xs.length := (Paired.length r).symm
  refine wpAny_setItem_heap (hsz := by rw [hlen, sizeLine_eq]; omega) (room_n hu) ⟨nk_is I _ _ _ hka.1 rfl, hka.2⟩ dd fun h' dd' hsb => ?_
  rw [storedH_new hat] at dd'
  obtain ⟨o2, es, ep, h1, h2, h3, h4, h5, h6⟩ := dd'
  refine ⟨_, d_write I (by rw [e]; exact True.intro) hsb ⟨o2, h1⟩ (dn_ok (by rw [List.length_append, List.length_singleton]; omega) hs (nrel_snoc ⟨rfl, rfl, rv⟩ r) ⟨o2, es, ep, h1, h2, h3, h4, h6⟩), q⟩
def tDNewN (P : Program) (w : World) : TE := fun _ H Q => ∀ p, H p = none → Q (.ref p) (upd H p (dnO P w p []))
theorem pe_dnewN {pos : Pos} : PE X (.Dict [] [] pos) (tDNewN X.prog X.w) := ⟨fun pins s σ H Q I h =>
  wpAny_Dict_empty ⟨.ref s.heap.objs.size, _, I.laid (a := s.heap.objs.size) (o := dnO X.prog X.w s.heap.objs.size []) (t' := s.toks) (fun _ _ q => Heap.get?_push_of_some _ q) (Nat.le_refl _)
    (dn_ok (Nat.zero_le _) (beq_eq_false_iff_ne.mpr (Ne.symm (Nat.ne_of_lt I.big))) .nil ⟨_, #[], 0, Heap.get?_push_size _ rfl, ⟨rfl, rfl, rfl⟩, rfl, rfl, List.nodup_nil⟩), rfl, h _ (I.hok.fresh (Nat.le_refl _))⟩⟩
end
section
variable {P : Program} {w : World} {S : Type} {J : S → Hp → Hp → Prop} {K : PySem.W.Frag} {σ : L2.St} {s : S} {F : Hp} {R : V → S → Hp → Prop} {ta tb : TE} {x : V} {N : L2.St → S → Hp → Prop}
theorem KeyAt.hid (hd : Hid J) {H : Hp} (j : J s F H) {k : NestedKey} {a : Addr} (h : KeyAt K F k a) : KeyAt K H k a := ⟨dp_ex (hd.ex j) h.1, h.2⟩
theorem rw_inN (hd : Hid J) {a d : Addr} {k : NestedKey} {xs : NKs} (e : F d = some (dnO P w d xs)) (h1 : KeyAt K F k a) (h2 : ∀ x ∈ xs, KeyAt K F x.1 x.2.1) (h : R (.bl (decide (k ∈ xs.map (·.1)))) s F) : RW J (rInN P w K) (.ref a) (.ref d) s F R := fun H j Q q =>
  ⟨a, d, k, xs, rfl, rfl, hd.ex j _ _ e, h1.hid hd j, fun x hx => (h2 x hx).hid hd j, q _ _ _ _ j h⟩
theorem ew_dgetN (hd : Hid J) (h : EW J ta σ s F fun x s1 F1 => EW J tb σ s1 F1 fun y s2 F2 => ∃ (a d : Addr) (k : NestedKey) (xs : NKs) (v : V), x = .ref d ∧ y = .ref a ∧ F2 d = some (dnO P w d xs) ∧ KeyAt K F2 k a ∧ (∀ x ∈ xs, KeyAt K F2 x.1 x.2.1) ∧ nAt xs k = some v ∧ R v s2 F2) : EW J (tDGetN P w K ta tb) σ s F R := fun H j Q q =>
  h H j _ fun x s1 F1 H1 j1 h1 => h1 H1 j1 _ fun y s2 F2 H2 j2 ⟨a, d, k, xs, v, ex, ey, e, c1, c2, c3, k2⟩ => ⟨a, d, k, xs, v, ex, ey, hd.ex j2 _ _ e, c1.hid hd j2, fun x hx => (c2 x hx).hid hd j2, c3, q _ _ _ _ j2 k2⟩
theorem gw_subN (hd : Hid J) (h : EW J ta σ s F fun o s1 F1 => EW J tb σ s1 F1 fun i s2 F2 => ∃ (a d : Addr) (k : NestedKey) (xs : NKs), o = .ref d ∧ i = .ref a ∧ F2 d = some (dnO P w d xs) ∧ KeyAt K F2 k a ∧ (∀ x ∈ xs, KeyAt K F2 x.1 x.2.1) ∧ k ∉ xs.map (·.1) ∧ xs.length < 100000 ∧ N σ s2 (upd F2 d (dnO P w d (xs ++ [(k, a, x)])))) : GW J (gSub ta tb (rSetN P w K)) x σ s F N := fun H j Q q =>
  h H j _ fun o s1 F1 H1 j1 h1 => h1 H1 j1 _ fun i s2 F2 H2 j2 ⟨a, d, k, xs, eo, ei, e, c1, c2, c3, c4, k2⟩ => ⟨a, d, k, xs, eo, ei, hd.ex j2 _ _ e, c1.hid hd j2, fun x hx => (c2 x hx).hid hd j2, c3, c4, q _ _ _ _ (hd.mu j2 e) k2⟩
theorem ew_dnewN (hd : Hid J) (h : ∀ p, F p = none → R (.ref p) s (upd F p (dnO P w p []))) : EW J (tDNewN P w) σ s F R := fun H j Q q p hp => q _ _ _ _ (hd.al j hp) (h p (hd.fresh j hp))
end
end Obr
namespace Obr
open PySem L2 PyProof.Rows
local macro_rules | `(tactic| walk_at "ob_at") => `(tactic| first
  | assumption
  | exact upd_same
  | (refine Eq.trans (upd_ne ?obn) ?obr; (case obn => walk_at "ob_ne"); (case obr => walk_at "ob_at")))
local macro_rules | `(tactic| walk_at "ob_ne") => `(tactic| first
  | assumption
  | (refine Ne.symm ?obs; (case obs => assumption))
  | (refine' ne_of_none (H := ?_) ?obe ?obh; (case obh => assumption); (case obe => walk_at "ob_at"))
  | (refine Ne.symm ?obs; (case obs => (refine' ne_of_none (H := ?_) ?obe ?obh; (case obh => assumption); (case obe => walk_at "ob_at")))))
local macro_rules | `(tactic| walk_at "ob_fr") => `(tactic| first
  | assumption
  | (refine Eq.trans (upd_ne ?obn) ?obr; (case obn => walk_at "ob_ne"); (case obr => walk_at "ob_fr"))
  | (refine Ex.free (G := ?_) (by assumption) ?obh; (case obh => walk_at "ob_fr")))
local macro_rules | `(tactic| walk_at "ob_ex") => `(tactic| first
  | assumption
  | exact Ex.refl _
  | (refine Ex.out ?obg ?obh; (case obh => assumption); (case obg => walk_at "ob_ex"))
  | (refine Ex.new ?obg ?obh; (case obh => assumption); (case obg => walk_at "ob_ex"))
  | (refine Ex.new ?obg ?obh; (case obh => walk_at "ob_fr"); (case obg => walk_at "ob_ex")))
local macro_rules | `(tactic| walk_at "ob_sq") => `(tactic| first
  | assumption
  | (refine SqL.of ?oba; (case oba => walk_at "ob_at"))
  | (refine Ex.sqT (F := ?_) ?obg ?obh; (case obh => assumption); (case obg => walk_at "ob_ex"))
  | (refine Ex.sqL (F := ?_) ?obg ?obh; (case obh => assumption); (case obg => walk_at "ob_ex"))
  | (refine SqT.of ?oba; (case oba => walk_at "ob_at")))
local macro_rules | `(tactic| walk_at "ob_side") => `(tactic| first | exact rfl | assumption | decide | omega | exact ⟨by decide, by decide, by decide⟩ | exact Or.inr ⟨by decide, by decide⟩ | exact Or.inl ⟨by decide, by decide⟩ | exact wide_div (b := 60) (by first | decide | omega) (by first | decide | omega) (by decide) (by decide))
local macro_rules | `(tactic| walk_at "ob1") => `(tactic| first
  | with_reducible refine sw_seq ?_
  | with_reducible refine sw_asg ?_
  | with_reducible refine sw_ret ?_
  | with_reducible refine sw_par ?_
  | with_reducible refine ⟨_, _, rfl, ?_⟩
  | with_reducible refine sw_drop ?_
  | with_reducible refine sw_if ?_
  | with_reducible refine sw_next ?_
  | with_reducible refine gw_name ?_
  | with_reducible refine gw_subL (by assumption) ?_
  | with_reducible refine gsw_cons ?_
  | with_reducible refine gsw_nil ?_
  | with_reducible refine ew_c ?_
  | ((with_reducible refine' ew_var (v := ?_) ?obv ?_); (case obv => exact rfl))
  | ((with_reducible refine ew_next (by assumption) ?obv ?_); (case obv => exact rfl))
  | ((with_reducible refine ew_world (by assumption) ?obv ?_); (case obv => exact rfl))
  | ((with_reducible refine ew_rule (by assumption) ?obv ?_); (case obv => exact rfl))
  | with_reducible refine ew_op ?_
  | with_reducible refine ew_un ?_
  | with_reducible refine ew_dget (by assumption) ?_
  | with_reducible refine uw_I ?_
  | with_reducible refine ppw_nil ?_
  | with_reducible refine ppw_cons ?_
  | with_reducible refine sw_dput (by assumption) ?_
  | with_reducible refine ew_cb ?_
  | with_reducible refine ew_if ?_
  | with_reducible refine ew_slL (by assumption) ?_
  | with_reducible refine ow_some ?_
  | with_reducible refine ow_none ?_
  | with_reducible refine aw_nil ?_
  | with_reducible refine aw_cons ?_
  | with_reducible refine rw_I0 ?_
  | ((with_reducible refine rw_I ?obc ?_); (case obc => walk_at "ob_side"))
  | with_reducible refine rw_isN ?_
  | with_reducible refine rw_notN ?_
  | ((with_reducible refine rw_eq ?obc ?_); (case obc => exact rfl))
  | ((with_reducible refine rw_ne ?obc ?_); (case obc => exact rfl))
  | with_reducible refine cw_max2 ?_
  | with_reducible refine cw_min2 ?_
  | with_reducible refine tw_test ?_
  | with_reducible refine tw_B ?_
  | with_reducible refine tw_not ?_
  | with_reducible refine tw_truB ?_
  | with_reducible refine tw_and ?_
  | with_reducible refine tw_or ?_
  | with_reducible refine ew_and ?_
  | (refine' Exists.intro _ (And.intro (show V.bl _ = V.bl _ from rfl) ?_))
  | (refine' Exists.intro _ (And.intro (show V.int _ = V.int _ from rfl) ?_))
  | ((with_reducible refine' rw_ixL (v := ?_) (xs := ?_) (by assumption) ?obl ?oba ?_); (case obl => walk_at "ob_sq"); (case oba => first | exact rfl | exact at_zero))
  | ((with_reducible refine' rw_ixT (v := ?_) (xs := ?_) (by assumption) ?obl ?oba ?_); (case obl => walk_at "ob_sq"); (case oba => first | exact rfl | exact at_zero))
  | ((with_reducible refine' ew_lst (by assumption) ?_))
  | ((with_reducible refine' ew_tup (by assumption) ?_)))
local macro_rules | `(tactic| walk_at "ob_len") => `(tactic| first | exact Nat.le_of_ble_eq_true rfl | (simp; done) | omega)
local macro_rules | `(tactic| walk_at "ob") => `(tactic| repeat walk_at "ob1")

/-! ### what is alike ahead of two beats -/
/-- what is new of G over F -/
def newH (F G : Hp) : Hp := fun a => match F a with
  | none => G a
  | some _ => none
theorem newH_ex {F G G2 : Hp} (g : Ex G G2) : Ex (newH F G) (newH F G2) := fun a o h => by
  unfold newH at h ⊢
  cases e : F a with
  | none => rw [e] at h; exact g a o h
  | some x => rw [e] at h; cases h
theorem newH_new {F G : Hp} {p : Addr} {o : HO} (g : Ex F G) (hp : G p = none) : newH F (upd G p o) p = some o := by
  unfold newH
  rw [g.free hp]
  exact upd_same
theorem newH_from {F F1 G : Hp} (g : Ex F F1) : Ex (newH F1 G) (newH F G) := fun a o h => by
  unfold newH at h ⊢
  cases e : F1 a with
  | none => rw [e] at h; rw [g.free e]; exact h
  | some x => rw [e] at h; cases h
def leftN (m : Mac) (b : Int) : NestedKey := if 0 ≤ m.over then .num (m.over - b) else .none
def older (w : Wld) (t : LSt) (m : Mac) : Nat := ((lClaims w t w.ms.length).filter fun c => decide (c.since < m.since)).length
def placeV (w : Wld) (t : LSt) (ss : List Stp) (m : Mac) : V := if m.over < 0 ∧ m.at_ ≠ (ss.length : Int) then .int (older w t m) else .non
def placeN (w : Wld) (t : LSt) (ss : List Stp) (m : Mac) : NestedKey := if m.over < 0 ∧ m.at_ ≠ (ss.length : Int) then .num (older w t m) else .none
def lastN (t : LSt) : NestedKey := if t.last < 0 then .none else .num t.last
def memN (w : Wld) (r : Rgt) (t : LSt) : NestedKey := match r with
  | .turns => lastN t
  | .wait => .tup ((t.ms.zip w.ms).map fun x => placeN w t x.2 x.1)
  | _ => .none
def doN (t : LSt) (m : Mac) : NestedKey := .tup [.num m.at_, leftN m t.beat]
def picN (w : Wld) (r : Rgt) (t : LSt) : NestedKey := .tup [.num t.level, .tup (t.ms.map (doN t)), memN w r t]
theorem nkDs_map : ∀ {α : Type} {f : α → NestedKey} {l : List α}, nkDs (l.map f) = l.map fun x => nkD (f x)
  | _, _, [] => by simp [nkDs]
  | _, f, a :: l => by rw [List.map_cons, nkDs, List.map_cons, nkDs_map]
theorem dp_left {K : PySem.W.Frag} {F : Hp} {m : Mac} {b : Int} : Dp K F (leftV m b) (nkD (leftN m b)) := by
  unfold leftV leftN
  split
  · rw [nkD]; exact .int _
  · rw [nkD]; exact .non
theorem dp_place {K : PySem.W.Frag} {F : Hp} {w : Wld} {t : LSt} {ss : List Stp} {m : Mac} : Dp K F (placeV w t ss m) (nkD (placeN w t ss m)) := by
  unfold placeV placeN
  split
  · rw [nkD]; exact .int _
  · rw [nkD]; exact .non
def aPlace (K : PySem.W.Frag) (C M : Addr) : List V → Hp → VK → Prop := fun vs F R => ∃ (F0 : Hp) (A : RAd) (t : LSt) (w : Wld) (r : Rgt) (p anew : Bool) (ex : List (Addr × HO)) (k : Nat) (ad : MAd) (m : Mac) (ss : List Stp) (q : Addr), vs = [.ref ad.a, .ref q] ∧ A.C = C ∧ A.M = M ∧ RunAt K F0 F A t w r p anew ex ∧ LOk w t ∧ w.ms.length ≤ 5 ∧
  A.mads[k]? = some ad ∧ t.ms[k]? = some m ∧ w.ms[k]? = some ss ∧ F q = some (.lst ((lClaims w t w.ms.length).map fun c => refOf A c.k)) ∧ ∀ F', Ex F F' → R (placeV w t ss m) F'
def aMem (K : PySem.W.Frag) (C M : Addr) : List V → Hp → VK → Prop := fun vs F R => ∃ (F0 : Hp) (A : RAd) (t : LSt) (w : Wld) (r : Rgt) (p anew : Bool) (ex : List (Addr × HO)), vs = [.ref A.a] ∧ A.C = C ∧ A.M = M ∧ RunAt K F0 F A t w r p anew ex ∧ LOk w t ∧ w.ms.length ≤ 5 ∧
  ∀ (v : V) (F' : Hp), Ex F F' → Dp K (newH F F') v (nkD (memN w r t)) → R v F'
def aPic (K : PySem.W.Frag) (C M : Addr) : List V → Hp → VK → Prop := fun vs F R => ∃ (F0 : Hp) (A : RAd) (t : LSt) (w : Wld) (r : Rgt) (p anew : Bool) (ex : List (Addr × HO)), vs = [.ref A.a] ∧ A.C = C ∧ A.M = M ∧ RunAt K F0 F A t w r p anew ex ∧ LOk w t ∧ w.ms.length ≤ 5 ∧
  ∀ (q : Addr) (F' : Hp), Ex F F' → Dp K (newH F F') (.ref q) (nkD (picN w r t)) → R (.ref q) F'
def aGained (K : PySem.W.Frag) : List V → Hp → VK → Prop := fun vs F R => ∃ (a b : Addr) (xs ys : List Int), vs = [.ref a, .ref b] ∧ SqT K F a (xs.map V.int) ∧ SqT K F b (ys.map V.int) ∧ xs.length = ys.length ∧ xs.length ≤ 100 ∧
  ∀ (q : Addr) (F' : Hp), Ex F F' → F' q = some (.lst ((List.zipWith (fun x y => y - x) xs ys).map V.int)) → R (.ref q) F'
section
variable {P : Program} {w : World} {K : PySem.W.Frag} {mg : Str → Option Value} {base : Heap} {C M : Addr}

abbrev s_place_of : Stmt := top 46
def N_place_of : List Str := ["machine", "waiting", "other"]
theorem sc_place_of : FnScope N_place_of ["machine", "waiting"] (defScope s_place_of) := ⟨rfl, rfl, rfl, by decide +kernel, rfl, by decide +kernel, by decide +kernel⟩
theorem ok_place_of {f : Addr} {fd : FuncData} {f1 : Addr} {fd1 : FuncData} (Fn : Fun K "place_of" "place_of" s_place_of f fd) (B : Blt mg) (HM : ClsF K M mkeys) (M_is_waiting : Met K M "is_waiting" f1 fd1 ["self"]) (G_is_waiting : FnOk P w K mg base CX0 2 f1 fd1 ["self"] (LS (aWaiting K M))) : FnOk P w K mg base CX0 3 f fd ["machine", "waiting"] (LS (aPlace K C M)) := by
  refine Fn.ok sc_place_of (fun vs H Q E h => ?_) (fun cdv A outer s H vs Q E hr h => ?_)
  · obtain ⟨J, F, R, hd, j, h, _⟩ := h
    obtain ⟨F0, A, t, w, r, p, anew, ex, kk, ad, m, ss, wq, rfl, _⟩ := h
    rfl
  · have nd := sc_place_of.nd
    obtain ⟨J, F, R, hd, j, h, q⟩ := h
    obtain ⟨F0, A, t, w, r, p, anew, ex, kk, ad, m, ss, wq, rfl, rfl, rfl, hG, hok, hm5, h1, h2, h3, hq, k⟩ := h
    refine ⟨_, (pss_cons (ps_if (pt_not (pt_val (pe_meth0 (pv 0) M_is_waiting.cl M_is_waiting.m G_is_waiting (by exact hr.mono (by decide)) M_is_waiting.a .nil pass0))) (pss_one (ps_ret pe_non)) pss_nil)
      (pss_one (ps_ret (pe_callB call_len_seq (by rfl) B.len (by decide +kernel) (pa_cons (pe_lc (own := [("other", 2)]) (te := (tVar 2)) (tt := (tTest (tOp (rI0 fun i j => .bl (decide (i < j))) (tFld K (tVar 2) "since") (tFld K (tVar 0) "since")))) (by rfl) nd (pi_list (pv 1)) (blkOk_by (own := [("other", 2)]) (N := N_place_of) (sc := defScope s_place_of) (by decide +kernel)) (fun _ _ _ _ _ => (pg_name (i := 2) nd rfl (Or.inl rfl))) (fun _ _ _ _ _ => pts_one (pt_cmpR op_lt (pe_fld (pv 2) rfl) (pe_fld (pv 0) rfl) (nomark _))) (fun _ _ _ _ _ => (pv 2))) pa_nil))))), ?_⟩
    refine LS.body j q ?_
    refine sw_seq (sw_if (tw_not (tw_B (ew_meth hd ?_))))
    walk_at "ob"
    refine ⟨ad.a, ad.dx, _, rfl, hG.mac h1 h2, mfs_no (by decide +kernel), aw_nil ⟨F0, ad.a, ad.dx, kk, ad.sv, ss, m, rfl, hG.mobj h1 h2 h3, ?_⟩⟩
    refine ⟨_, rfl, fun hb => ?_, fun hb => ?_⟩
    · have hb2 : ¬ (m.over < 0 ∧ m.at_ ≠ (ss.length : Int)) := fun z => by rw [decide_eq_true z] at hb; cases hb
      unfold placeV at k
      rw [if_neg hb2] at k
      exact sw_ret (ew_c (k _ (.refl _)))
    · have hb2 : (m.over < 0 ∧ m.at_ ≠ (ss.length : Int)) := by
        by_cases z : (m.over < 0 ∧ m.at_ ≠ (ss.length : Int))
        · exact z
        · rw [decide_eq_false z] at hb; cases hb
      unfold placeV at k
      rw [if_pos hb2] at k
      refine sw_next (sw_ret (ew_cb (aw_cons (ew_lcL hd ?_))))
      walk_at "ob"
      have hcl : (lClaims w t w.ms.length).length ≤ w.ms.length := lClaims_len _
      refine ⟨wq, _, rfl, SqL.of hq, by rw [List.length_map]; omega, fun Dl hDl => ?_⟩
      refine ⟨fun i acc _ G => F = G ∧ acc = (((lClaims w t w.ms.length).take i).filter fun c => decide (c.since < m.since)).map (fun c => refOf A c.k), ⟨rfl, rfl⟩, ?_, ?_, ?_⟩
      · rintro i acc _ G hi hg ⟨rfl, rfl⟩
        refine ⟨SqL.of hq, ?_⟩
        rw [List.length_map]
        exact Nat.le_trans (List.length_filter_le _ _) (List.length_take_le _ _)
      · rintro i acc x _ G hi hg ⟨rfl, rfl⟩
        rw [List.getElem?_map] at hi
        obtain ⟨c, hc, rfl⟩ := Option.map_eq_some_iff.mp hi
        have hd' := hd.jd (D := Dl) (acc := (((lClaims w t w.ms.length).take i).filter fun c => decide (c.since < m.since)).map (fun c => refOf A c.k))
        obtain ⟨j', hj, hcj⟩ := lClaims_mem (List.mem_of_getElem? hc)
        obtain ⟨m', ss', st, g1, g2, _, _, _, rfl⟩ := lClaim_mem hcj
        obtain ⟨ad', m'', ss'', e1, e2, e3⟩ := hG.three hj
        rw [g1] at e2
        cases e2
        have er : refOf A (j' : Int) = .ref ad'.a := by
          unfold refOf
          rw [Int.toNat_natCast, e1]
        have eN : (lClaims w t w.ms.length).take (i + 1) = (lClaims w t w.ms.length).take i ++ [⟨(j' : Int), st.draw, m'.since⟩] := by rw [List.take_succ, hc]; rfl
        rw [er]
        refine gw_name ⟨rfl, ?_⟩
        refine tw_test (ew_op (ew_fld hd' ?_))
        walk_at "ob"
        refine ⟨ad'.a, A.M, ad'.dx, _, _, rfl, hG.mac e1 g1, HM.cl, HM.no _ (by decide +kernel), lookup_nd (i := 4) (mfs_nd _ _ _) rfl, ?_⟩
        refine ew_fld hd' ?_
        walk_at "ob"
        refine ⟨ad.a, A.M, ad.dx, _, _, rfl, hG.mac h1 h2, HM.cl, HM.no _ (by decide +kernel), lookup_nd (i := 4) (mfs_nd _ _ _) rfl, ?_⟩
        walk_at "ob"
        refine ⟨fun hb3 => ?_, fun hb3 => ⟨rfl, ?_⟩⟩
        · refine ew_var rfl ⟨rfl, ?_⟩
          rw [eN, List.filter_append, List.filter_cons_of_pos (by exact hb3), List.map_append]
          simp [er]
        · rw [eN, List.filter_append, List.filter_cons_of_neg (by rw [hb3]; decide)]
          simp
      · rintro acc _ G hg ⟨rfl, rfl⟩
        refine aw_nil (cw_lenS hd (Or.inl (SqL.of upd_same)) ?_)
        rw [List.length_map, List.length_map, List.take_length]
        exact k _ (Ex.new (.refl _) hg)

abbrev s_memory_of : Stmt := top 45
def N_memory_of : List Str := ["run", "machine"]
theorem sc_memory_of : FnScope N_memory_of ["run"] (defScope s_memory_of) := ⟨rfl, rfl, rfl, by decide +kernel, rfl, by decide +kernel, by decide +kernel⟩
theorem ok_memory_of {f : Addr} {fd : FuncData} {f1 f2 : Addr} {fd1 fd2 : FuncData} (Fn : Fun K "memory_of" "memory_of" s_memory_of f fd) (B : Blt mg) (HR : ClsF K C rkeys) (HM : ClsF K M mkeys) (M_waiting : Met K C "waiting" f1 fd1 ["self"]) (G_waiting : FnOk P w K mg base CX0 3 f1 fd1 ["self"] (LS (aWaitingR false K C M))) (Cplace_of : Cal K mg "place_of" f2 fd2 ["machine", "waiting"]) (Gplace_of : FnOk P w K mg base CX0 3 f2 fd2 ["machine", "waiting"] (LS (aPlace K C M))) : FnOk P w K mg base CX0 4 f fd ["run"] (LS (aMem K C M)) := by
  refine Fn.ok sc_memory_of (fun vs H Q E h => ?_) (fun cdv A outer s H vs Q E hr h => ?_)
  · obtain ⟨J, F, R, hd, j, h, _⟩ := h
    obtain ⟨F0, A, t, w, r, p, anew, ex, rfl, _⟩ := h
    rfl
  · have nd := sc_memory_of.nd
    obtain ⟨J, F, R, hd, j, h, q⟩ := h
    obtain ⟨F0, A, t, w, r, p, anew, ex, rfl, rfl, rfl, hG, hok, hm5, k⟩ := h
    refine ⟨_, (pss_cons (ps_if (pt_cmpR op_eq (pe_fld (pv 0) rfl) pe_str (nomark _)) (pss_one (ps_ret (pe_fld (pv 0) rfl))) pss_nil)
      (pss_cons (ps_if (pt_cmpR op_eq (pe_fld (pv 0) rfl) pe_str (nomark _)) (pss_one (ps_ret (pe_callTy call_tuple_of (by rfl) B.tuple (by decide +kernel) (pa_cons (pe_lc (own := [("machine", 1)]) (te := (tCall (LS (aPlace K _ _)) [] E0 (tCons (tVar 1) (tCons (tMeth _ "waiting" (LS (aWaitingR false K _ _)) [] E0 (tVar 0) tNil) tNil)))) (tt := tYes) (by rfl) nd (pi_list (pe_fld (pv 0) rfl)) (blkOk_by (own := [("machine", 1)]) (N := N_memory_of) (sc := defScope s_memory_of) (by decide +kernel)) (fun _ _ _ _ _ => (pg_name (i := 1) nd rfl (Or.inl rfl))) (fun _ _ _ _ _ => pts_nil) (fun _ _ _ _ _ => (pe_call Gplace_of (by exact hr.mono (by decide)) (by rfl) Cplace_of.g Cplace_of.k Cplace_of.a .nil pass0 (pa_cons (pv 1) (pa_cons (pe_meth0 (pv 0) M_waiting.cl M_waiting.m G_waiting (by exact hr.mono (by decide)) M_waiting.a .nil pass0) pa_nil))))) pa_nil)))) pss_nil)
      (pss_one (ps_ret pe_non)))), ?_⟩
    refine LS.body j q ?_
    have hml : F A.ml = some (.lst (A.mads.map fun ad => .ref ad.a)) := hG.own.ex _ _ hG.ml
    refine sw_seq (sw_if (tw_test (ew_op (ew_fld hd ?_))))
    walk_at "ob"
    refine ⟨A.a, A.C, A.dx, _, _, rfl, hG.cell, HR.cl, HR.no _ (by decide +kernel), lookup_nd (i := 6) (rfs_nd _ _ _ _ _ _) rfl, ?_⟩
    walk_at "ob"
    refine ⟨fun hb => ?_, fun hb => ?_⟩
    · have hr1 : r = .turns := by
        have := of_decide_eq_true hb
        cases r <;> first | rfl | exact absurd this (by decide +kernel)
      subst hr1
      refine sw_ret (ew_fld hd ?_)
      walk_at "ob"
      refine ⟨A.a, A.C, A.dx, _, _, rfl, hG.cell, HR.cl, HR.no _ (by decide +kernel), lookup_nd (i := 8) (rfs_nd _ _ _ _ _ _) rfl, ?_⟩
      refine k _ _ (.refl _) ?_
      show Dp K _ (ovV t.last) (nkD (lastN t))
      unfold ovV lastN
      split
      · rw [nkD]; exact .non
      · rw [nkD]; exact .int _
    have hr1 : r ≠ .turns := fun e => by subst e; exact absurd (of_decide_eq_false hb) (fun z => z rfl)
    refine sw_next (sw_seq (sw_if (tw_test (ew_op (ew_fld hd ?_)))))
    walk_at "ob"
    refine ⟨A.a, A.C, A.dx, _, _, rfl, hG.cell, HR.cl, HR.no _ (by decide +kernel), lookup_nd (i := 6) (rfs_nd _ _ _ _ _ _) rfl, ?_⟩
    walk_at "ob"
    refine ⟨fun hb2 => ?_, fun hb2 => ?_⟩
    rotate_left
    · refine sw_next (sw_ret (ew_c (k _ _ (.refl _) ?_)))
      have e : memN w r t = .none := by
        cases r with
        | rank => rfl
        | least => rfl
        | turns => exact absurd rfl hr1
        | wait => exact absurd (of_decide_eq_false hb2) (fun z => z rfl)
      rw [e, nkD]
      exact .non
    have hr2 : r = .wait := by
      have := of_decide_eq_true hb2
      cases r <;> first | rfl | exact absurd this (by decide +kernel)
    refine sw_ret (ew_cb (aw_cons (ew_lcL hd (ew_fld hd ?_))))
    walk_at "ob"
    refine ⟨A.a, A.C, A.dx, _, _, rfl, hG.cell, HR.cl, HR.no _ (by decide +kernel), lookup_nd (i := 5) (rfs_nd _ _ _ _ _ _) rfl, ?_⟩
    refine ⟨A.ml, _, rfl, SqL.of hml, by rw [List.length_map, hG.len1]; omega, fun Dl hDl => ?_⟩
    refine ⟨fun i acc _ G => Ex F G ∧ DpAll K (newH F G) acc (((t.ms.zip w.ms).take i).map fun x => nkD (placeN w t x.2 x.1)), ⟨.refl _, .nil⟩, ?_, ?_, ?_⟩
    · rintro i acc _ G hi hg ⟨g, h⟩
      refine ⟨g.sqL (SqL.of hml), ?_⟩
      rw [dps_len h, List.length_map]
      exact List.length_take_le _ _
    · rintro i acc x _ G hi hg ⟨g, h⟩
      have hd' := hd.jd (D := Dl) (acc := acc)
      have hil : i < w.ms.length := by
        have := (List.getElem?_eq_some_iff.mp hi).1
        rw [List.length_map, hG.len1] at this
        exact this
      obtain ⟨ad, m, ss, h1, h2, h3⟩ := hG.three hil
      have hGg := hG.grow g
      have ex1 : x = .ref ad.a := by
        rw [List.getElem?_map, h1] at hi
        exact (Option.some.inj hi).symm
      subst ex1
      refine gw_name ⟨rfl, ?_⟩
      refine tw_yes ⟨fun _ => ?_, (fun z => by cases z)⟩
      refine ew_call hd' (aw_cons (ew_var rfl (aw_cons (ew_meth hd' ?_))))
      walk_at "ob"
      refine ⟨A.a, A.dx, _, rfl, hGg.cell, rfs_no (by decide +kernel), aw_nil ⟨F0, A, t, w, r, p, anew, _, rfl, rfl, rfl, hGg, hok, hm5, fun q G2 g2 hqn hq => ?_⟩⟩
      refine aw_nil ⟨F0, A, t, w, r, p, anew, _, i, ad, m, ss, q, rfl, rfl, rfl, hGg.grow g2, hok, hm5, h1, h2, h3, hq, fun G3 g3 => ⟨g.trans (g2.trans g3), ?_⟩⟩
      have ez : (t.ms.zip w.ms)[i]? = some (m, ss) := List.getElem?_zip_eq_some.mpr ⟨h2, h3⟩
      rw [List.take_succ, ez, List.map_append]
      exact dps_snoc (dps_ex (newH_ex (g2.trans g3)) h) dp_place
    · rintro acc _ G hg ⟨g, h⟩
      have hzl : (A.mads.map fun ad => V.ref ad.a).length = (t.ms.zip w.ms).length := by rw [List.length_map, List.length_zip, hG.len1, hG.len2, Nat.min_self]
      rw [hzl, List.take_length] at h
      refine aw_nil (cw_tuple hd (SqL.of upd_same) fun pt hpt => ?_)
      have g4 : Ex G (upd (upd G Dl (.lst acc)) pt (.tup acc)) := (Ex.new (.refl _) hg).trans (Ex.new (.refl _) hpt)
      refine k _ _ (g.trans g4) ?_
      rw [hr2]
      show Dp K _ _ (nkD (.tup _))
      rw [nkD, nkDs_map]
      exact .tup (SqT.of (newH_new (g.trans (Ex.new (.refl _) hg)) hpt)) (dps_ex (newH_ex g4) h)

abbrev s_picture_of : Stmt := top 44
def N_picture_of : List Str := ["run", "doing", "machine"]
theorem sc_picture_of : FnScope N_picture_of ["run"] (defScope s_picture_of) := ⟨rfl, rfl, rfl, by decide +kernel, rfl, by decide +kernel, by decide +kernel⟩
theorem ok_picture_of {f : Addr} {fd : FuncData} {f1 f2 : Addr} {fd1 fd2 : FuncData} (Fn : Fun K "picture_of" "picture_of" s_picture_of f fd) (B : Blt mg) (HR : ClsF K C rkeys) (HM : ClsF K M mkeys) (M_left : Met K M "left" f1 fd1 ["self", "beat"]) (G_left : FnOk P w K mg base CX0 2 f1 fd1 ["self", "beat"] (LS (aLeft K M))) (Cmemory_of : Cal K mg "memory_of" f2 fd2 ["run"]) (Gmemory_of : FnOk P w K mg base CX0 4 f2 fd2 ["run"] (LS (aMem K C M))) : FnOk P w K mg base CX0 5 f fd ["run"] (LS (aPic K C M)) := by
  refine Fn.ok sc_picture_of (fun vs H Q E h => ?_) (fun cdv A outer s H vs Q E hr h => ?_)
  · obtain ⟨J, F, R, hd, j, h, _⟩ := h
    obtain ⟨F0, A, t, w, r, p, anew, ex, rfl, _⟩ := h
    rfl
  · have nd := sc_picture_of.nd
    obtain ⟨J, F, R, hd, j, h, q⟩ := h
    obtain ⟨F0, A, t, w, r, p, anew, ex, rfl, rfl, rfl, hG, hok, hm5, k⟩ := h
    refine ⟨_, (pss_cons (ps_setLc (i := 1) rfl nd rfl rfl (sw_true rfl rfl rfl (by decide +kernel)) (own := [("machine", 2)]) (te := (tTup (tCons (tFld K (tVar 2) "at") (tCons (tMeth _ "left" (LS (aLeft K _)) [] E0 (tVar 2) (tCons (tFld K (tVar 0) "beat") tNil)) tNil)))) (tt := tYes) (pi_list (pe_fld (pv 0) rfl)) (blkOk_by (own := [("machine", 2)]) (N := N_picture_of) (sc := defScope s_picture_of) (by decide +kernel)) (fun _ _ _ _ _ => (pg_name (i := 2) nd rfl (Or.inl rfl))) (fun _ _ _ _ _ => pts_nil) (fun _ _ _ _ _ => (pe_tup (pa_cons (pe_fld (pv 2) rfl) (pa_cons (pe_meth (pv 2) M_left.cl M_left.m G_left (by exact hr.mono (by decide)) M_left.a .nil pass0 (pa_cons (pe_fld (pv 0) rfl) pa_nil)) pa_nil)))))
      (pss_one (ps_ret (pe_tup (pa_cons (pe_fld (pv 0) rfl) (pa_cons (pe_callTy call_tuple_of (by rfl) B.tuple (by decide +kernel) (pa_cons (pv 1) pa_nil)) (pa_cons (pe_call Gmemory_of (by exact hr.mono (by decide)) (by rfl) Cmemory_of.g Cmemory_of.k Cmemory_of.a .nil pass0 (pa_cons (pv 0) pa_nil)) pa_nil))))))), ?_⟩
    refine LS.body j q ?_
    have hml : F A.ml = some (.lst (A.mads.map fun ad => .ref ad.a)) := hG.own.ex _ _ hG.ml
    refine sw_seq (sw_asg (ew_lcL hd (ew_fld hd ?_)))
    walk_at "ob"
    refine ⟨A.a, A.C, A.dx, _, _, rfl, hG.cell, HR.cl, HR.no _ (by decide +kernel), lookup_nd (i := 5) (rfs_nd _ _ _ _ _ _) rfl, ?_⟩
    refine ⟨A.ml, _, rfl, SqL.of hml, by rw [List.length_map, hG.len1]; omega, fun Dl hDl => ?_⟩
    refine ⟨fun i acc _ G => Ex F G ∧ DpAll K (newH F G) acc ((t.ms.take i).map fun m => nkD (doN t m)), ⟨.refl _, .nil⟩, ?_, ?_, ?_⟩
    · rintro i acc _ G hi hg ⟨g, h⟩
      refine ⟨g.sqL (SqL.of hml), ?_⟩
      rw [dps_len h, List.length_map]
      exact List.length_take_le _ _
    · rintro i acc x _ G hi hg ⟨g, h⟩
      have hd' := hd.jd (D := Dl) (acc := acc)
      have hil : i < w.ms.length := by
        have := (List.getElem?_eq_some_iff.mp hi).1
        rw [List.length_map, hG.len1] at this
        exact this
      obtain ⟨ad, m, ss, h1, h2, h3⟩ := hG.three hil
      have hGg := hG.grow g
      have ex1 : x = .ref ad.a := by
        rw [List.getElem?_map, h1] at hi
        exact (Option.some.inj hi).symm
      subst ex1
      refine gw_name ⟨rfl, ?_⟩
      refine tw_yes ⟨fun _ => ?_, (fun z => by cases z)⟩
      refine ew_tup hd' (aw_cons (ew_fld hd' ?_))
      walk_at "ob"
      refine ⟨ad.a, A.M, ad.dx, _, _, rfl, hGg.mac h1 h2, HM.cl, HM.no _ (by decide +kernel), lookup_nd (i := 2) (mfs_nd _ _ _) rfl, ?_⟩
      walk_at "ob"
      refine ew_meth hd' ?_
      walk_at "ob"
      refine ⟨ad.a, ad.dx, _, rfl, hGg.mac h1 h2, mfs_no (by decide +kernel), aw_cons (ew_fld hd' ?_)⟩
      walk_at "ob"
      refine ⟨A.a, A.C, A.dx, _, _, rfl, hGg.cell, HR.cl, HR.no _ (by decide +kernel), lookup_nd (i := 4) (rfs_nd _ _ _ _ _ _) rfl, ?_⟩
      walk_at "ob"
      refine ⟨F0, ad.a, ad.dx, i, ad.sv, ss, m, _, rfl, hGg.mobj h1 h2 h3, ?_⟩
      walk_at "ob"
      refine ⟨by walk_at "ob_len", fun pt hpt => ?_⟩
      have g4 : Ex G (upd G pt (.tup [.int m.at_, leftV m t.beat])) := Ex.new (.refl _) hpt
      refine ⟨g.trans g4, ?_⟩
      rw [List.take_succ, h2, List.map_append]
      refine dps_snoc (dps_ex (newH_ex g4) h) ?_
      show Dp K _ _ (nkD (doN t m))
      unfold doN
      rw [nkD, nkDs, nkDs, nkDs, nkD]
      exact .tup (SqT.of (newH_new g hpt)) (.cons (.int _) (.cons dp_left .nil))
    · rintro acc _ G hg ⟨g, h⟩
      have hzl : (A.mads.map fun ad => V.ref ad.a).length = t.ms.length := by rw [List.length_map, hG.len1, hG.len2]
      rw [hzl, List.take_length] at h
      have g4 : Ex G (upd G Dl (.lst acc)) := Ex.new (.refl _) hg
      have hG4 := hG.grow (g.trans g4)
      have h4 := dps_ex (newH_ex g4) h
      refine gw_name ?_
      refine sw_ret (ew_tup hd (aw_cons (ew_fld hd ?_)))
      walk_at "ob"
      refine ⟨A.a, A.C, A.dx, _, _, rfl, hG4.cell, HR.cl, HR.no _ (by decide +kernel), lookup_nd (i := 1) (rfs_nd _ _ _ _ _ _) rfl, ?_⟩
      walk_at "ob"
      refine cw_tuple hd (SqL.of upd_same) fun pt hpt => ?_
      have g5 : Ex (upd G Dl (.lst acc)) (upd (upd G Dl (.lst acc)) pt (.tup acc)) := Ex.new (.refl _) hpt
      refine aw_cons (ew_call hd ?_)
      walk_at "ob"
      refine ⟨F0, A, t, w, r, p, anew, _, rfl, rfl, rfl, hG4.grow g5, hok, hm5, fun v G6 g6 dm => ?_⟩
      walk_at "ob"
      refine ⟨by walk_at "ob_len", fun pq hpq => ?_⟩
      have g7 : Ex G6 (upd G6 pq (.tup [.int t.level, .ref pt, v])) := Ex.new (.refl _) hpq
      refine k _ _ (g.trans (g4.trans (g5.trans (g6.trans g7)))) ?_
      unfold picN
      rw [nkD, nkDs, nkDs, nkDs, nkDs, nkD, nkD, nkDs_map]
      have hpt2 : newH F (upd (upd G Dl (.lst acc)) pt (.tup acc)) pt = some (.tup acc) := newH_new (g.trans g4) hpt
      exact .tup (SqT.of (newH_new (g.trans (g4.trans (g5.trans g6))) hpq)) (.cons (.int _) (.cons (.tup (SqT.of (newH_ex (g6.trans g7) _ _ hpt2)) (dps_ex (newH_ex (g5.trans (g6.trans g7))) h4)) (.cons (dp_ex (newH_ex g7) (dp_ex (newH_from (g.trans (g4.trans g5))) dm)) .nil)))
end
end Obr
namespace Obr
/-! ### runs of beats (mathematics only; machines don't begin anew) -/
structure LInv (w : Wld) (t : LSt) : Prop where
  ok : LOk w t
  l0 : 0 ≤ t.level
  l1 : t.level ≤ w.cap
  ov : ∀ (k : Nat) (m : Mac), t.ms[k]? = some m → 0 ≤ m.over → t.beat ≤ m.over
  en : ∀ (k : Nat) (m : Mac) (ss : List Stp), t.ms[k]? = some m → w.ms[k]? = some ss → (m.at_ = ss.length → m.ends = some m.since) ∧ (m.at_ < ss.length → m.ends = none)
/-- how much is to be done yet -/
def phi (ss : List Stp) (b : Int) (m : Mac) : Int := if m.over < 0 then 10 * (ss.length - m.at_) else (m.over - b + 1) + 10 * (ss.length - m.at_ - 1)
structure MStep (cap b : Int) (ss : List Stp) (m m' : Mac) (began : Prop) : Prop where
  ok : MacOk ss m'
  ov : 0 ≤ m'.over → b + 1 ≤ m'.over
  en : (m'.at_ = ss.length → m'.ends = some m'.since) ∧ (m'.at_ < ss.length → m'.ends = none)
  ph : phi ss (b + 1) m' ≤ phi ss b m
  ph2 : began ∨ 0 ≤ m.over → phi ss (b + 1) m' < phi ss b m
  wt : m'.waits = m.waits + (if m'.over < 0 ∧ m'.at_ < ss.length then 1 else 0)
  keep : m.over < 0 → ¬ began → m'.at_ = m.at_ ∧ m'.over = m.over ∧ m'.since = m.since ∧ m'.ends = m.ends ∧ m'.done = m.done
  idle : began → 0 ≤ m'.over
/-! the store -/
/-! a beat, whole -/
structure BStep (w : Wld) (t t' : LSt) (bg : List Int) : Prop where
  inv : LInv w t'
  beat : t'.beat = t.beat + 1
  ms : ∀ (k : Nat) (m : Mac) (ss : List Stp), t.ms[k]? = some m → w.ms[k]? = some ss → ∃ m', t'.ms[k]? = some m' ∧ MStep w.cap t.beat ss m m' ((k : Int) ∈ bg)
theorem ms_both {w : Wld} {t : LSt} (h : t.ms.length = w.ms.length) {k : Nat} {m : Mac} (hm : t.ms[k]? = some m) : ∃ ss, w.ms[k]? = some ss := ⟨_, List.getElem?_eq_getElem (by rw [← h]; exact (List.getElem?_eq_some_iff.mp hm).1)⟩
theorem ms_both' {w : Wld} {t : LSt} (h : t.ms.length = w.ms.length) {k : Nat} {ss : List Stp} (hs : w.ms[k]? = some ss) : ∃ m, t.ms[k]? = some m := ⟨_, List.getElem?_eq_getElem (by rw [h]; exact (List.getElem?_eq_some_iff.mp hs).1)⟩
/-! how much is to be done yet, in all -/
def PhiL : List (List Stp) → Int → List Mac → Int
  | ss :: l, b, m :: ms => phi ss b m + PhiL l b ms
  | _, _, _ => 0
def Phi (w : Wld) (t : LSt) : Int := PhiL w.ms t.beat t.ms
def Idle (t : LSt) : Prop := ∀ (k : Nat) (m : Mac), t.ms[k]? = some m → m.over < 0
def meas (w : Wld) (t : LSt) : Nat := (Phi w t * 100 + (w.cap - t.level)).toNat
end Obr
namespace Obr
/-! ### when nothing more is done (mathematics only) -/
/-- nothing more is ever begun -/
structure Dead (w : Wld) (r : Rgt) (p : Bool) (t' : LSt) : Prop where
  ex : ∃ t lv, LInv w t ∧ LBeat w r p false t t' lv []
  idle : Idle t'
  lev : minI w.cap (t'.level + w.refill) = t'.level
/-- x and y draw alike -/
structure Rel (x y : LSt × List Int × Bool) : Prop where
  at_ : ∀ k : Nat, (y.1.ms[k]?).map Mac.at_ = (x.1.ms[k]?).map Mac.at_
  lev : y.1.level = x.1.level
  open_ : y.2.2 = x.2.2
/-- alike in what is answered: when each is at its end, and how often it waited till then -/
def AnsEq (w : Wld) (t t' : LSt) : Prop := ∀ (k : Nat) (m m' : Mac) (ss : List Stp), t.ms[k]? = some m → t'.ms[k]? = some m' → w.ms[k]? = some ss → m'.at_ = m.at_ ∧ m'.ends = m.ends ∧ (m.at_ = ss.length → m'.waits = m.waits ∧ m'.since = m.since)
def AllDone (w : Wld) (t : LSt) : Prop := ∀ (k : Nat) (m : Mac) (ss : List Stp), t.ms[k]? = some m → w.ms[k]? = some ss → m.at_ = ss.length
/-- nothing more comes to an end -/
def Settled (w : Wld) (r : Rgt) (p : Bool) (t : LSt) : Prop := AllDone w t ∨ Dead w r p t
/-- what comes after n beats -/
inductive LPath (w : Wld) (r : Rgt) (p : Bool) : Nat → LSt → Prop
  | zero : LPath w r p 0 (lBegun w)
  | succ {n : Nat} {t t' : LSt} {lv : Int} {bg : List Int} (h : LPath w r p n t) (b : LBeat w r p false t t' lv bg) : LPath w r p (n + 1) t'
/-! the program's stop, and the law's -/
/-- q quiet beats in a row came last -/
structure QInv (w : Wld) (r : Rgt) (p : Bool) (q : Nat) (t : LSt) : Prop where
  h : 1 ≤ q → Idle t ∧ (∃ t0 lv, LInv w t0 ∧ LBeat w r p false t0 t lv []) ∧ minI w.cap (((q : Int) - 1) * w.refill) ≤ t.level
end Obr
namespace Obr
open PySem L2 PyProof.Rows
local macro_rules | `(tactic| walk_at "ob_at") => `(tactic| first
  | assumption
  | exact upd_same
  | (refine Eq.trans (upd_ne ?obn) ?obr; (case obn => walk_at "ob_ne"); (case obr => walk_at "ob_at")))
local macro_rules | `(tactic| walk_at "ob_ne") => `(tactic| first
  | assumption
  | (refine Ne.symm ?obs; (case obs => assumption))
  | (refine' ne_of_none (H := ?_) ?obe ?obh; (case obh => assumption); (case obe => walk_at "ob_at"))
  | (refine Ne.symm ?obs; (case obs => (refine' ne_of_none (H := ?_) ?obe ?obh; (case obh => assumption); (case obe => walk_at "ob_at")))))
local macro_rules | `(tactic| walk_at "ob_fr") => `(tactic| first
  | assumption
  | (refine Eq.trans (upd_ne ?obn) ?obr; (case obn => walk_at "ob_ne"); (case obr => walk_at "ob_fr"))
  | (refine Ex.free (G := ?_) (by assumption) ?obh; (case obh => walk_at "ob_fr")))
local macro_rules | `(tactic| walk_at "ob_ex") => `(tactic| first
  | assumption
  | exact Ex.refl _
  | (refine Ex.out ?obg ?obh; (case obh => assumption); (case obg => walk_at "ob_ex"))
  | (refine Ex.new ?obg ?obh; (case obh => assumption); (case obg => walk_at "ob_ex"))
  | (refine Ex.new ?obg ?obh; (case obh => walk_at "ob_fr"); (case obg => walk_at "ob_ex")))
local macro_rules | `(tactic| walk_at "ob_sq") => `(tactic| first
  | assumption
  | (refine SqL.of ?oba; (case oba => walk_at "ob_at"))
  | (refine Ex.sqT (F := ?_) ?obg ?obh; (case obh => assumption); (case obg => walk_at "ob_ex"))
  | (refine Ex.sqL (F := ?_) ?obg ?obh; (case obh => assumption); (case obg => walk_at "ob_ex"))
  | (refine SqT.of ?oba; (case oba => walk_at "ob_at")))
local macro_rules | `(tactic| walk_at "ob_side") => `(tactic| first | exact rfl | assumption | decide | omega | exact ⟨by decide, by decide, by decide⟩ | exact Or.inr ⟨by decide, by decide⟩ | exact Or.inl ⟨by decide, by decide⟩ | exact wide_div (b := 60) (by first | decide | omega) (by first | decide | omega) (by decide) (by decide))
local macro_rules | `(tactic| walk_at "ob1") => `(tactic| first
  | with_reducible refine sw_seq ?_
  | with_reducible refine sw_asg ?_
  | with_reducible refine sw_ret ?_
  | with_reducible refine sw_par ?_
  | with_reducible refine ⟨_, _, rfl, ?_⟩
  | with_reducible refine sw_drop ?_
  | with_reducible refine sw_if ?_
  | with_reducible refine sw_next ?_
  | with_reducible refine gw_name ?_
  | with_reducible refine gw_subL (by assumption) ?_
  | with_reducible refine gsw_cons ?_
  | with_reducible refine gsw_nil ?_
  | with_reducible refine ew_c ?_
  | ((with_reducible refine' ew_var (v := ?_) ?obv ?_); (case obv => exact rfl))
  | ((with_reducible refine ew_next (by assumption) ?obv ?_); (case obv => exact rfl))
  | ((with_reducible refine ew_world (by assumption) ?obv ?_); (case obv => exact rfl))
  | ((with_reducible refine ew_rule (by assumption) ?obv ?_); (case obv => exact rfl))
  | with_reducible refine ew_op ?_
  | with_reducible refine ew_un ?_
  | with_reducible refine ew_dget (by assumption) ?_
  | with_reducible refine uw_I ?_
  | with_reducible refine ppw_nil ?_
  | with_reducible refine ppw_cons ?_
  | with_reducible refine sw_dput (by assumption) ?_
  | with_reducible refine ew_cb ?_
  | with_reducible refine ew_if ?_
  | with_reducible refine ew_slL (by assumption) ?_
  | with_reducible refine ow_some ?_
  | with_reducible refine ow_none ?_
  | with_reducible refine aw_nil ?_
  | with_reducible refine aw_cons ?_
  | with_reducible refine rw_I0 ?_
  | ((with_reducible refine rw_I ?obc ?_); (case obc => walk_at "ob_side"))
  | with_reducible refine rw_isN ?_
  | with_reducible refine rw_notN ?_
  | ((with_reducible refine rw_eq ?obc ?_); (case obc => exact rfl))
  | ((with_reducible refine rw_ne ?obc ?_); (case obc => exact rfl))
  | with_reducible refine cw_max2 ?_
  | with_reducible refine cw_min2 ?_
  | with_reducible refine tw_test ?_
  | with_reducible refine tw_B ?_
  | with_reducible refine tw_not ?_
  | with_reducible refine tw_truB ?_
  | with_reducible refine tw_and ?_
  | with_reducible refine tw_or ?_
  | with_reducible refine ew_and ?_
  | (refine' Exists.intro _ (And.intro (show V.bl _ = V.bl _ from rfl) ?_))
  | (refine' Exists.intro _ (And.intro (show V.int _ = V.int _ from rfl) ?_))
  | ((with_reducible refine' rw_ixL (v := ?_) (xs := ?_) (by assumption) ?obl ?oba ?_); (case obl => walk_at "ob_sq"); (case oba => first | exact rfl | exact at_zero))
  | ((with_reducible refine' rw_ixT (v := ?_) (xs := ?_) (by assumption) ?obl ?oba ?_); (case obl => walk_at "ob_sq"); (case oba => first | exact rfl | exact at_zero))
  | ((with_reducible refine' ew_lst (by assumption) ?_))
  | ((with_reducible refine' ew_tup (by assumption) ?_)))
local macro_rules | `(tactic| walk_at "ob_len") => `(tactic| first | exact Nat.le_of_ble_eq_true rfl | (simp; done) | omega)
local macro_rules | `(tactic| walk_at "ob") => `(tactic| repeat walk_at "ob1")

/-! ### run_out, ends, waits -/
def rGetL (K : PySem.W.Frag) : V → V → Hp → VK → Prop := fun o i H Q => ∃ p xs k v, o = .ref p ∧ i = .int k ∧ SqL K H p xs ∧ 0 ≤ k ∧ k < 1000000 ∧ xs[k.toNat]? = some v ∧ Q v H
theorem get_list {X : Cx} : PGet X (rGetL X.K) := by
  intro pins s σ H o i ov iv Q I ro ri h
  obtain ⟨p, xs, k, v, rfl, rfl, hq, h0, h1, hv, q⟩ := h
  cases ro
  obtain ⟨t, rfl⟩ := ri
  obtain ⟨its, r, pl, hz⟩ := I.list hq
  obtain ⟨w, ew, rw'⟩ := r.get hv
  have hn := line63
  have fin : EP X pins σ Q w s := ⟨v, H, I, rw', q⟩
  exact wpAny_getItem_list pl.isList h0 (by omega) (by simpa using ew) fin
theorem sw_augS {S : Type} {J : S → Hp → Hp → Prop} {K : PySem.W.Frag} {σ : L2.St} {s : S} {F : Hp} {to ti te : TE} {D : En S} {f : Int → Int → Int} (hd : Hid J)
    (h : EW J to σ s F fun o s1 F1 => EW J ti σ s1 F1 fun i s2 F2 => ∃ p xs k a, o = .ref p ∧ i = .int (k : Nat) ∧ F2 p = some (.lst xs) ∧ k < 1000000 ∧ xs[k]? = some (.int a) ∧ EW J te σ s2 F2 fun y s3 F3 => ∃ b, y = .int b ∧ F3 p = some (.lst xs) ∧ D.nx σ s3 (upd F3 p (.lst (xs.set k (.int (f a b)))))) :
    SW J (tAugS to ti te (rGetL K) (ipI f) rSetL) D σ s F := fun H j D' l =>
  h H j _ fun o s1 F1 H1 j1 h1 => h1 H1 j1 _ fun i s2 F2 H2 j2 ⟨p, xs, k, a, eo, ei, hf, hk, hx, h3⟩ =>
    ⟨p, xs, k, .int a, eo, ei, hd.sqL j2 (SqL.of hf), by omega, by omega, by rw [Int.toNat_natCast]; exact hx, h3 H2 j2 _ fun y s3 F3 H3 j3 ⟨b, ey, hf3, q⟩ =>
      ⟨a, b, rfl, ey, p, xs, k, k, eo, ei, hd.ex j3 _ _ hf3, by
        have hl := (List.getElem?_eq_some_iff.mp hx).1
        unfold ixN
        rw [if_pos (by omega), if_pos (by omega), Int.toNat_natCast], l.nx _ _ _ _ (hd.mu j3 hf3) q⟩⟩
def endV (m : Mac) (n : Int) : V := if m.at_ = n then .int m.since else .non
def waitV (m : Mac) (n : Int) : V := if m.at_ = n then .int m.waits else .non
def aRunOut (K : PySem.W.Frag) (C M : Addr) : List V → Hp → VK → Prop := fun vs F R => ∃ (F0 : Hp) (A : RAd) (w : Wld) (r : Rgt) (p : Bool), vs = [.ref A.a] ∧ A.C = C ∧ A.M = M ∧ RunAt K F0 F A (lBegun w) w r p false [] ∧ WldOk w ∧
  ∀ (q : Addr) (F' : Hp) (n : Nat) (t : LSt), LPath w r p n t → Settled w r p t → RunAt K F0 F' A t w r p false [(q, .lst (t.ms.map fun m => .int m.waits))] → R (.ref q) F'
/-- what is there, machine by machine, of the answers -/
def answers (w : Wld) (t : LSt) (f : Mac → Int → V) : List V := (t.ms.zip w.ms).map fun x => f x.1 x.2.length
def aEndsP (K : PySem.W.Frag) : List V → Hp → VK → Prop := fun vs F R => ∃ (wv rv : V) (w : Wld) (r : Rgt) (p : Bool), vs = [wv, rv] ∧ Dp K F wv (wldD w) ∧ Dp K F rv (rulD r p) ∧ WldOk w ∧
  ∀ (q : Addr) (F' : Hp) (n : Nat) (t : LSt), LPath w r p n t → Settled w r p t → Ex F F' → F q = none → F' q = some (.lst (answers w t endV)) → R (.ref q) F'
def aWaitsP (K : PySem.W.Frag) : List V → Hp → VK → Prop := fun vs F R => ∃ (wv rv : V) (w : Wld) (r : Rgt) (p : Bool), vs = [wv, rv] ∧ Dp K F wv (wldD w) ∧ Dp K F rv (rulD r p) ∧ WldOk w ∧
  ∀ (q : Addr) (F' : Hp) (n : Nat) (t : LSt), LPath w r p n t → Settled w r p t → Ex F F' → F q = none → F' q = some (.lst (answers w t waitV)) → R (.ref q) F'
/-- waits of the machines below i are those of t', the others' those of t -/
def wmix (t t' : LSt) (i : Nat) : List V := (t'.ms.take i).map (fun m => V.int m.waits) ++ (t.ms.drop i).map (fun m => V.int m.waits)
/-- how many of the first i machines of t' wait: what the loop over them has added -/
def bump (w : Wld) (t t' : LSt) (cs : List Clm) : List V := (List.range t.ms.length).map fun k => match t.ms[k]? with
  | some m => V.int (m.waits + (if (k : Int) ∈ cs.map Clm.k then 1 else 0))
  | none => V.non
section
variable {P : Program} {w : World} {K : PySem.W.Frag} {mg : Str → Option Value} {base : Heap} {C M : Addr}
end
end Obr
namespace Obr
open PySem L2 PyProof.Rows
/-! ### machines that begin anew: their beats, their tallies -/
inductive RPath (w : Wld) (r : Rgt) (p : Bool) : Nat → LSt → Prop
  | zero : RPath w r p 0 (lBegun w)
  | succ {n : Nat} {t t' : LSt} {lv : Int} {bg : List Int} (h : RPath w r p n t) (b : LBeat w r p true t t' lv bg) : RPath w r p (n + 1) t'
theorem begun_ok {w : Wld} : LOk w (lBegun w) := by
  refine ⟨Int.le_refl 0, fun k m ss h1 h2 => ?_, by unfold lBegun; simp⟩
  unfold lBegun at h1
  rw [List.getElem?_map, h2] at h1
  have e := Option.some.inj h1
  rw [← e]
  exact ⟨Int.le_refl 0, Int.natCast_nonneg _, fun z => absurd z (by show ¬ (0 : Int) ≤ -1; decide)⟩
theorem RPath.ok {w : Wld} {r : Rgt} {p : Bool} : ∀ {n t}, RPath w r p n t → LOk w t
  | _, _, .zero => begun_ok
  | _, _, .succ h b => beat_ok h.ok b
theorem RPath.beat {w : Wld} {r : Rgt} {p : Bool} : ∀ {n t}, RPath w r p n t → t.beat = n
  | _, _, .zero => rfl
  | _, _, .succ h b => by
    rw [(beat_ms h.ok b).2.1, h.beat]
    omega
theorem RPath.uniq {w : Wld} {r : Rgt} {p : Bool} : ∀ {n a b}, RPath w r p n a → RPath w r p n b → a = b
  | _, _, _, .zero, .zero => rfl
  | _, _, _, .succ h b, .succ h' b' => by
    obtain rfl := h.uniq h'
    exact (beat_uniq b b').1
theorem RPath.back {w : Wld} {r : Rgt} {p : Bool} {n : Nat} {t : LSt} (h : RPath w r p n t) : ∀ i : Nat, i ≤ n → ∃ ti, RPath w r p i ti := by
  induction h with
  | zero => intro i hi; exact ⟨_, (by have : i = 0 := by omega
                                      subst this; exact .zero)⟩
  | succ h b ih =>
    rename_i n t t' lv bg
    intro i hi
    by_cases e : i = n + 1
    · subst e; exact ⟨_, .succ h b⟩
    · exact ih i (by omega)
theorem endM_done {anew : Bool} {b : Int} {ss : List Stp} {m : Mac} (h : MacOk ss m) (hb : 0 ≤ b) : (endM anew b ss m).done = m.done + if m.over = b then 1 else 0 := by
  unfold endM
  by_cases e : m.over = b
  · have hlt := h.o (by omega)
    have h0 := h.a0
    rw [if_pos e, if_pos e, List.getElem?_eq_getElem (show m.at_.toNat < ss.length by omega)]
    simp only []
    split <;> rfl
  · rw [if_neg e, if_neg e]; omega
theorem beat_done {w : Wld} {r : Rgt} {p anew : Bool} {t t' : LSt} {lv : Int} {bg : List Int} (h : LOk w t) (b : LBeat w r p anew t t' lv bg) {k : Nat} {m m' : Mac} (h1 : t.ms[k]? = some m) (h2 : t'.ms[k]? = some m') : m'.done = m.done + if m.over = t.beat then 1 else 0 := by
  obtain ⟨hl, hbt, hst⟩ := beat_ms h b
  obtain ⟨ss, hs⟩ := ms_both h.len h1
  obtain ⟨m2, g1, g2⟩ := hst k m ss h1 hs
  rw [h2] at g1
  cases g1
  rw [← endM_done (anew := anew) (h.m k m ss h1 hs) h.b]
  by_cases c : (endM anew t.beat ss m).over < 0 ∧ (endM anew t.beat ss m).at_ < ss.length
  · obtain ⟨st, _, hd⟩ := g2.yes c
    rcases hd with ⟨_, rfl⟩ | ⟨_, rfl⟩ <;> rfl
  · rw [(g2.no c).1]
theorem overs_mem {t : LSt} {k : Nat} : ∀ {n : Nat}, (k : Int) ∈ overs t n ↔ k < n ∧ ∃ m, t.ms[k]? = some m ∧ m.over = t.beat
  | 0 => by simp [overs]
  | n + 1 => by
    rw [overs, List.mem_append, overs_mem]
    constructor
    · rintro (⟨h1, h2⟩ | h)
      · exact ⟨by omega, h2⟩
      · cases hm : t.ms[n]? with
        | none => rw [hm] at h; cases h
        | some m =>
          rw [hm] at h
          simp only [] at h
          by_cases c : m.over = t.beat
          · rw [if_pos c] at h
            have : (k : Int) = n := List.mem_singleton.mp h
            have e : k = n := by omega
            subst e
            exact ⟨by omega, m, hm, c⟩
          · rw [if_neg c] at h; cases h
    · rintro ⟨h1, m, h2, h3⟩
      by_cases e : k = n
      · subst e
        refine Or.inr ?_
        rw [h2]
        simp only []
        rw [if_pos h3]
        exact List.mem_singleton.mpr rfl
      · exact Or.inl ⟨by omega, m, h2, h3⟩
theorem overs_form {t : LSt} : ∀ {n : Nat} {x : Int}, x ∈ overs t n → ∃ k : Nat, x = (k : Int) ∧ k < n
  | 0, x, h => by cases h
  | n + 1, x, h => by
    rw [overs, List.mem_append] at h
    rcases h with h | h
    · obtain ⟨k, e, hk⟩ := overs_form h
      exact ⟨k, e, by omega⟩
    · split at h
      · split at h
        · exact ⟨n, List.mem_singleton.mp h, by omega⟩
        · cases h
      · cases h
theorem overs_nd {t : LSt} : ∀ n : Nat, (overs t n).Nodup
  | 0 => List.nodup_nil
  | n + 1 => by
    rw [overs, List.nodup_append]
    refine ⟨overs_nd n, ?_, ?_⟩
    · split
      · split
        · simp
        · exact List.nodup_nil
      · exact List.nodup_nil
    · intro a ha b hb e
      obtain ⟨k, ek, hk⟩ := overs_form ha
      have : b = (n : Int) := by
        split at hb
        · split at hb
          · exact List.mem_singleton.mp hb
          · cases hb
        · cases hb
      omega
/-- the tally, with one more for each of these -/
def tbump (t : LSt) (ks : List Int) : List V := (List.range t.ms.length).map fun k => match t.ms[k]? with
  | some m => V.int (m.done + if (k : Int) ∈ ks then 1 else 0)
  | none => V.non
theorem tbump_get {t : LSt} {ks : List Int} (j : Nat) : (tbump t ks)[j]? = (t.ms[j]?).map fun m => V.int (m.done + if (j : Int) ∈ ks then 1 else 0) := by
  unfold tbump
  rw [List.getElem?_map]
  by_cases h : j < t.ms.length
  · rw [List.getElem?_range h, List.getElem?_eq_getElem h]
    simp [h]
  · rw [List.getElem?_eq_none (by simp; omega), List.getElem?_eq_none (by omega)]
    rfl
theorem tbump_nil {t : LSt} : tbump t [] = (t.ms.map Mac.done).map V.int := by
  refine List.ext_getElem? fun k => ?_
  rw [tbump_get, List.getElem?_map, List.getElem?_map]
  cases t.ms[k]? with
  | none => rfl
  | some m => simp
theorem tbump_set {t : LSt} {ks : List Int} {k : Nat} {m : Mac} (hm : t.ms[k]? = some m) (hn : (k : Int) ∉ ks) : (tbump t ks).set k (.int (m.done + 1)) = tbump t (ks ++ [(k : Int)]) ∧ (tbump t ks)[k]? = some (.int m.done) := by
  refine ⟨List.ext_getElem? fun j => ?_, ?_⟩
  · rw [set_get, tbump_get, tbump_get]
    by_cases e : k = j
    · subst e
      rw [if_pos rfl, hm]
      simp
    · rw [if_neg e]
      have e2 : ((j : Int) ∈ ks ++ [(k : Int)]) ↔ ((j : Int) ∈ ks) := by
        rw [List.mem_append]
        refine ⟨fun z => ?_, Or.inl⟩
        rcases z with z | z
        · exact z
        · have := List.mem_singleton.mp z
          omega
      simp only [e2]
  · rw [tbump_get, hm]
    simp [hn]
theorem tbump_all {w : Wld} {r : Rgt} {p anew : Bool} {t t' : LSt} {lv : Int} {bg : List Int} (h : LOk w t) (b : LBeat w r p anew t t' lv bg) : tbump t (overs t w.ms.length) = (t'.ms.map Mac.done).map V.int := by
  have hl := (beat_ms h b).1
  refine List.ext_getElem? fun k => ?_
  rw [tbump_get, List.getElem?_map, List.getElem?_map]
  by_cases c : k < w.ms.length
  · have h1 : t.ms[k]? = some (t.ms[k]'(by rw [h.len]; exact c)) := List.getElem?_eq_getElem _
    have h2 : t'.ms[k]? = some (t'.ms[k]'(by rw [hl]; exact c)) := List.getElem?_eq_getElem _
    rw [h1, h2]
    show some (V.int _) = some (V.int _)
    rw [beat_done h b h1 h2]
    congr 3
    by_cases d : (t.ms[k]'(by rw [h.len]; exact c)).over = t.beat
    · rw [if_pos d, if_pos (overs_mem.mpr ⟨c, _, h1, d⟩)]
    · rw [if_neg d, if_neg]
      intro z
      obtain ⟨_, m, e1, e2⟩ := overs_mem.mp z
      rw [h1] at e1
      cases e1
      exact d e2
  · rw [List.getElem?_eq_none (by rw [h.len]; omega), List.getElem?_eq_none (by rw [hl]; omega)]
    rfl
/-- the tallies of the first n beats -/
def TalOk (w : Wld) (r : Rgt) (p : Bool) (n : Nat) (TS : List (List Int)) : Prop := TS.length = n + 1 ∧ ∀ (i : Nat) (ti : LSt), i ≤ n → RPath w r p i ti → TS[i]? = some (ti.ms.map Mac.done)
def talD (x : List Int) : PyData := .tuple (x.map PyData.int)
theorem tal_next {w : Wld} {r : Rgt} {p : Bool} {n : Nat} {TS : List (List Int)} {t' : LSt} (h : TalOk w r p n TS) (h' : RPath w r p (n + 1) t') : TalOk w r p (n + 1) (TS ++ [t'.ms.map Mac.done]) := by
  refine ⟨by rw [List.length_append, h.1]; rfl, fun i ti hi hp => ?_⟩
  by_cases e : i = n + 1
  · subst e
    obtain rfl := hp.uniq h'
    rw [List.getElem?_append_right (by rw [h.1]; exact Nat.le_refl _), h.1, Nat.sub_self]
    rfl
  · rw [List.getElem?_append_left (by rw [h.1]; omega)]
    exact h.2 i ti (by omega) hp
/-- the first two beats from 1 on ahead of which all is alike -/
structure Round (w : Wld) (r : Rgt) (p : Bool) (n1 n2 : Nat) : Prop where
  o : 1 ≤ n1
  lt : n1 < n2
  most : n2 ≤ 5000
  same : ∃ t1 t2, RPath w r p n1 t1 ∧ RPath w r p n2 t2 ∧ picN w r t1 = picN w r t2
  first : ∀ i j : Nat, 1 ≤ i → i < j → j < n2 → ∀ ti tj, RPath w r p i ti → RPath w r p j tj → picN w r ti ≠ picN w r tj
/-- what has been seen ahead of beats 1 to n -/
structure Seen (w : Wld) (r : Rgt) (p : Bool) (n : Nat) (xs : NKs) : Prop where
  len : xs.length = n
  get : ∀ (i : Nat) (x : NestedKey × Addr × V), xs[i]? = some x → x.2.2 = .int ((i : Int) + 1) ∧ ∃ ti, RPath w r p (i + 1) ti ∧ x.1 = picN w r ti
  nd : (xs.map (·.1)).Nodup
theorem seen_zero {w : Wld} {r : Rgt} {p : Bool} : Seen w r p 0 [] := ⟨rfl, fun i x h => (by simp at h), List.nodup_nil⟩
theorem seen_next {w : Wld} {r : Rgt} {p : Bool} {n : Nat} {xs : NKs} {t' : LSt} {a : Addr} (h : Seen w r p n xs) (h' : RPath w r p (n + 1) t') (hn : picN w r t' ∉ xs.map (·.1)) : Seen w r p (n + 1) (xs ++ [(picN w r t', a, .int ((n : Int) + 1))]) := by
  refine ⟨by rw [List.length_append, h.len]; rfl, fun i x hx => ?_, ?_⟩
  · by_cases e : i < xs.length
    · rw [List.getElem?_append_left e] at hx
      exact h.get i x hx
    · rw [List.getElem?_append_right (by omega)] at hx
      have ei : i = n := by
        have := (List.getElem?_eq_some_iff.mp hx).1
        rw [List.length_singleton, h.len] at this
        have := h.len
        omega
      subst ei
      rw [h.len, Nat.sub_self] at hx
      cases hx
      exact ⟨rfl, t', h', rfl⟩
  · rw [List.map_append, List.nodup_append]
    refine ⟨h.nd, by simp, fun a ha b hb e => ?_⟩
    have : b = picN w r t' := by simpa using hb
    rw [e, this] at ha
    exact hn ha
/-- two alike: not both seen -/
theorem seen_apart {w : Wld} {r : Rgt} {p : Bool} {n : Nat} {xs : NKs} (h : Seen w r p n xs) {i j : Nat} {ti tj : LSt} (hi : 1 ≤ i) (hij : i < j) (hj : j ≤ n) (h1 : RPath w r p i ti) (h2 : RPath w r p j tj) : picN w r ti ≠ picN w r tj := fun e => by
  have hl := h.len
  have g1 : xs[i - 1]? = some (xs[i - 1]'(by omega)) := List.getElem?_eq_getElem _
  have g2 : xs[j - 1]? = some (xs[j - 1]'(by omega)) := List.getElem?_eq_getElem _
  obtain ⟨_, t1, p1, e1⟩ := h.get _ _ g1
  obtain ⟨_, t2, p2, e2⟩ := h.get _ _ g2
  rw [show i - 1 + 1 = i from by omega] at p1
  rw [show j - 1 + 1 = j from by omega] at p2
  obtain rfl := p1.uniq h1
  obtain rfl := p2.uniq h2
  have k1 : (xs.map (·.1))[i - 1]? = some (picN w r t1) := by rw [List.getElem?_map, g1, ← e1]; rfl
  have k2 : (xs.map (·.1))[j - 1]? = some (picN w r t1) := by rw [List.getElem?_map, g2, e, ← e2]; rfl
  have := nd_ix h.nd k1 k2
  omega
theorem round_found {w : Wld} {r : Rgt} {p : Bool} {n : Nat} {xs : NKs} {t' : LSt} (h : Seen w r p n xs) (h' : RPath w r p (n + 1) t') (hn : n < 5000) (hm : picN w r t' ∈ xs.map (·.1)) : ∃ n1 : Nat, nAt xs (picN w r t') = some (.int n1) ∧ Round w r p n1 (n + 1) := by
  have hs : (nAt xs (picN w r t')).isSome = true := by rw [nAt_isSome]; exact decide_eq_true hm
  obtain ⟨v, hv⟩ := Option.isSome_iff_exists.mp hs
  have hv2 := hv
  unfold nAt at hv2
  obtain ⟨x, hx, ex⟩ := Option.map_eq_some_iff.mp hv2
  have hxk := List.find?_some hx
  simp only [decide_eq_true_eq] at hxk
  obtain ⟨i, hi⟩ := List.getElem?_of_mem (List.mem_of_find?_eq_some hx)
  obtain ⟨e1, ti, p1, e2⟩ := h.get i x hi
  have hil : i < n := by
    have := (List.getElem?_eq_some_iff.mp hi).1
    have := h.len
    omega
  refine ⟨i + 1, by rw [hv, ← ex, e1]; rfl, by omega, by omega, by omega, ⟨ti, t', p1, h', e2.symm.trans hxk⟩, fun a b ha hab hb ta tb pa pb => seen_apart h ha hab (by omega) pa pb⟩
end Obr
namespace Obr
open PySem L2 PyProof.Rows
local macro_rules | `(tactic| walk_at "ob_at") => `(tactic| first
  | assumption
  | exact upd_same
  | (refine Eq.trans (upd_ne ?obn) ?obr; (case obn => walk_at "ob_ne"); (case obr => walk_at "ob_at")))
local macro_rules | `(tactic| walk_at "ob_ne") => `(tactic| first
  | assumption
  | (refine Ne.symm ?obs; (case obs => assumption))
  | (refine' ne_of_none (H := ?_) ?obe ?obh; (case obh => assumption); (case obe => walk_at "ob_at"))
  | (refine Ne.symm ?obs; (case obs => (refine' ne_of_none (H := ?_) ?obe ?obh; (case obh => assumption); (case obe => walk_at "ob_at")))))
local macro_rules | `(tactic| walk_at "ob_fr") => `(tactic| first
  | assumption
  | (refine Eq.trans (upd_ne ?obn) ?obr; (case obn => walk_at "ob_ne"); (case obr => walk_at "ob_fr"))
  | (refine Ex.free (G := ?_) (by assumption) ?obh; (case obh => walk_at "ob_fr")))
local macro_rules | `(tactic| walk_at "ob_ex") => `(tactic| first
  | assumption
  | exact Ex.refl _
  | (refine Ex.out ?obg ?obh; (case obh => assumption); (case obg => walk_at "ob_ex"))
  | (refine Ex.new ?obg ?obh; (case obh => assumption); (case obg => walk_at "ob_ex"))
  | (refine Ex.new ?obg ?obh; (case obh => walk_at "ob_fr"); (case obg => walk_at "ob_ex")))
local macro_rules | `(tactic| walk_at "ob_sq") => `(tactic| first
  | assumption
  | (refine SqL.of ?oba; (case oba => walk_at "ob_at"))
  | (refine Ex.sqT (F := ?_) ?obg ?obh; (case obh => assumption); (case obg => walk_at "ob_ex"))
  | (refine Ex.sqL (F := ?_) ?obg ?obh; (case obh => assumption); (case obg => walk_at "ob_ex"))
  | (refine SqT.of ?oba; (case oba => walk_at "ob_at")))
local macro_rules | `(tactic| walk_at "ob_side") => `(tactic| first | exact rfl | assumption | decide | omega | exact ⟨by decide, by decide, by decide⟩ | exact Or.inr ⟨by decide, by decide⟩ | exact Or.inl ⟨by decide, by decide⟩ | exact wide_div (b := 60) (by first | decide | omega) (by first | decide | omega) (by decide) (by decide))
local macro_rules | `(tactic| walk_at "ob1") => `(tactic| first
  | with_reducible refine sw_seq ?_
  | with_reducible refine sw_asg ?_
  | with_reducible refine sw_ret ?_
  | with_reducible refine sw_par ?_
  | with_reducible refine ⟨_, _, rfl, ?_⟩
  | with_reducible refine sw_drop ?_
  | with_reducible refine sw_if ?_
  | with_reducible refine sw_next ?_
  | with_reducible refine gw_name ?_
  | with_reducible refine gw_subL (by assumption) ?_
  | with_reducible refine gsw_cons ?_
  | with_reducible refine gsw_nil ?_
  | with_reducible refine ew_c ?_
  | ((with_reducible refine' ew_var (v := ?_) ?obv ?_); (case obv => exact rfl))
  | ((with_reducible refine ew_next (by assumption) ?obv ?_); (case obv => exact rfl))
  | ((with_reducible refine ew_world (by assumption) ?obv ?_); (case obv => exact rfl))
  | ((with_reducible refine ew_rule (by assumption) ?obv ?_); (case obv => exact rfl))
  | with_reducible refine ew_op ?_
  | with_reducible refine ew_un ?_
  | with_reducible refine ew_dget (by assumption) ?_
  | with_reducible refine uw_I ?_
  | with_reducible refine ppw_nil ?_
  | with_reducible refine ppw_cons ?_
  | with_reducible refine sw_dput (by assumption) ?_
  | with_reducible refine ew_cb ?_
  | with_reducible refine ew_if ?_
  | with_reducible refine ew_slL (by assumption) ?_
  | with_reducible refine ow_some ?_
  | with_reducible refine ow_none ?_
  | with_reducible refine aw_nil ?_
  | with_reducible refine aw_cons ?_
  | with_reducible refine rw_I0 ?_
  | ((with_reducible refine rw_I ?obc ?_); (case obc => walk_at "ob_side"))
  | with_reducible refine rw_isN ?_
  | with_reducible refine rw_notN ?_
  | ((with_reducible refine rw_eq ?obc ?_); (case obc => exact rfl))
  | ((with_reducible refine rw_ne ?obc ?_); (case obc => exact rfl))
  | with_reducible refine cw_max2 ?_
  | with_reducible refine cw_min2 ?_
  | with_reducible refine tw_test ?_
  | with_reducible refine tw_B ?_
  | with_reducible refine tw_not ?_
  | with_reducible refine tw_truB ?_
  | with_reducible refine tw_and ?_
  | with_reducible refine tw_or ?_
  | with_reducible refine ew_and ?_
  | (refine' Exists.intro _ (And.intro (show V.bl _ = V.bl _ from rfl) ?_))
  | (refine' Exists.intro _ (And.intro (show V.int _ = V.int _ from rfl) ?_))
  | ((with_reducible refine' rw_ixL (v := ?_) (xs := ?_) (by assumption) ?obl ?oba ?_); (case obl => walk_at "ob_sq"); (case oba => first | exact rfl | exact at_zero))
  | ((with_reducible refine' rw_ixT (v := ?_) (xs := ?_) (by assumption) ?obl ?oba ?_); (case obl => walk_at "ob_sq"); (case oba => first | exact rfl | exact at_zero))
  | ((with_reducible refine' ew_lst (by assumption) ?_))
  | ((with_reducible refine' ew_tup (by assumption) ?_)))
local macro_rules | `(tactic| walk_at "ob_len") => `(tactic| first | exact Nat.le_of_ble_eq_true rfl | (simp; done) | omega)
local macro_rules | `(tactic| walk_at "ob") => `(tactic| repeat walk_at "ob1")

/-! ### come_round -/
section
variable {K : PySem.W.Frag} {F0 F : Hp} {A : RAd} {t : LSt} {w : Wld} {r : Rgt} {p anew : Bool} {ex : List (Addr × HO)}
theorem SAt.geti {sh : Bool} (h : SAt sh K F0 F A t w r p anew ex) {i : Nat} {a : Addr} {o : HO} (e : ex[i]? = some (a, o)) : F a = some o := h.own.at_ (a, o) (List.mem_cons_of_mem _ (List.mem_append_right _ (List.mem_of_getElem? e)))
theorem SAt.seti {sh : Bool} (h : SAt sh K F0 F A t w r p anew ex) {i : Nat} {a : Addr} {o o' : HO} (e : ex[i]? = some (a, o)) : SAt sh K F0 (upd F a o') A t w r p anew (ex.set i (a, o')) := by
  have hs := h.own.set (i := (mcells A.M 0 A.mads t.ms).length + i + 1) (a := a) (o := o) (o' := o') (by
    rw [List.getElem?_cons_succ, List.getElem?_append_right (by omega), Nat.add_sub_cancel_left]
    exact e)
  rw [List.set_cons_succ, List.set_append_right _ _ (by omega), Nat.add_sub_cancel_left] at hs
  exact ⟨hs, h.ml, h.st, h.len1, h.len2⟩
/-- what is new is known from now on -/
def joinH (F0 F G : Hp) : Hp := fun a => match F a with
  | none => G a
  | some _ => F0 a
theorem joinH_old {F0 F G : Hp} (g : Ex F0 F) : Ex F0 (joinH F0 F G) := fun a o h => by
  unfold joinH
  rw [g a o h]
  exact h
theorem joinH_new {F0 F G : Hp} : Ex (newH F G) (joinH F0 F G) := fun a o h => by
  unfold newH at h
  unfold joinH
  cases e : F a with
  | none => rw [e] at h; exact h
  | some x => rw [e] at h; cases h
theorem SAt.join {sh : Bool} (h : SAt sh K F0 F A t w r p anew ex) {G : Hp} (g : Ex F G) : SAt sh K (joinH F0 F G) G A t w r p anew ex := by
  have g0 := joinH_old (G := G) h.own.ex
  refine ⟨⟨fun a o e => ?_, fun q hq => ?_, fun q hq => g _ _ (h.own.at_ q hq), h.own.nd⟩, g0 _ _ h.ml, fun k ad ss h1 h2 => dp_ex g0 (h.st k ad ss h1 h2), h.len1, h.len2⟩
  · unfold joinH at e
    cases c : F a with
    | none => rw [c] at e; exact e
    | some x => rw [c] at e; exact g _ _ (h.own.ex _ _ e)
  · unfold joinH
    rw [h.own.at_ q hq]
    exact h.own.out q hq
end
theorem depth_map {α : Type} {f : α → NestedKey} {n : Nat} (h : ∀ x, (f x).depth ≤ n) : ∀ l : List α, NestedKey.depthAll (l.map f) ≤ n
  | [] => by simp [NestedKey.depthAll]
  | a :: l => by
    rw [List.map_cons, NestedKey.depthAll]
    have h1 := h a
    have h2 := depth_map h l
    omega
theorem pic_depth {w : Wld} {r : Rgt} {t : LSt} : (picN w r t).depth ≤ 8 := by
  have h1 : ∀ m : Mac, (leftN m t.beat).depth = 0 := fun m => by unfold leftN; split <;> simp [NestedKey.depth]
  have h2 : ∀ m : Mac, (doN t m).depth ≤ 1 := fun m => by
    unfold doN
    simp only [NestedKey.depth, NestedKey.depthAll, h1]
    omega
  have h3 : ∀ x : Mac × List Stp, (placeN w t x.2 x.1).depth ≤ 0 := fun x => by unfold placeN; split <;> simp [NestedKey.depth]
  have h4 := depth_map h2 t.ms
  have h5 := depth_map h3 (t.ms.zip w.ms)
  have h6 : (memN w r t).depth ≤ 1 := by
    unfold memN
    cases r with
    | rank => simp [NestedKey.depth]
    | least => simp [NestedKey.depth]
    | turns =>
      show (lastN t).depth ≤ 1
      unfold lastN
      split <;> simp [NestedKey.depth]
    | wait =>
      simp only [NestedKey.depth]
      omega
  unfold picN
  simp only [NestedKey.depth, NestedKey.depthAll]
  omega
theorem begun_done {w : Wld} : (lBegun w).ms.map Mac.done = List.replicate w.ms.length 0 := by
  show List.map Mac.done (List.map _ w.ms) = _
  rw [List.map_map]
  have : ∀ l : List (List Stp), l.map (Mac.done ∘ fun ss => ⟨0, -1, 0, 0, 0, if ss.isEmpty then some 0 else none⟩) = List.replicate l.length 0 := by
    intro l
    induction l with
    | nil => rfl
    | cons a l ih => rw [List.map_cons, ih]; rfl
  exact this w.ms
def aRound (K : PySem.W.Frag) (C M : Addr) : List V → Hp → VK → Prop := fun vs F R => ∃ (F0 : Hp) (A : RAd) (w : Wld) (r : Rgt) (p : Bool), vs = [.ref A.a] ∧ A.C = C ∧ A.M = M ∧ RunAt K F0 F A (lBegun w) w r p true [] ∧ WldOk w ∧ (∃ n1 n2, Round w r p n1 n2) ∧
  ∀ (q : Addr) (F' : Hp) (n1 n2 : Nat) (TS : List (List Int)), Round w r p n1 n2 → TalOk w r p n2 TS → Ex F0 F' → Dp K F' (.ref q) (.tuple [.int n1, .list (TS.map talD)]) → R (.ref q) F'
section
variable {P : Program} {w : World} {K : PySem.W.Frag} {mg : Str → Option Value} {base : Heap} {C M : Addr}

abbrev s_come_round : Stmt := top 42
def N_come_round : List Str := ["run", "tally", "tallies", "seen", "over", "_", "number", "picture"]
theorem sc_come_round : FnScope N_come_round ["run"] (defScope s_come_round) := ⟨rfl, rfl, rfl, by decide +kernel, rfl, by decide +kernel, by decide +kernel⟩
theorem ok_come_round {f : Addr} {fd : FuncData} {f1 f2 : Addr} {fd1 fd2 : FuncData} (Fn : Fun K "come_round" "come_round" s_come_round f fd) (B : Blt mg) (HR : ClsF K C rkeys) (HM : ClsF K M mkeys) {tMR : Tok} (gMOST_ROUND : mg "MOST_ROUND" = some (.int 5000 tMR)) (M_do_beat : Met K C "do_beat" f1 fd1 ["self"]) (G_do_beat : FnOk P w K mg base CX0 5 f1 fd1 ["self"] (LS (aDoBeat K C M))) (Cpicture_of : Cal K mg "picture_of" f2 fd2 ["run"]) (Gpicture_of : FnOk P w K mg base CX0 5 f2 fd2 ["run"] (LS (aPic K C M))) : FnOk P w K mg base CX0 6 f fd ["run"] (LS (aRound K C M)) := by
  refine Fn.ok sc_come_round (fun vs H Q E h => ?_) (fun cdv A outer s H vs Q E hr h => ?_)
  · obtain ⟨J, F, R, hd, j, h, _⟩ := h
    obtain ⟨F0, A, wd, r, p, rfl, _⟩ := h
    rfl
  · have nd := sc_come_round.nd
    obtain ⟨J, F, R, hd, j, h, q⟩ := h
    obtain ⟨F0, A, wd, r, p, rfl, rfl, rfl, hX0, hw, hex, k⟩ := h
    refine ⟨_, (pss_cons (ps_set (i := 1) nd rfl (Or.inl rfl) (pe_op op_rep (pe_lst (pa_cons pe_int pa_nil)) (pe_callB call_len_seq (by rfl) B.len (by decide +kernel) (pa_cons (pe_fld (pv 0) rfl) pa_nil))))
      (pss_cons (ps_set (i := 2) nd rfl (Or.inl rfl) (pe_lst (pa_cons (pe_callTy call_tuple_of (by rfl) B.tuple (by decide +kernel) (pa_cons (pv 1) pa_nil)) pa_nil)))
      (pss_cons (ps_set (i := 3) nd rfl (Or.inl rfl) (pe_dnewN))
      (pss_cons (ps_while PassesOwn.never (pt_cmpR op_lt (pe_fld (pv 0) rfl) (pe_glob (v := .int 5000) rfl gMOST_ROUND ⟨_, rfl⟩) (nomark _)) (pss_cons (ps_asg (pe_meth0 (pv 0) M_do_beat.cl M_do_beat.m G_do_beat (by exact hr.mono (by decide)) M_do_beat.a .nil pass0) (pg_tup rfl (pgs_cons (pg_name (i := 4) nd rfl (Or.inl rfl)) (pgs_cons (pg_name (i := 5) nd rfl (Or.inl rfl)) pgs_nil))))
      (pss_cons (ps_for PassesOwn.never rfl (pi_list (pv 4)) (pg_name (i := 6) nd rfl (Or.inl rfl)) (pss_one (ps_augS (pv 1) (pv 6) get_list pe_int ip_add set_list)))
      (pss_cons (ps_expr (pe_bm PySem.F.plainAttrs_list PySem.F.slot_list_append PySem.F.type_list_append mt_append (pv 2) (pa_cons (pe_callTy call_tuple_of (by rfl) B.tuple (by decide +kernel) (pa_cons (pv 1) pa_nil)) pa_nil)))
      (pss_cons (ps_set (i := 7) nd rfl (Or.inl rfl) (pe_call Gpicture_of (by exact hr.mono (by decide)) (by rfl) Cpicture_of.g Cpicture_of.k Cpicture_of.a .nil pass0 (pa_cons (pv 0) pa_nil)))
      (pss_cons (ps_if (pt_cmpR (op_inN (by exact hr.u65)) (pv 7) (pv 3) (by rfl)) (pss_one (ps_ret (pe_tup (pa_cons (pe_dgetN (by exact hr.u65) (pv 3) (pv 7) (fun _ _ => rfl)) (pa_cons (pv 2) pa_nil))))) pss_nil)
      (pss_one (ps_asg (pe_fld (pv 0) rfl) (pg_sub (pv 3) (pv 7) (set_dN (by exact hr.u65)))))))))))
      (pss_one ps_never))))), ?_⟩
    refine LS.body j q ?_
    have hm5 := hw.m
    have hlong : ∀ ss ∈ wd.ms, ∀ st ∈ ss, (0 : Int) ≤ st.long := fun ss h1 st h2 => by have := (hw.st ss h1 st h2).l0; omega
    have hml : F A.ml = some (.lst (A.mads.map fun ad => .ref ad.a)) := hX0.own.ex _ _ hX0.ml
    refine sw_seq (sw_asg (ew_op (ew_lst hd ?_)))
    walk_at "ob"
    refine ⟨by walk_at "ob_len", fun p1 hp1 => ?_⟩
    refine ew_cb (aw_cons (ew_fld hd ?_))
    walk_at "ob"
    have hXa := hX0.new' (o := .lst [V.int 0]) hp1
    refine ⟨A.a, A.C, A.dx, _, _, rfl, hXa.cell, HR.cl, HR.no _ (by decide +kernel), lookup_nd (i := 5) (rfs_nd _ _ _ _ _ _) rfl, ?_⟩
    refine aw_nil (cw_lenS hd (Or.inl (SqL.of ((Ex.new (.refl _) hp1) _ _ hml))) ?_)
    have hal : (A.mads.map fun ad => V.ref ad.a).length = wd.ms.length := by rw [List.length_map, hX0.len1]
    refine rw_rep hd upd_same ⟨by omega, by omega⟩ (by rw [Int.toNat_natCast, hal]; simp; omega) (fun ty hty => ?_)
    have e0 : (List.replicate (((A.mads.map fun ad => V.ref ad.a).length : Int)).toNat [V.int 0]).flatten = ((lBegun wd).ms.map Mac.done).map V.int := by rw [Int.toNat_natCast, rep_flat, hal, begun_done, List.map_replicate]
    rw [e0]
    have hXb := hXa.more (o := .lst (((lBegun wd).ms.map Mac.done).map V.int)) hty
    refine gw_name ?_
    refine sw_seq (sw_asg (ew_lst hd (aw_cons (ew_cb (aw_cons ?_)))))
    walk_at "ob"
    refine cw_tuple hd (SqL.of upd_same) fun pt hpt => ?_
    have hXc := hXb.new (o := .tup (((lBegun wd).ms.map Mac.done).map V.int)) hpt
    walk_at "ob"
    refine ⟨by walk_at "ob_len", fun tl htl => ?_⟩
    have hXd := hXc.more (o := .lst [V.ref pt]) htl
    refine gw_name ?_
    refine sw_seq (sw_asg (ew_dnewN hd fun sd hsd => gw_name ?_))
    have hXe := hXd.more (o := dnO P w sd []) hsd
    refine sw_seq (sw_while (fun mm σ _ G => ∃ (n : Nat) (t : LSt) (Fk : Hp) (xs : NKs) (TS : List (List Int)) (tvs : List V) (x4 x5 x6 x7 : Option V), σ = [some (.ref A.a), some (.ref ty), some (.ref tl), some (.ref sd), x4, x5, x6, x7] ∧ Ex F0 Fk ∧ RPath wd r p n t ∧ n ≤ 5000 ∧ Seen wd r p n xs ∧ (∀ x ∈ xs, KeyAt K Fk x.1 x.2.1) ∧ TalOk wd r p n TS ∧ DpAll K Fk tvs (TS.map talD) ∧ RunAt K Fk G A t wd r p true [(sd, dnO P w sd xs), (tl, .lst tvs), (ty, .lst ((t.ms.map Mac.done).map V.int))] ∧ mm = 5000 - n) _ ⟨0, lBegun wd, _, [], [((lBegun wd).ms.map Mac.done)], [V.ref pt], none, none, none, none, rfl, Ex.new (.refl _) (hXb.own.ex.free hpt), .zero, by omega, seen_zero, (fun x hx => by cases hx), ⟨rfl, fun i ti hi hp => ?_⟩, .cons (.tup (SqT.of upd_same) dps_ints) .nil, hXe, rfl⟩ ?_)
    · have ei : i = 0 := by omega
      subst ei
      cases hp
      rfl
    rintro mm σ _ G ⟨n, t, Fk, xs, TS, tvs, x4, x5, x6, x7, rfl, gk, hP, hn, hS, hK, hT, hD, hX, rfl⟩
    have hok := hP.ok
    have hbt := hP.beat
    refine tw_test (ew_op (ew_fld hd ?_))
    walk_at "ob"
    refine ⟨A.a, A.C, A.dx, _, _, rfl, hX.cell, HR.cl, HR.no _ (by decide +kernel), lookup_nd (i := 4) (rfs_nd _ _ _ _ _ _) rfl, ?_⟩
    walk_at "ob"
    refine ⟨fun hb => ?_, fun hb => ?_⟩
    · have hb2 : t.beat < 5000 := of_decide_eq_true hb
      have hn5 : n < 5000 := by omega
      refine sw_seq (sw_asg (ew_meth hd ?_))
      walk_at "ob"
      refine ⟨A.a, A.dx, _, rfl, hX.cell, rfs_no (by decide +kernel), aw_nil ⟨Fk, A, t, wd, r, p, true, _, rfl, rfl, rfl, hX, hok, hm5, hlong, fun q1 b1 o1 G1 t' lv bg hB hok' hX1 => ?_⟩⟩
      refine gw_tup hd ⟨q1, _, rfl, SqT.of hX1.ex0, rfl, gsw_cons (gw_name (gsw_cons (gw_name (gsw_nil ?_))))⟩
      have hX2 := hX1.drop.drop
      have hP' := RPath.succ hP hB
      refine sw_seq ?_
      refine sw_mid (fun σ _ G => ∃ x6 : Option V, σ = [some (.ref A.a), some (.ref ty), some (.ref tl), some (.ref sd), some (.ref o1), some (.ref b1), x6, x7] ∧ RunAt K Fk G A t' wd r p true [(sd, dnO P w sd xs), (tl, .lst tvs), (ty, .lst ((t'.ms.map Mac.done).map V.int))]) ?_ ?_
      · refine sw_forL hd ?_
        walk_at "ob"
        refine ⟨o1, _, fun j σ _ G => ∃ x6 : Option V, σ = [some (.ref A.a), some (.ref ty), some (.ref tl), some (.ref sd), some (.ref o1), some (.ref b1), x6, x7] ∧ RunAt K Fk G A t' wd r p true ((o1, .lst ((overs t wd.ms.length).map V.int)) :: [(sd, dnO P w sd xs), (tl, .lst tvs), (ty, .lst (tbump t ((overs t wd.ms.length).take j)))]), rfl, SqL.of hX2.ex0, ⟨x6, rfl, by rw [List.take_zero, tbump_nil]; exact hX2⟩, ?_, ?_, ?_⟩
        · rintro j σ _ G hj ⟨y6, rfl, hY⟩
          exact SqL.of hY.ex0
        · rintro j x σ _ G hj ⟨y6, rfl, hY⟩
          rw [List.getElem?_map] at hj
          obtain ⟨kk, hkk, rfl⟩ := Option.map_eq_some_iff.mp hj
          obtain ⟨kn, rfl, hkn⟩ := overs_form (List.mem_of_getElem? hkk)
          obtain ⟨m, hm⟩ := ms_both' hok.len (List.getElem?_eq_getElem hkn)
          have eN : (overs t wd.ms.length).take (j + 1) = (overs t wd.ms.length).take j ++ [(kn : Int)] := by rw [List.take_succ, hkk]; rfl
          have hnot : (kn : Int) ∉ (overs t wd.ms.length).take j := fun z => by
            have hn2 : ((overs t wd.ms.length).take (j + 1)).Nodup := (overs_nd _).sublist (List.take_sublist _ _)
            rw [eN, List.nodup_append] at hn2
            exact hn2.2.2 _ z _ (by simp) rfl
          have hbs := tbump_set hm hnot
          refine gw_name ?_
          refine sw_augS hd ?_
          walk_at "ob"
          refine ⟨ty, _, kn, m.done, rfl, rfl, hY.geti (i := 3) rfl, by omega, hbs.2, ?_⟩
          walk_at "ob"
          refine ⟨hY.geti (i := 3) rfl, _, rfl, ?_⟩
          rw [hbs.1, eN]
          exact hY.seti (i := 3) (a := ty) rfl
        · rintro σ _ G ⟨y6, rfl, hY⟩
          rw [List.length_map, List.take_length, tbump_all hok hB] at hY
          exact ⟨_, rfl, hY.drop⟩
      · rintro σ _ G2 ⟨y6, rfl, hY⟩
        refine sw_seq (sw_drop (ew_bmL hd ?_))
        walk_at "ob"
        refine ⟨tl, _, rfl, SqL.of (hY.geti (i := 1) rfl), aw_cons (ew_cb (aw_cons ?_))⟩
        walk_at "ob"
        refine cw_tuple hd (SqL.of (hY.geti (i := 2) rfl)) fun pt2 hpt2 => ?_
        have hY1 := hY.new (o := .tup ((t'.ms.map Mac.done).map V.int)) hpt2
        have hTl : tvs.length = n + 1 := by have := dps_len hD; rw [List.length_map, hT.1] at this; exact this
        refine aw_nil (mw_append hd (hY1.geti (i := 1) rfl) (by omega) ?_)
        have hY2 := hY1.seti (i := 1) (a := tl) (o' := .lst (tvs ++ [V.ref pt2])) rfl
        have gk2 : Ex Fk (upd Fk pt2 (.tup ((t'.ms.map Mac.done).map V.int))) := Ex.new (.refl _) (hY.own.ex.free hpt2)
        have hT' := tal_next hT hP'
        have hD' : DpAll K (upd Fk pt2 (.tup ((t'.ms.map Mac.done).map V.int))) (tvs ++ [V.ref pt2]) ((TS ++ [t'.ms.map Mac.done]).map talD) := by
          rw [List.map_append]
          exact dps_snoc (dps_ex gk2 hD) (.tup (SqT.of upd_same) dps_ints)
        refine sw_seq (sw_asg (ew_call hd ?_))
        walk_at "ob"
        refine ⟨_, A, t', wd, r, p, true, _, rfl, rfl, rfl, hY2, hok', hm5, fun qp G5 g5 dpic => gw_name ?_⟩
        have hY3 := hY2.join g5
        have gk3 := joinH_old (G := G5) hY2.own.ex
        have hkp : KeyAt K (joinH (upd Fk pt2 (.tup ((t'.ms.map Mac.done).map V.int))) (upd (upd G2 pt2 (.tup ((t'.ms.map Mac.done).map V.int))) tl (.lst (tvs ++ [V.ref pt2]))) G5) (picN wd r t') qp := ⟨dp_ex joinH_new dpic, pic_depth⟩
        have hK3 : ∀ x ∈ xs, KeyAt K (joinH (upd Fk pt2 (.tup ((t'.ms.map Mac.done).map V.int))) (upd (upd G2 pt2 (.tup ((t'.ms.map Mac.done).map V.int))) tl (.lst (tvs ++ [V.ref pt2]))) G5) x.1 x.2.1 := fun x hx => (hK x hx).ex (gk2.trans gk3)
        have hD3 := dps_ex gk3 hD'
        generalize (joinH (upd Fk pt2 (.tup ((t'.ms.map Mac.done).map V.int))) (upd (upd G2 pt2 (.tup ((t'.ms.map Mac.done).map V.int))) tl (.lst (tvs ++ [V.ref pt2]))) G5) = F3 at hY3 gk3 hkp hK3 hD3
        refine sw_seq (sw_if (tw_test (ew_op ?_)))
        walk_at "ob"
        refine rw_inN hd (hY3.geti (i := 0) rfl) (hkp.ex hY3.own.ex) (fun x hx => (hK3 x hx).ex hY3.own.ex) ?_
        refine ⟨_, rfl, fun hb3 => ?_, fun hb3 => ?_⟩
        · obtain ⟨n1, hat, hrd⟩ := round_found hS hP' hn5 (of_decide_eq_true hb3)
          refine sw_ret (ew_tup hd (aw_cons (ew_dgetN hd ?_)))
          walk_at "ob"
          refine ⟨qp, sd, picN wd r t', xs, .int n1, rfl, rfl, hY3.geti (i := 0) rfl, hkp.ex hY3.own.ex, fun x hx => (hK3 x hx).ex hY3.own.ex, hat, ?_⟩
          walk_at "ob"
          refine ⟨by walk_at "ob_len", fun pr hpr => ?_⟩
          have gr : Ex G5 (upd G5 pr (.tup [.int n1, .ref tl])) := Ex.new (.refl _) hpr
          exact k pr _ n1 (n + 1) _ hrd hT' ((gk.trans (gk2.trans gk3)).trans (hY3.own.ex.trans gr)) (.tup (SqT.of upd_same) (.cons (.int _) (.cons (.lst (SqL.of (gr _ _ (hY3.geti (i := 1) rfl))) (dps_ex (hY3.own.ex.trans gr) hD3)) .nil)))
        · have hnin : picN wd r t' ∉ xs.map (·.1) := of_decide_eq_false hb3
          refine sw_next (sw_asg (ew_fld hd ?_))
          walk_at "ob"
          refine ⟨A.a, A.C, A.dx, _, _, rfl, hY3.cell, HR.cl, HR.no _ (by decide +kernel), lookup_nd (i := 4) (rfs_nd _ _ _ _ _ _) rfl, ?_⟩
          refine gw_subN hd ?_
          walk_at "ob"
          have hxl := hS.len
          refine ⟨qp, sd, picN wd r t', xs, rfl, rfl, hY3.geti (i := 0) rfl, hkp.ex hY3.own.ex, fun x hx => (hK3 x hx).ex hY3.own.ex, hnin, by omega, ?_⟩
          have eb : t'.beat = (n : Int) + 1 := by have := hP'.beat; rw [this]; omega
          rw [eb]
          have hY4 := hY3.seti (i := 0) (a := sd) (o' := dnO P w sd (xs ++ [(picN wd r t', qp, .int ((n : Int) + 1))])) rfl
          refine ⟨5000 - (n + 1), by omega, n + 1, t', F3, _, _, _, _, _, _, _, rfl, gk.trans (gk2.trans gk3), hP', by omega, seen_next hS hP' hnin, fun x hx => ?_, hT', hD3, hY4, rfl⟩
          rcases List.mem_append.mp hx with hx | hx
          · exact hK3 x hx
          · rw [List.mem_singleton.mp hx]
            exact hkp
    · have hb2 : ¬ t.beat < 5000 := of_decide_eq_false hb
      exfalso
      obtain ⟨n1, n2, hrd⟩ := hex
      obtain ⟨t1, t2, h1, h2, h3⟩ := hrd.same
      have := hrd.most
      exact seen_apart hS hrd.o hrd.lt (by omega) h1 h2 h3
end
end Obr
namespace Obr
open PySem L2 PyProof.Rows
local macro_rules | `(tactic| walk_at "ob_at") => `(tactic| first
  | assumption
  | exact upd_same
  | (refine Eq.trans (upd_ne ?obn) ?obr; (case obn => walk_at "ob_ne"); (case obr => walk_at "ob_at")))
local macro_rules | `(tactic| walk_at "ob_ne") => `(tactic| first
  | assumption
  | (refine Ne.symm ?obs; (case obs => assumption))
  | (refine' ne_of_none (H := ?_) ?obe ?obh; (case obh => assumption); (case obe => walk_at "ob_at"))
  | (refine Ne.symm ?obs; (case obs => (refine' ne_of_none (H := ?_) ?obe ?obh; (case obh => assumption); (case obe => walk_at "ob_at")))))
local macro_rules | `(tactic| walk_at "ob_fr") => `(tactic| first
  | assumption
  | (refine Eq.trans (upd_ne ?obn) ?obr; (case obn => walk_at "ob_ne"); (case obr => walk_at "ob_fr"))
  | (refine Ex.free (G := ?_) (by assumption) ?obh; (case obh => walk_at "ob_fr")))
local macro_rules | `(tactic| walk_at "ob_ex") => `(tactic| first
  | assumption
  | exact Ex.refl _
  | (refine Ex.out ?obg ?obh; (case obh => assumption); (case obg => walk_at "ob_ex"))
  | (refine Ex.new ?obg ?obh; (case obh => assumption); (case obg => walk_at "ob_ex"))
  | (refine Ex.new ?obg ?obh; (case obh => walk_at "ob_fr"); (case obg => walk_at "ob_ex")))
local macro_rules | `(tactic| walk_at "ob_sq") => `(tactic| first
  | assumption
  | (refine SqL.of ?oba; (case oba => walk_at "ob_at"))
  | (refine Ex.sqT (F := ?_) ?obg ?obh; (case obh => assumption); (case obg => walk_at "ob_ex"))
  | (refine Ex.sqL (F := ?_) ?obg ?obh; (case obh => assumption); (case obg => walk_at "ob_ex"))
  | (refine SqT.of ?oba; (case oba => walk_at "ob_at")))
local macro_rules | `(tactic| walk_at "ob_side") => `(tactic| first | exact rfl | assumption | decide | omega | exact ⟨by decide, by decide, by decide⟩ | exact Or.inr ⟨by decide, by decide⟩ | exact Or.inl ⟨by decide, by decide⟩ | exact wide_div (b := 60) (by first | decide | omega) (by first | decide | omega) (by decide) (by decide))
local macro_rules | `(tactic| walk_at "ob1") => `(tactic| first
  | with_reducible refine sw_seq ?_
  | with_reducible refine sw_asg ?_
  | with_reducible refine sw_ret ?_
  | with_reducible refine sw_par ?_
  | with_reducible refine ⟨_, _, rfl, ?_⟩
  | with_reducible refine sw_drop ?_
  | with_reducible refine sw_if ?_
  | with_reducible refine sw_next ?_
  | with_reducible refine gw_name ?_
  | with_reducible refine gw_subL (by assumption) ?_
  | with_reducible refine gsw_cons ?_
  | with_reducible refine gsw_nil ?_
  | with_reducible refine ew_c ?_
  | ((with_reducible refine' ew_var (v := ?_) ?obv ?_); (case obv => exact rfl))
  | ((with_reducible refine ew_next (by assumption) ?obv ?_); (case obv => exact rfl))
  | ((with_reducible refine ew_world (by assumption) ?obv ?_); (case obv => exact rfl))
  | ((with_reducible refine ew_rule (by assumption) ?obv ?_); (case obv => exact rfl))
  | with_reducible refine ew_op ?_
  | with_reducible refine ew_un ?_
  | with_reducible refine ew_dget (by assumption) ?_
  | with_reducible refine uw_I ?_
  | with_reducible refine ppw_nil ?_
  | with_reducible refine ppw_cons ?_
  | with_reducible refine sw_dput (by assumption) ?_
  | with_reducible refine ew_cb ?_
  | with_reducible refine ew_if ?_
  | with_reducible refine ew_slL (by assumption) ?_
  | with_reducible refine ow_some ?_
  | with_reducible refine ow_none ?_
  | with_reducible refine aw_nil ?_
  | with_reducible refine aw_cons ?_
  | with_reducible refine rw_I0 ?_
  | ((with_reducible refine rw_I ?obc ?_); (case obc => walk_at "ob_side"))
  | with_reducible refine rw_isN ?_
  | with_reducible refine rw_notN ?_
  | ((with_reducible refine rw_eq ?obc ?_); (case obc => exact rfl))
  | ((with_reducible refine rw_ne ?obc ?_); (case obc => exact rfl))
  | with_reducible refine cw_max2 ?_
  | with_reducible refine cw_min2 ?_
  | with_reducible refine tw_test ?_
  | with_reducible refine tw_B ?_
  | with_reducible refine tw_not ?_
  | with_reducible refine tw_truB ?_
  | with_reducible refine tw_and ?_
  | with_reducible refine tw_or ?_
  | with_reducible refine ew_and ?_
  | (refine' Exists.intro _ (And.intro (show V.bl _ = V.bl _ from rfl) ?_))
  | (refine' Exists.intro _ (And.intro (show V.int _ = V.int _ from rfl) ?_))
  | ((with_reducible refine' rw_ixL (v := ?_) (xs := ?_) (by assumption) ?obl ?oba ?_); (case obl => walk_at "ob_sq"); (case oba => first | exact rfl | exact at_zero))
  | ((with_reducible refine' rw_ixT (v := ?_) (xs := ?_) (by assumption) ?obl ?oba ?_); (case obl => walk_at "ob_sq"); (case oba => first | exact rfl | exact at_zero))
  | ((with_reducible refine' ew_lst (by assumption) ?_))
  | ((with_reducible refine' ew_tup (by assumption) ?_)))
local macro_rules | `(tactic| walk_at "ob_len") => `(tactic| first | exact Nat.le_of_ble_eq_true rfl | (simp; done) | omega)
local macro_rules | `(tactic| walk_at "ob") => `(tactic| repeat walk_at "ob1")

/-! ### beats -/
/-- n beats from the start: what is told of each -/
inductive LRows (w : Wld) (r : Rgt) (p : Bool) : Nat → LSt → List (Int × List Int) → Prop
  | zero : LRows w r p 0 (lBegun w) []
  | succ {n t t' lv bg rows} : LRows w r p n t rows → LBeat w r p false t t' lv bg → LRows w r p (n + 1) t' (rows ++ [(lv, bg)])
def rowD (x : Int × List Int) : PyData := .tuple [.int x.1, .list (x.2.map PyData.int)]
def aBeatsP (K : PySem.W.Frag) : List V → Hp → VK → Prop := fun vs F R => ∃ (wv rv : V) (w : Wld) (r : Rgt) (p : Bool) (n : Nat), vs = [wv, rv, .int n] ∧ Dp K F wv (wldD w) ∧ Dp K F rv (rulD r p) ∧ WldOk w ∧ n ≤ 500 ∧
  ∀ (q : Addr) (F' : Hp) (vs' : List V) (t : LSt) (rows : List (Int × List Int)), LRows w r p n t rows → Ex F F' → F' q = some (.lst vs') → DpAll K F' vs' (rows.map rowD) → R (.ref q) F'
section
variable {P : Program} {w : World} {K : PySem.W.Frag} {mg : Str → Option Value} {base : Heap} {C M : Addr}
end
end Obr
namespace Obr
open PySem L2 PySem.Spec PyProof.Rows RZ
/-! ### zip of a tuple and a list -/
def ItM (K : PySem.W.Frag) (a b : Addr) : It where
  go := fun i H => ∃ (us vs : List V) (u v : V), SqT K H a us ∧ SqL K H b vs ∧ us[i]? = some u ∧ vs[i]? = some v
  yld := fun i H r H' => ∃ T u v, r = .ref T ∧ H T = none ∧ H' = upd H T (.tup [u, v]) ∧ (∀ us, SqT K H a us → us[i]? = some u) ∧ ∀ vs, SqL K H b vs → vs[i]? = some v
  stop := fun i H => ∃ us vs : List V, SqT K H a us ∧ SqL K H b vs ∧ i ≤ us.length ∧ i ≤ vs.length ∧ (i = us.length ∨ i = vs.length)
structure StM (z TI TO i1 i2 a b : Addr) (i : Nat) (h : Heap) : Prop where
  zz : IsZip h z TI TO .none
  ti : IsTupOf2 h TI (.ref i1) (.ref i2)
  to : ∃ u v, IsTupOf2 h TO u v
  one : h.IsTupleIter i1 a i
  two : h.IsListIter i2 b i
theorem five {α : Type} {c z TI TO i1 i2 : α} (h : c ∈ [z, TI, TO, i1, i2]) : c = z ∨ c = TI ∨ c = TO ∨ c = i1 ∨ c = i2 := by simpa using h
theorem turn_zipM {P : Program} {w : World} {K : PySem.W.Frag} {elts : List Expr} {kk : Nat} {tpos : Pos} {a b z TI TO i1 i2 : Addr} (D : ZipSep2 z TI TO i1 i2 [i1, a] [i2, b]) (ha : a ≠ i1) (hb : b ≠ i2) :
    Turn P w K (.Tuple elts kk tpos) (ItM K a b) [z, TI, TO, i1, i2] z (StM z TI TO i1 i2 a b) where
  mem := List.mem_cons_self
  obj := fun i h st c hc => by
    obtain ⟨u, v, hTO⟩ := st.to
    obtain ⟨o1, e1, _, d1⟩ := st.one
    obtain ⟨o2, e2, _, d2⟩ := st.two
    rcases five hc with rfl | rfl | rfl | rfl | rfl
    · exact ⟨_, st.zz, fun v q => nomatch q⟩
    · exact ⟨_, st.ti, fun v q => nomatch q⟩
    · exact ⟨_, hTO, fun v q => nomatch q⟩
    · exact ⟨o1, e1, fun v q => by rw [d1] at q; cases q⟩
    · exact ⟨o2, e2, fun v q => by rw [d2] at q; cases q⟩
  keep := fun i h h' st k => by
    obtain ⟨u, v, hTO⟩ := st.to
    exact ⟨k z (by simp) _ st.zz, k TI (by simp) _ st.ti, ⟨u, v, k TO (by simp) _ hTO⟩, st.one.at fun o q => k i1 (by simp) o q, st.two.at fun o q => k i2 (by simp) o q⟩
  item := by
    intro X hP hw hK hc i pins s σ H E I hf st hg
    subst hP hw hK
    obtain ⟨u0, v0, hTO⟩ := st.to
    obtain ⟨us, vs, u, v, hqu, hqv, hu, hv⟩ := hg
    obtain ⟨its, rv, p, _⟩ := I.tuple hqu
    obtain ⟨its2, rv2, p2, _⟩ := I.list hqv
    obtain ⟨y1, hy1, ry1⟩ := rv.get hu
    obtain ⟨y2, hy2, ry2⟩ := rv2.get hv
    have hzl : z < s.heap.objs.size := Heap.lt_size st.zz
    have n1 : i < its.toArray.size := by have := (List.getElem?_eq_some_iff.mp hy1).1; simpa using this
    have n2 : i < its2.toArray.size := by have := (List.getElem?_eq_some_iff.mp hy2).1; simpa using this
    refine wpAny_pyNext_zipD2_item D (Draws.tuple (A := X.A.in1) (I.ok.hd hc) i1 a ha its.toArray) (Draws.list (A := X.A.in1) (I.ok.hd hc) i2 b hb its2.toArray) st.zz st.ti hTO ⟨st.one, p⟩ ⟨st.two, p2.isList⟩ n1 n2 fun x1 x2 h' tk hx1 hx2 z' TO' s1 s2 hT hsz hk => ?_
    have ex1 : x1 = y1 := by
      have q : its[i]? = some x1 := by simpa using hx1
      rw [hy1] at q
      exact (Option.some.inj q).symm
    have ex2 : x2 = y2 := by
      have q : its2[i]? = some x2 := by simpa using hx2
      rw [hy2] at q
      exact (Option.some.inj q).symm
    subst ex1 ex2
    refine ⟨_, rfl, wpAny_letOwnedTupleGo_zip (s := { s with heap := h', toks := tk }) z' fun h'' z'' sb => ?_⟩
    have hT2 : h''.get? s.heap.objs.size = some { cls := .type "tuple", data := .seq #[x1, x2] } := (sb.2 _ (Nat.ne_of_gt hzl)).trans hT
    have new : ObjOk X.prog X.w (upd H s.heap.objs.size (.tup [u, v])) h'' s.heap.objs.size (.tup [u, v]) := ⟨by show 2 ≤ sizeLine; decide, [x1, x2], .cons ry1 (.cons ry2 .nil), ⟨_, hT2, rfl, _, rfl⟩⟩
    have I1 : Inv X pins σ (upd H s.heap.objs.size (.tup [u, v])) { s with heap := h'', toks := tk } :=
      I.turnedNew (t' := tk) (ch := [z, TI, TO, i1, i2]) (fun c o hn q => (sb.2 c (fun e => hn (by simp [e]))).trans (hk c o (fun e => hn (by simp [e])) (fun e => hn (by simp [e])) (fun e => hn (by simp [e])) (fun e => hn (by simp [e])) q)) hf (Nat.le_refl _) new
    have lt : ∀ c ∈ [z, TI, TO, i1, i2], c < s.heap.objs.size := fun c hcm => by
      obtain ⟨o1, e1, _⟩ := st.one
      obtain ⟨o2, e2, _⟩ := st.two
      rcases five hcm with rfl | rfl | rfl | rfl | rfl
      · exact hzl
      · exact Heap.lt_size st.ti
      · exact Heap.lt_size hTO
      · exact Heap.lt_size e1
      · exact Heap.lt_size e2
    refine ⟨.ref s.heap.objs.size, _, I1, rfl, ⟨_, u, v, rfl, I.hok.fresh (Nat.le_refl _), rfl, fun l hl => by rw [I.tuple_inj hl hqu]; exact hu, fun l hl => by rw [I.list_inj hl hqv]; exact hv⟩, ⟨z'', ?_, ⟨x1, x2, ?_⟩, ?_, ?_⟩, fun c hcm => ?_⟩
    · exact (sb.2 _ D.TIz).trans (hk _ _ D.TIz D.TITO D.TIi1 D.TIi2 st.ti)
    · exact (sb.2 _ D.TOz).trans TO'
    · exact s1.1.at fun o q => (sb.2 _ (fun e => D.zi1 e.symm)).trans q
    · exact s2.1.at fun o q => (sb.2 _ (fun e => D.zi2 e.symm)).trans q
    · rw [upd_ne (Nat.ne_of_lt (lt c hcm))]
      exact (hf c hcm).1
  done := by
    intro X hP hw hK hc i pins s σ H E I hf st hg
    subst hP hw hK
    obtain ⟨u0, v0, hTO⟩ := st.to
    obtain ⟨us, vs, hqu, hqv, hle1, hle2, hend⟩ := hg
    obtain ⟨its, rv, p, _⟩ := I.tuple hqu
    obtain ⟨its2, rv2, p2, _⟩ := I.list hqv
    have l1 := rv.length
    have l2 := rv2.length
    refine wpAny_pyNext_zipD2_end D (Draws.tuple (A := X.A.in1) (I.ok.hd hc) i1 a ha its.toArray) (Draws.list (A := X.A.in1) (I.ok.hd hc) i2 b hb its2.toArray) st.zz st.ti hTO ⟨st.one, p⟩ ⟨st.two, p2.isList⟩ (by simp; omega) (by simp; omega) (by simp; omega) fun h' tk hk => ?_
    exact ⟨rfl, I.turnedL (t' := tk) (ch := [z, TI, TO, i1, i2]) (fun c o hn q => hk c o (fun e => hn (by simp [e])) (fun e => hn (by simp [e])) (fun e => hn (by simp [e])) (fun e => hn (by simp [e])) q) hf⟩
  self := fun A i s Q E st h => wpAny_pyIter_zip st.zz h
def iZipM (K : PySem.W.Frag) (ta : TA) : TI := fun σ H R => ta σ H fun vs H1 => ∃ a b xs ys, vs = [.ref a, .ref b] ∧ SqT K H1 a xs ∧ SqL K H1 b ys ∧ R (ItM K a b) H1
theorem pi_zipM {X : Cx} {e e2 : Expr} {ta : TA} {p pos tpos : Pos} {elts : List Expr} {kk : Nat} (hg : Gl X "zip") (hm : X.mg "zip" = none) (ha : PA X [e, e2] ta)
    (hs : starEach [e, e2] X.env = (false, eval e X.env) :: starEach [e2] X.env := by rfl) (hpl : (backTo pos (starEach [e2] X.env)).any (·.1) = false := by rfl) :
    PI X (.Tuple elts kk tpos) (.Call (.Name "zip" p) [e, e2] [] pos) (iZipM X.K ta) := by
  refine ⟨fun pins s σ H R I h => ?_⟩
  refine Call_ (ld_blt I hg hm PyProof.Rows.boot_zip (PyProof.Rows.callWith_type1 (thn (ha.run pos pins s σ H _ I h) fun us s1 ⟨vs, H1, I1, r1, q1⟩ => ?_) hs hpl))
  obtain ⟨a, b, xs, ys, ex, hqx, hqy, q⟩ := q1
  subst ex
  cases r1 with
  | cons r rr =>
    cases rr with
    | cons r' rr =>
      cases rr
      cases r
      cases r'
      obtain ⟨its, rv, p1, _⟩ := I1.tuple hqx
      obtain ⟨its2, rv2, p2, _⟩ := I1.list hqy
      have la : a < s1.heap.objs.size := by
        obtain ⟨o1, ho1, _⟩ := id p1
        exact Heap.lt_size ho1
      have lb : b < s1.heap.objs.size := p2.lt
      refine zip_begins2 (begins_tuple a its.toArray) (begins_list b its2.toArray) p1 p2.isList fun h' hz hTI hTO h1 h2 hsz hk => wpAny_pyIter_zip hz ?_
      have I2 : Inv X pins σ H1 { s1 with heap := h' } := I1.kept (t' := s1.toks) hk
      have D := zip_sep2 (N := s1.heap.objs.size) (fp1 := [a]) (fp2 := [b]) (fun c hc => by rw [List.mem_singleton.mp hc]; exact la) (fun c hc => by rw [List.mem_singleton.mp hc]; exact lb)
      have ne1 : a ≠ s1.heap.objs.size := Nat.ne_of_lt la
      have ne2 : b ≠ s1.heap.objs.size + 1 := Nat.ne_of_lt (Nat.lt_succ_of_lt lb)
      refine ⟨s1.heap.objs.size + 4, [s1.heap.objs.size + 4, s1.heap.objs.size + 2, s1.heap.objs.size + 3, s1.heap.objs.size, s1.heap.objs.size + 1], _, _, H1, rfl, I2, turn_zipM D ne1 ne2, ⟨hz, hTI, ⟨_, _, hTO⟩, ⟨_, h1, rfl, rfl⟩, ⟨_, h2, rfl, rfl⟩⟩, fun c hcm => ?_, q⟩
      have hle : s1.heap.objs.size ≤ c := by
        rcases five hcm with rfl | rfl | rfl | rfl | rfl
        · exact Nat.le_add_right _ _
        · exact Nat.le_add_right _ _
        · exact Nat.le_add_right _ _
        · exact Nat.le_refl _
        · exact Nat.le_add_right _ _
      exact I1.fpOk hle (I1.hok.fresh hle)
theorem walk_zipM {K : PySem.W.Frag} {a b : Addr} {xs ys : List V} {n : Nat} (hn : n = min xs.length ys.length) : Walk (ItM K a b) n (fun H => SqT K H a xs ∧ SqL K H b ys) (YPair (fun i => xs[i]?) (fun i => ys[i]?)) := by
  subst hn
  refine ⟨fun i _ hi q => ?_, fun _ q => ⟨xs, ys, q.1, q.2, by omega, by omega, by omega⟩, fun i H v H' _ q y => ?_⟩
  · have c1 : i < xs.length := by omega
    have c2 : i < ys.length := by omega
    exact ⟨xs, ys, _, _, q.1, q.2, List.getElem?_eq_getElem c1, List.getElem?_eq_getElem c2⟩
  · obtain ⟨T, x, y', h1, h2, h3, h4, h5⟩ := y
    exact ⟨T, x, y', h1, h2, h3, h4 xs q.1, h5 ys q.2⟩
theorem walk_zipT {K : PySem.W.Frag} {a b : Addr} {xs ys : List V} {n : Nat} (hn : n = min xs.length ys.length) : Walk (ItzT K a b) n (fun H => SqT K H a xs ∧ SqT K H b ys) (YPair (fun i => xs[i]?) (fun i => ys[i]?)) := by
  subst hn
  refine ⟨fun i _ hi q => ?_, fun _ q => ⟨xs, ys, q.1, q.2, by omega⟩, fun i H v H' _ q y => ?_⟩
  · have c1 : i < xs.length := by omega
    have c2 : i < ys.length := by omega
    exact ⟨xs, ys, _, _, q.1, q.2, List.getElem?_eq_getElem c1, List.getElem?_eq_getElem c2⟩
  · obtain ⟨T, x, y', h1, h2, h3, h4, h5⟩ := y
    exact ⟨T, x, y', h1, h2, h3, h4 xs q.1, h5 ys q.2⟩
section
variable {S : Type} {J : S → Hp → Hp → Prop} {K : PySem.W.Frag} {σ : L2.St} {s : S} {F : Hp} {R : V → S → Hp → Prop} {te : TE} {tt : TT} {g : TG} {ta : TA} {vs : List Nat}
/-- what a comprehension over a zip of xs and ys asks -/
def ZipAsk (J : S → Hp → Hp → Prop) (g : TG) (tt : TT) (te : TE) (vs : List Nat) (σ : L2.St) (xs ys : List V) (R : V → S → Hp → Prop) (s1 : S) (F1 : Hp) (st : Hp → Prop) : Prop :=
  xs.length = ys.length ∧ xs.length ≤ 100000 ∧ ∀ Dl, F1 Dl = none → ∃ Pv : Nat → List V → S → Hp → Prop, Pv 0 [] s1 F1 ∧
      (∀ i acc s F, i ≤ xs.length → F Dl = none → Pv i acc s F → st F ∧ acc.length ≤ i) ∧ (∀ (i : Nat) acc x y s F T, xs[i]? = some x → ys[i]? = some y → F Dl = none → Pv i acc s F → F T = none → T ≠ Dl → LcTurn J Dl g tt te vs σ acc (.ref T) s (upd F T (.tup [x, y])) (Pv (i + 1))) ∧
      (∀ acc s F, F Dl = none → Pv xs.length acc s F → R (.ref Dl) s (upd F Dl (.lst acc)))
theorem ew_lcZM (hd : Hid J) (h : AW J ta σ s F fun ws s1 F1 => ∃ a b xs ys, ws = [.ref a, .ref b] ∧ SqT K F1 a xs ∧ SqL K F1 b ys ∧ ZipAsk J g tt te vs σ xs ys R s1 F1 (fun G => SqT K G a xs ∧ SqL K G b ys)) : EW J (tLc (iZipM K ta) g tt te vs) σ s F R := fun H j Q q =>
  h H j _ fun v s1 F1 H1 j1 ⟨a, b, xs, ys, e, l1, l2, hlen, hz, k⟩ => ⟨a, b, xs, ys, e, hd.sqT j1 l1, hd.sqL j1 l2, fun Dl hD => by
    have fD := hd.fresh j1 hD
    obtain ⟨Pv, h0, hl, hs, hdn⟩ := k Dl fD
    refine lc_it (walk_zipM (xs := xs) (ys := ys) (n := xs.length) (by rw [← hlen, Nat.min_self])) (fun i H => ∃ acc s F, i ≤ xs.length ∧ F Dl = none ∧ J s (upd F Dl (.lst acc)) H ∧ Pv i acc s F) ⟨[], s1, F1, Nat.zero_le _, fD, hd.al j1 hD, h0⟩ (fun i H' hi ⟨acc, s', F', _, f1, j', p⟩ => ?_) (fun i x H' H'' hi ⟨acc, s', F', hle, f1, j', p⟩ ⟨T, y, z, ex, hT, eH, e1, e2⟩ => ?_) (fun H' ⟨acc, s', F', _, f1, j', p⟩ => q _ _ _ _ j' (hdn acc s' F' f1 p))
    · obtain ⟨⟨c1, c2⟩, _⟩ := hl i acc s' F' hi f1 p
      exact ⟨hd.sqT j' (Ex.sqT (Ex.out (Ex.refl _) f1) c1), hd.sqL j' (Ex.sqL (Ex.out (Ex.refl _) f1) c2)⟩
    · subst ex eH
      obtain ⟨_, f3⟩ := hl i acc s' F' hle f1 p
      have hT2 := hd.fresh j' hT
      have hne : T ≠ Dl := fun q => by rw [q, upd_same] at hT2; cases hT2
      have hT3 : F' T = none := by rw [upd_ne hne] at hT2; exact hT2
      have jd := (Hid.jd (D := Dl) (acc := acc) hd).al (s := s') (F := F') (H := H') (p := T) (o := .tup [y, z]) ⟨f1, j'⟩ hT
      exact lc_step hd (by omega) (hs i acc y z s' F' T e1 e2 f1 p hT3 hne) jd.1 jd.2 fun acc s F H fd j p => ⟨acc, s, F, by omega, fd, j, p⟩⟩
theorem ew_lcZT (hd : Hid J) (h : AW J ta σ s F fun ws s1 F1 => ∃ a b xs ys, ws = [.ref a, .ref b] ∧ SqT K F1 a xs ∧ SqT K F1 b ys ∧ ZipAsk J g tt te vs σ xs ys R s1 F1 (fun G => SqT K G a xs ∧ SqT K G b ys)) : EW J (tLc (iZipA K ta) g tt te vs) σ s F R := fun H j Q q =>
  h H j _ fun v s1 F1 H1 j1 ⟨a, b, xs, ys, e, l1, l2, hlen, hz, k⟩ => ⟨a, b, xs, ys, e, Or.inr ⟨hd.sqT j1 l1, hd.sqT j1 l2, fun Dl hD => by
    have fD := hd.fresh j1 hD
    obtain ⟨Pv, h0, hl, hs, hdn⟩ := k Dl fD
    refine lc_it (walk_zipT (xs := xs) (ys := ys) (n := xs.length) (by rw [← hlen, Nat.min_self])) (fun i H => ∃ acc s F, i ≤ xs.length ∧ F Dl = none ∧ J s (upd F Dl (.lst acc)) H ∧ Pv i acc s F) ⟨[], s1, F1, Nat.zero_le _, fD, hd.al j1 hD, h0⟩ (fun i H' hi ⟨acc, s', F', _, f1, j', p⟩ => ?_) (fun i x H' H'' hi ⟨acc, s', F', hle, f1, j', p⟩ ⟨T, y, z, ex, hT, eH, e1, e2⟩ => ?_) (fun H' ⟨acc, s', F', _, f1, j', p⟩ => q _ _ _ _ j' (hdn acc s' F' f1 p))
    · obtain ⟨⟨c1, c2⟩, _⟩ := hl i acc s' F' hi f1 p
      exact ⟨hd.sqT j' (Ex.sqT (Ex.out (Ex.refl _) f1) c1), hd.sqT j' (Ex.sqT (Ex.out (Ex.refl _) f1) c2)⟩
    · subst ex eH
      obtain ⟨_, f3⟩ := hl i acc s' F' hle f1 p
      have hT2 := hd.fresh j' hT
      have hne : T ≠ Dl := fun q => by rw [q, upd_same] at hT2; cases hT2
      have hT3 : F' T = none := by rw [upd_ne hne] at hT2; exact hT2
      have jd := (Hid.jd (D := Dl) (acc := acc) hd).al (s := s') (F := F') (H := H') (p := T) (o := .tup [y, z]) ⟨f1, j'⟩ hT
      exact lc_step hd (by omega) (hs i acc y z s' F' T e1 e2 f1 p hT3 hne) jd.1 jd.2 fun acc s F H fd j p => ⟨acc, s, F, by omega, fd, j, p⟩⟩⟩
end
end Obr
namespace Obr
open PySem L2 PyProof.Rows
local macro_rules | `(tactic| walk_at "ob_at") => `(tactic| first
  | assumption
  | exact upd_same
  | (refine Eq.trans (upd_ne ?obn) ?obr; (case obn => walk_at "ob_ne"); (case obr => walk_at "ob_at")))
local macro_rules | `(tactic| walk_at "ob_ne") => `(tactic| first
  | assumption
  | (refine Ne.symm ?obs; (case obs => assumption))
  | (refine' ne_of_none (H := ?_) ?obe ?obh; (case obh => assumption); (case obe => walk_at "ob_at"))
  | (refine Ne.symm ?obs; (case obs => (refine' ne_of_none (H := ?_) ?obe ?obh; (case obh => assumption); (case obe => walk_at "ob_at")))))
local macro_rules | `(tactic| walk_at "ob_fr") => `(tactic| first
  | assumption
  | (refine Eq.trans (upd_ne ?obn) ?obr; (case obn => walk_at "ob_ne"); (case obr => walk_at "ob_fr"))
  | (refine Ex.free (G := ?_) (by assumption) ?obh; (case obh => walk_at "ob_fr")))
local macro_rules | `(tactic| walk_at "ob_ex") => `(tactic| first
  | assumption
  | exact Ex.refl _
  | (refine Ex.out ?obg ?obh; (case obh => assumption); (case obg => walk_at "ob_ex"))
  | (refine Ex.new ?obg ?obh; (case obh => assumption); (case obg => walk_at "ob_ex"))
  | (refine Ex.new ?obg ?obh; (case obh => walk_at "ob_fr"); (case obg => walk_at "ob_ex")))
local macro_rules | `(tactic| walk_at "ob_sq") => `(tactic| first
  | assumption
  | (refine SqL.of ?oba; (case oba => walk_at "ob_at"))
  | (refine Ex.sqT (F := ?_) ?obg ?obh; (case obh => assumption); (case obg => walk_at "ob_ex"))
  | (refine Ex.sqL (F := ?_) ?obg ?obh; (case obh => assumption); (case obg => walk_at "ob_ex"))
  | (refine SqT.of ?oba; (case oba => walk_at "ob_at")))
local macro_rules | `(tactic| walk_at "ob_side") => `(tactic| first | exact rfl | assumption | decide | omega | exact ⟨by decide, by decide, by decide⟩ | exact Or.inr ⟨by decide, by decide⟩ | exact Or.inl ⟨by decide, by decide⟩ | exact wide_div (b := 60) (by first | decide | omega) (by first | decide | omega) (by decide) (by decide))
local macro_rules | `(tactic| walk_at "ob1") => `(tactic| first
  | with_reducible refine sw_seq ?_
  | with_reducible refine sw_asg ?_
  | with_reducible refine sw_ret ?_
  | with_reducible refine sw_par ?_
  | with_reducible refine ⟨_, _, rfl, ?_⟩
  | with_reducible refine sw_drop ?_
  | with_reducible refine sw_if ?_
  | with_reducible refine sw_next ?_
  | with_reducible refine gw_name ?_
  | with_reducible refine gw_subL (by assumption) ?_
  | with_reducible refine gsw_cons ?_
  | with_reducible refine gsw_nil ?_
  | with_reducible refine ew_c ?_
  | ((with_reducible refine' ew_var (v := ?_) ?obv ?_); (case obv => exact rfl))
  | ((with_reducible refine ew_next (by assumption) ?obv ?_); (case obv => exact rfl))
  | ((with_reducible refine ew_world (by assumption) ?obv ?_); (case obv => exact rfl))
  | ((with_reducible refine ew_rule (by assumption) ?obv ?_); (case obv => exact rfl))
  | with_reducible refine ew_op ?_
  | with_reducible refine ew_un ?_
  | with_reducible refine ew_dget (by assumption) ?_
  | with_reducible refine uw_I ?_
  | with_reducible refine ppw_nil ?_
  | with_reducible refine ppw_cons ?_
  | with_reducible refine sw_dput (by assumption) ?_
  | with_reducible refine ew_cb ?_
  | with_reducible refine ew_if ?_
  | with_reducible refine ew_slL (by assumption) ?_
  | with_reducible refine ow_some ?_
  | with_reducible refine ow_none ?_
  | with_reducible refine aw_nil ?_
  | with_reducible refine aw_cons ?_
  | with_reducible refine rw_I0 ?_
  | ((with_reducible refine rw_I ?obc ?_); (case obc => walk_at "ob_side"))
  | with_reducible refine rw_isN ?_
  | with_reducible refine rw_notN ?_
  | ((with_reducible refine rw_eq ?obc ?_); (case obc => exact rfl))
  | ((with_reducible refine rw_ne ?obc ?_); (case obc => exact rfl))
  | with_reducible refine cw_max2 ?_
  | with_reducible refine cw_min2 ?_
  | with_reducible refine tw_test ?_
  | with_reducible refine tw_B ?_
  | with_reducible refine tw_not ?_
  | with_reducible refine tw_truB ?_
  | with_reducible refine tw_and ?_
  | with_reducible refine tw_or ?_
  | with_reducible refine ew_and ?_
  | (refine' Exists.intro _ (And.intro (show V.bl _ = V.bl _ from rfl) ?_))
  | (refine' Exists.intro _ (And.intro (show V.int _ = V.int _ from rfl) ?_))
  | ((with_reducible refine' rw_ixL (v := ?_) (xs := ?_) (by assumption) ?obl ?oba ?_); (case obl => walk_at "ob_sq"); (case oba => first | exact rfl | exact at_zero))
  | ((with_reducible refine' rw_ixT (v := ?_) (xs := ?_) (by assumption) ?obl ?oba ?_); (case obl => walk_at "ob_sq"); (case oba => first | exact rfl | exact at_zero))
  | ((with_reducible refine' ew_lst (by assumption) ?_))
  | ((with_reducible refine' ew_tup (by assumption) ?_)))
local macro_rules | `(tactic| walk_at "ob_len") => `(tactic| first | exact Nat.le_of_ble_eq_true rfl | (simp; done) | omega)
local macro_rules | `(tactic| walk_at "ob") => `(tactic| repeat walk_at "ob1")

/-! ### gained, after -/
def zsub (xs ys : List Int) : List Int := List.zipWith (fun x y => y - x) xs ys
def zadd (m : Int) (xs ys : List Int) : List Int := List.zipWith (fun x y => x + m * y) xs ys
/-- what after tells, of the tallies -/
def aft (TS : List (List Int)) (n1 n2 n : Nat) : Option (List Int) :=
  if n ≤ n2 then TS[n]? else match TS[n1]?, TS[n2]?, TS[n1 + (n - n1) % (n2 - n1)]? with
    | some a, some b, some c => some (zadd (((n - n1) / (n2 - n1) : Nat) : Int) c (zsub a b))
    | _, _, _ => none
def aAfterP (K : PySem.W.Frag) : List V → Hp → VK → Prop := fun vs F R => ∃ (wv rv : V) (w : Wld) (r : Rgt) (p : Bool) (n : Nat), vs = [wv, rv, .int n] ∧ Dp K F wv (wldD w) ∧ Dp K F rv (rulD r p) ∧ WldOk w ∧ n ≤ 1000000000000 ∧ (∃ n1 n2, Round w r p n1 n2) ∧
  ∀ (q : Addr) (F' : Hp) (n1 n2 : Nat) (TS : List (List Int)) (l : List Int), Round w r p n1 n2 → TalOk w r p n2 TS → aft TS n1 n2 n = some l → Ex F F' → F' q = some (.lst (l.map V.int)) → R (.ref q) F'
theorem cw_divmod {S : Type} {J : S → Hp → Hp → Prop} {s : S} {F : Hp} {R : V → S → Hp → Prop} (hd : Hid J) {i k : Int} (c : CDiv i k) (h : ∀ p, F p = none → R (.ref p) s (upd F p (.tup [.int (i / k), .int (i % k)]))) : CW J (fun xs H Q => ∃ i j, xs = [.int i, .int j] ∧ CDiv i j ∧ ∀ p, H p = none → Q (.ref p) (upd H p (.tup [.int (i / j), .int (i % j)]))) [.int i, .int k] s F R := fun H j Q q =>
  ⟨i, k, rfl, c, fun p hp => q _ _ _ _ (hd.al j hp) (h p (hd.fresh j hp))⟩
theorem zip_get {f : Int → Int → Int} {xs ys : List Int} {i : Nat} {x y : Int} (h1 : xs[i]? = some x) (h2 : ys[i]? = some y) : (List.zipWith f xs ys).take (i + 1) = (List.zipWith f xs ys).take i ++ [f x y] := by
  have : (List.zipWith f xs ys)[i]? = some (f x y) := by rw [List.getElem?_zipWith, h1, h2]
  rw [List.take_succ, this]
  rfl
section
variable {P : Program} {w : World} {K : PySem.W.Frag} {mg : Str → Option Value} {base : Heap} {C M : Addr}

abbrev s_gained : Stmt := top 43
def N_gained : List Str := ["early", "late", "least", "most"]
theorem sc_gained : FnScope N_gained ["early", "late"] (defScope s_gained) := ⟨rfl, rfl, rfl, by decide +kernel, rfl, by decide +kernel, by decide +kernel⟩
theorem ok_gained {f : Addr} {fd : FuncData}  (Fn : Fun K "gained" "gained" s_gained f fd) (B : Blt mg)  : FnOk P w K mg base CX0 1 f fd ["early", "late"] (LS (aGained K)) := by
  refine Fn.ok sc_gained (fun vs H Q E h => ?_) (fun cdv A outer s H vs Q E hr h => ?_)
  · obtain ⟨J, F, R, hd, j, h, _⟩ := h
    obtain ⟨a, b, xs, ys, rfl, _⟩ := h
    rfl
  · have nd := sc_gained.nd
    obtain ⟨J, F, R, hd, j, h, q⟩ := h
    obtain ⟨a, b, xs, ys, rfl, la, lb, hl, hz, k⟩ := h
    refine ⟨_, (pss_one (ps_ret (pe_lc (own := [("least", 2), ("most", 3)]) (g := (gTup K 2 (gCons (gName 2) (gCons (gName 3) gNil)))) (te := (tOp (rI0 fun i j => .int (i - j)) (tVar 3) (tVar 2))) (tt := tYes) (by rfl) nd (RZ.pi_zipA (by rfl) B.zip (pa_cons (pv 0) (pa_cons (pv 1) pa_nil))) (blkOk_by (own := [("least", 2), ("most", 3)]) (N := N_gained) (sc := defScope s_gained) (by decide +kernel)) (fun _ _ _ _ _ => (pg_tup rfl (pgs_cons (pg_name (i := 2) nd rfl (Or.inl rfl)) (pgs_cons (pg_name (i := 3) nd rfl (Or.inl rfl)) pgs_nil)))) (fun _ _ _ _ _ => pts_nil) (fun _ _ _ _ _ => (pe_op op_sub (pv 3) (pv 2)))))), ?_⟩
    refine LS.body j q ?_
    refine sw_ret (ew_lcZT hd ?_)
    walk_at "ob"
    refine ⟨a, b, _, _, rfl, la, lb, by rw [List.length_map, List.length_map]; exact hl, by rw [List.length_map]; omega, fun Dl hDl => ?_⟩
    refine ⟨fun i acc _ G => Ex F G ∧ acc = ((zsub xs ys).take i).map V.int, ⟨.refl _, rfl⟩, ?_, ?_, ?_⟩
    · rintro i acc _ G hi hg ⟨g, rfl⟩
      exact ⟨⟨g.sqT la, g.sqT lb⟩, by rw [List.length_map]; exact List.length_take_le _ _⟩
    · rintro i acc x y _ G T hx hy hg ⟨g, rfl⟩ hT hne
      have hd' := hd.jd (D := Dl) (acc := ((zsub xs ys).take i).map V.int)
      rw [List.getElem?_map] at hx hy
      obtain ⟨x', hx', rfl⟩ := Option.map_eq_some_iff.mp hx
      obtain ⟨y', hy', rfl⟩ := Option.map_eq_some_iff.mp hy
      refine gw_tup hd' ⟨T, _, rfl, SqT.of upd_same, rfl, gsw_cons (gw_name (gsw_cons (gw_name (gsw_nil ⟨rfl, ?_⟩))))⟩
      refine tw_yes ⟨fun _ => ?_, (fun z => by cases z)⟩
      refine ew_op ?_
      walk_at "ob"
      refine ⟨g.trans (Ex.new (.refl _) hT), ?_⟩
      unfold zsub
      rw [zip_get hx' hy', List.map_append]
      rfl
    · rintro acc _ G hg ⟨g, rfl⟩
      have e : (zsub xs ys).take (xs.map V.int).length = zsub xs ys := by
        unfold zsub
        rw [List.take_of_length_le]
        rw [List.length_zipWith, List.length_map]
        omega
      rw [e]
      exact k Dl _ (g.trans (Ex.new (.refl _) hg)) upd_same

abbrev s_after : Stmt := top 41
def N_after : List Str := ["world", "rule", "many", "run", "first", "tallies", "counts", "times", "more", "had", "count"]
theorem sc_after : FnScope N_after ["world", "rule", "many"] (defScope s_after) := ⟨rfl, rfl, rfl, by decide +kernel, rfl, by decide +kernel, by decide +kernel⟩
theorem ok_after {f : Addr} {fd : FuncData} {f1 f2 f3 f4 : Addr} {fd1 fd2 fd3 fd4 : FuncData} (Fn : Fun K "after" "after" s_after f fd) (B : Blt mg) (Bdivmod : mg "divmod" = none) {tMA : Tok} (gMOST_AFTER : mg "MOST_AFTER" = some (.int 1000000000000 tMA)) (Cchecked_run : Cal K mg "checked_run" f1 fd1 ["world", "rule", "anew"]) (Gchecked_run : FnOk P w K mg base CX0 7 f1 fd1 ["world", "rule", "anew"] (LS (aChecked K C M))) (Ccheck_count : Cal K mg "check_count" f2 fd2 ["many", "least", "most"]) (Gcheck_count : FnOk P w K mg base CX0 1 f2 fd2 ["many", "least", "most"] (LS aCount)) (Ccome_round : Cal K mg "come_round" f3 fd3 ["run"]) (Gcome_round : FnOk P w K mg base CX0 6 f3 fd3 ["run"] (LS (aRound K C M))) (Cgained : Cal K mg "gained" f4 fd4 ["early", "late"]) (Ggained : FnOk P w K mg base CX0 1 f4 fd4 ["early", "late"] (LS (aGained K))) : FnOk P w K mg base CX0 8 f fd ["world", "rule", "many"] (LS (aAfterP K)) := by
  refine Fn.ok sc_after (fun vs H Q E h => ?_) (fun cdv A outer s H vs Q E hr h => ?_)
  · obtain ⟨J, F, R, hd, j, h, _⟩ := h
    obtain ⟨wv, rv, w, r, p, n, rfl, _⟩ := h
    rfl
  · have nd := sc_after.nd
    obtain ⟨J, F, R, hd, j, h, q⟩ := h
    obtain ⟨wv, rv, wd, r, p, n, rfl, dw, dr, hw, hn, hex, k⟩ := h
    refine ⟨_, (pss_cons (ps_set (i := 3) nd rfl (Or.inl rfl) (pe_call Gchecked_run (by exact hr.mono (by decide)) (by rfl) Cchecked_run.g Cchecked_run.k Cchecked_run.a .nil pass0 (pa_cons (pv 0) (pa_cons (pv 1) (pa_cons pe_bl pa_nil)))))
      (pss_cons (ps_expr (pe_call Gcheck_count (by exact hr.mono (by decide)) (by rfl) Ccheck_count.g Ccheck_count.k Ccheck_count.a .nil pass0 (pa_cons (pv 2) (pa_cons pe_int (pa_cons (pe_glob (v := .int 1000000000000) rfl gMOST_AFTER ⟨_, rfl⟩) pa_nil)))))
      (pss_cons (ps_asg (pe_call Gcome_round (by exact hr.mono (by decide)) (by rfl) Ccome_round.g Ccome_round.k Ccome_round.a .nil pass0 (pa_cons (pv 3) pa_nil)) (pg_tup rfl (pgs_cons (pg_name (i := 4) nd rfl (Or.inl rfl)) (pgs_cons (pg_name (i := 5) nd rfl (Or.inl rfl)) pgs_nil))))
      (pss_cons (ps_if (pt_cmpR op_lt (pv 2) (pe_callB call_len_seq (by rfl) B.len (by decide +kernel) (pa_cons (pv 5) pa_nil)) (nomark _)) (pss_one (ps_ret (pe_callTy call_list_of (by rfl) B.list (by decide +kernel) (pa_cons (pe_ix ix_list (pv 5) (pv 2) (fun _ _ => rfl)) pa_nil)))) pss_nil)
      (pss_cons (ps_set (i := 6) nd rfl (Or.inl rfl) (pe_call Ggained (by exact hr.mono (by decide)) (by rfl) Cgained.g Cgained.k Cgained.a .nil pass0 (pa_cons (pe_ix ix_list (pv 5) (pv 4) (fun _ _ => rfl)) (pa_cons (pe_ix ix_list (pv 5) (pe_un un_neg pe_int) (fun _ _ => rfl)) pa_nil))))
      (pss_cons (ps_asg (pe_callB call_divmod (by rfl) Bdivmod (by decide +kernel) (pa_cons (pe_op op_sub (pv 2) (pv 4)) (pa_cons (pe_op op_sub (pe_op op_sub (pe_callB call_len_seq (by rfl) B.len (by decide +kernel) (pa_cons (pv 5) pa_nil)) pe_int) (pv 4)) pa_nil))) (pg_tup rfl (pgs_cons (pg_name (i := 7) nd rfl (Or.inr rfl)) (pgs_cons (pg_name (i := 8) nd rfl (Or.inl rfl)) pgs_nil))))
      (pss_one (ps_ret (pe_lc (own := [("had", 9), ("count", 10)]) (g := (gTup K 2 (gCons (gName 9) (gCons (gName 10) gNil)))) (te := (tOp (rI0 fun i j => .int (i + j)) (tVar 9) (tOp (rI CMul fun i j => .int (i * j)) (tVar 7) (tVar 10)))) (tt := tYes) (by rfl) nd (pi_zipM (by rfl) B.zip (pa_cons (pe_ix ix_list (pv 5) (pe_op op_add (pv 4) (pv 8)) (fun _ _ => rfl)) (pa_cons (pv 6) pa_nil))) (blkOk_by (own := [("had", 9), ("count", 10)]) (N := N_after) (sc := defScope s_after) (by decide +kernel)) (fun _ _ _ _ _ => (pg_tup rfl (pgs_cons (pg_name (i := 9) nd rfl (Or.inl rfl)) (pgs_cons (pg_name (i := 10) nd rfl (Or.inl rfl)) pgs_nil)))) (fun _ _ _ _ _ => pts_nil) (fun _ _ _ _ _ => (pe_op op_add (pv 9) (pe_op op_mul (pv 7) (pv 10))))))))))))), ?_⟩
    refine LS.body j q ?_
    refine sw_seq (sw_asg (ew_call hd ?_))
    walk_at "ob"
    refine ⟨wv, rv, wd, r, p, true, rfl, dw, dr, hw, fun F1 F0 A eC eM gF hX0 => gw_name ?_⟩
    subst eC eM
    refine sw_seq (sw_drop (ew_call hd ?_))
    walk_at "ob"
    refine ⟨n, 0, 1000000000000, rfl, by omega, by omega, ?_⟩
    refine sw_seq (sw_asg (ew_call hd ?_))
    walk_at "ob"
    refine ⟨F0, A, wd, r, p, rfl, rfl, rfl, hX0, hw, hex, fun q F2 n1 n2 TS hR hT g2 dq => ?_⟩
    have gF2 : Ex F F2 := gF.trans g2
    obtain ⟨qa, qxs, eq, lq, dqs⟩ := dp_tup dq
    cases eq
    obtain ⟨u1, u2, rfl, f1, f2⟩ := dps2 dqs
    cases dp_int f1
    obtain ⟨ta, tvs, rfl, lt, dts⟩ := dp_lst f2
    have htl : tvs.length = n2 + 1 := by have := dps_len dts; rw [List.length_map, hT.1] at this; exact this
    have h1 := hR.o
    have h2 := hR.lt
    have h3 := hR.most
    have tget : ∀ i : Nat, i ≤ n2 → ∃ (l : List Int) (tv : Addr), TS[i]? = some l ∧ l.length = wd.ms.length ∧ tvs[i]? = some (.ref tv) ∧ SqT K F2 tv (l.map V.int) := fun i hi => by
      obtain ⟨_, t2, _, p2, _⟩ := hR.same
      obtain ⟨ti, pi⟩ := p2.back i hi
      have e := hT.2 i ti hi pi
      obtain ⟨v, hv, dv⟩ := dps_get dts (d := talD (ti.ms.map Mac.done)) (by rw [List.getElem?_map, e]; rfl)
      obtain ⟨b, bs, rfl, lb, dbs⟩ := dp_tup dv
      rw [dps_ints_iff dbs] at lb
      exact ⟨_, b, e, by rw [List.length_map]; exact pi.ok.len, hv, lb⟩
    refine gw_tup hd ⟨q, _, rfl, lq, rfl, gsw_cons (gw_name (gsw_cons (gw_name (gsw_nil ?_))))⟩
    refine sw_seq (sw_if (tw_test (ew_op ?_)))
    walk_at "ob"
    refine cw_lenS hd (Or.inl lt) ?_
    walk_at "ob"
    refine ⟨fun hb => ?_, fun hb => ?_⟩
    · have hb2 : (n : Int) < (tvs.length : Int) := of_decide_eq_true hb
      have hle : n ≤ n2 := by omega
      obtain ⟨l, tv, e1, e2, e3, e4⟩ := tget n hle
      refine sw_ret (ew_cb (aw_cons (ew_op ?_)))
      walk_at "ob"
      refine rw_ixL hd lt (atI_nat e3) ?_
      refine aw_nil (cw_list hd (Or.inr e4) fun p1 hp1 => ?_)
      exact k p1 _ n1 n2 TS l hR hT (by unfold aft; rw [if_pos hle]; exact e1) (gF2.trans (Ex.new (.refl _) hp1)) upd_same
    have hb2 : ¬ (n : Int) < (tvs.length : Int) := of_decide_eq_false hb
    have hgt : n2 < n := by omega
    obtain ⟨l1, tv1, a1, a2, a3, a4⟩ := tget n1 (by omega)
    obtain ⟨l2, tv2, b1, b2, b3, b4⟩ := tget n2 (by omega)
    have hmod : (n - n1) % (n2 - n1) < n2 - n1 := Nat.mod_lt _ (by omega)
    obtain ⟨l3, tv3, c1, c2, c3, c4⟩ := tget (n1 + (n - n1) % (n2 - n1)) (by omega)
    have hlast : atI tvs (-1) = some (V.ref tv2) := by
      have : tvs = tvs.take n2 ++ [V.ref tv2] := by
        have e := List.take_succ (l := tvs) (i := n2)
        rw [b3, List.take_of_length_le (by omega)] at e
        exact e
      rw [this]
      exact L2.atI_last _ _
    refine sw_next (sw_seq (sw_asg (ew_call hd (aw_cons (ew_op ?_)))))
    walk_at "ob"
    refine rw_ixL hd lt (atI_nat a3) ?_
    refine aw_cons (ew_op ?_)
    walk_at "ob"
    refine rw_ixL hd lt hlast ?_
    refine aw_nil ⟨tv1, tv2, l1, l2, rfl, a4, b4, by omega, by have := hw.m; omega, fun qc F3 g3 hqc => gw_name ?_⟩
    refine sw_seq (sw_asg (ew_cb (aw_cons (ew_op ?_))))
    walk_at "ob"
    refine cw_lenS hd (Or.inl (g3.sqL lt)) ?_
    walk_at "ob"
    have ei : (n : Int) - n1 = ((n - n1 : Nat) : Int) := by omega
    have ek : (tvs.length : Int) - 1 - n1 = ((n2 - n1 : Nat) : Int) := by omega
    rw [ei, ek]
    refine cw_divmod hd ⟨by omega, by omega⟩ fun pd hpd => ?_
    have ed : ((n - n1 : Nat) : Int) / ((n2 - n1 : Nat) : Int) = (((n - n1) / (n2 - n1) : Nat) : Int) := (Int.natCast_ediv _ _).symm
    have em : ((n - n1 : Nat) : Int) % ((n2 - n1 : Nat) : Int) = (((n - n1) % (n2 - n1) : Nat) : Int) := (Int.natCast_emod _ _).symm
    rw [ed, em]
    have hdle : (n - n1) / (n2 - n1) ≤ n := Nat.le_trans (Nat.div_le_self _ _) (Nat.sub_le _ _)
    refine gw_tup hd ⟨pd, _, rfl, SqT.of upd_same, rfl, gsw_cons (gw_name (gsw_cons (gw_name (gsw_nil ?_))))⟩
    have gd : Ex F3 (upd F3 pd (.tup [.int (((n - n1) / (n2 - n1) : Nat) : Int), .int (((n - n1) % (n2 - n1) : Nat) : Int)])) := Ex.new (.refl _) hpd
    generalize (upd F3 pd (.tup [.int (((n - n1) / (n2 - n1) : Nat) : Int), .int (((n - n1) % (n2 - n1) : Nat) : Int)])) = F4 at gd ⊢
    have eij : (n1 : Int) + (((n - n1) % (n2 - n1) : Nat) : Int) = ((n1 + (n - n1) % (n2 - n1) : Nat) : Int) := by omega
    refine sw_ret (ew_lcZM hd (aw_cons (ew_op ?_)))
    walk_at "ob"
    rw [eij]
    refine rw_ixL hd ((g3.trans gd).sqL lt) (atI_nat c3) ?_
    walk_at "ob"
    have hll : l3.length = (zsub l1 l2).length := by
      unfold zsub
      rw [List.length_zipWith]
      omega
    refine ⟨tv3, qc, l3.map V.int, (zsub l1 l2).map V.int, rfl, (g3.trans gd).sqT c4, SqL.of (gd _ _ hqc), by rw [List.length_map, List.length_map]; exact hll, by rw [List.length_map]; have := hw.m; omega, fun Dl hDl => ?_⟩
    refine ⟨fun i acc _ G => Ex F4 G ∧ acc = ((zadd (((n - n1) / (n2 - n1) : Nat) : Int) l3 (zsub l1 l2)).take i).map V.int, ⟨.refl _, rfl⟩, ?_, ?_, ?_⟩
    · rintro i acc _ G hi hg ⟨g, rfl⟩
      exact ⟨⟨(g3.trans (gd.trans g)).sqT c4, SqL.of (g _ _ (gd _ _ hqc))⟩, by rw [List.length_map]; exact List.length_take_le _ _⟩
    · rintro i acc x y _ G T hx hy hg ⟨g, rfl⟩ hT2 hne
      have hd' := hd.jd (D := Dl) (acc := ((zadd (((n - n1) / (n2 - n1) : Nat) : Int) l3 (zsub l1 l2)).take i).map V.int)
      rw [List.getElem?_map] at hx hy
      obtain ⟨x', hx', rfl⟩ := Option.map_eq_some_iff.mp hx
      obtain ⟨y', hy', rfl⟩ := Option.map_eq_some_iff.mp hy
      refine gw_tup hd' ⟨T, _, rfl, SqT.of upd_same, rfl, gsw_cons (gw_name (gsw_cons (gw_name (gsw_nil ⟨rfl, ?_⟩))))⟩
      refine tw_yes ⟨fun _ => ?_, (fun z => by cases z)⟩
      refine ew_op ?_
      walk_at "ob"
      have hd0 : (0 : Int) ≤ (((n - n1) / (n2 - n1) : Nat) : Int) := Int.natCast_nonneg _
      have hd1 : (((n - n1) / (n2 - n1) : Nat) : Int) ≤ 1000000000000 := Int.ofNat_le.mpr (Nat.le_trans hdle hn)
      refine rw_I (Or.inl ⟨Int.lt_of_lt_of_le (by decide) hd0, Int.lt_of_le_of_lt hd1 (by decide)⟩) ?_
      walk_at "ob"
      refine ⟨g.trans (Ex.new (.refl _) hT2), ?_⟩
      unfold zadd
      rw [zip_get hx' hy', List.map_append]
      rfl
    · rintro acc _ G hg ⟨g, rfl⟩
      have e : (zadd (((n - n1) / (n2 - n1) : Nat) : Int) l3 (zsub l1 l2)).take (l3.map V.int).length = zadd (((n - n1) / (n2 - n1) : Nat) : Int) l3 (zsub l1 l2) := by
        unfold zadd
        rw [List.take_of_length_le]
        rw [List.length_zipWith, List.length_map]
        omega
      rw [e]
      refine k Dl _ n1 n2 TS _ hR hT ?_ (gF2.trans (g3.trans (gd.trans (g.trans (Ex.new (.refl _) hg))))) upd_same
      unfold aft
      rw [if_neg (by omega), a1, b1, c1]
end
end Obr
namespace Obr
open PySem PySem.Spec PyProof.Rows L2 LamX NdefX
/-! ### lambdas that are kept and called elsewhere -/
structure LF where
  qual : Str
  params : Arguments
  body : Expr
  scope : Scope
  cl : List (Str × Addr)
  c : Addr
  dt : Option Addr
def LF.dV (F : LF) : Value := match F.dt with
  | some t => .ref t
  | none => .none
abbrev LF.nf (F : LF) : NF := ⟨"<lambda>", F.qual, F.params, [], F.scope, F.cl, F.c⟩
abbrev LF.fd (F : LF) (doc pm ctv : Value) : FuncData := PySem.W.kdv_fn "<lambda>" F.qual F.params (.expr F.body) F.scope F.cl F.dV doc pm (.ref F.c) ctv
/-- the object at f is the lambda F -/
def LamO (f : Addr) (F : LF) : HO := .ext fun h => ∃ (od : Option Addr) (sl : Array (Option Value)) (doc pm ctv : Value), h.get? f = some (⟨.type "function", od, .func (F.fd doc pm ctv), sl⟩ : Obj)
theorem lamO_at {P : Program} {w : World} {H : Hp} {h : Heap} {f : Addr} {F : LF} (hok : HOk P w H h) (e : H f = some (LamO f F)) : ∃ (od : Option Addr) (sl : Array (Option Value)) (doc pm ctv : Value), h.get? f = some (⟨.type "function", od, .func (F.fd doc pm ctv), sl⟩ : Obj) := by
  obtain ⟨z, _, _⟩ := hok f _ e
  exact z
section
variable {X : Cx} {pins : List (Addr × Obj)} {σ : L2.St} {H : Hp} {s : Shared}
theorem inv_lam {F : LF} {o : Obj} {t' : Nat} {doc pm ctv : Value} (I : Inv X pins σ H s) (ho : o = { cls := .type "function", data := .func (F.fd doc pm ctv) }) :
    Inv X pins σ (upd H s.heap.objs.size (LamO s.heap.objs.size F)) { s with heap := s.heap.push o, toks := t' } := by
  subst ho
  refine I.laid (a := s.heap.objs.size) (fun b u e => Heap.get?_push_of_some _ e) (Nat.le_refl _) ?_
  have e : (s.heap.push ({ cls := .type "function", data := .func (F.fd doc pm ctv) } : Obj)).get? s.heap.objs.size = some ({ cls := .type "function", data := .func (F.fd doc pm ctv) } : Obj) := Heap.get?_push_size _ rfl
  exact ⟨⟨_, _, doc, pm, ctv, e⟩, ⟨_, e⟩, fun h1 h2 ⟨od, sl, d, p, t, z⟩ st => ⟨od, sl, d, p, t, st _ z⟩⟩
/-- how the heap changes when a lambda is made -/
inductive LamStep (H : Hp) (P : Addr) (pos : Pos) (q : Str) (mk : Addr → LF) : Addr → Addr → Hp → Prop where
  | new {ps : Array Value} {f c' : Addr} (hP : H P = some (.tbl ps)) (nc : H c' = none) (nf : upd (upd H P (.tbl (ps ++ #[rawInt pos.line, rawInt pos.col, .ref c']))) c' (CodeO c' q) f = none) :
      LamStep H P pos q mk f c' (upd (upd (upd H P (.tbl (ps ++ #[rawInt pos.line, rawInt pos.col, .ref c']))) c' (CodeO c' q)) f (LamO f (mk c')))
  | hit {ps : Array Value} {f c' : Addr} (hP : H P = some (.tbl ps)) (hc : codeAmong pos ps.toList = some (.ref c')) (nf : H f = none) : LamStep H P pos q mk f c' (upd H f (LamO f (mk c')))
theorem lam_tail {T : List NTab} {nm : Nat → Nat → Str} {c P : Addr} {qual : Str} {params : Arguments} {body : Expr} {scope : Scope} {pos : Pos} {dt : Option Addr} {dV : Value} {fl : Nat} {E : Value → Shared → Prop} {Q : Value → Shared → Prop} (I : Inv X pins σ H s) (TB : TabB X.base X.mg c P) (hcode : X.env.code = .ref c)
    (hm : (P, nm) ∈ T) (hn : nm pos.line pos.col = qual) (hu : ∀ p ∈ T, p.1 = P → p.2 = nm) (hT : TabsN T H) (hfree : ∀ y ∈ scope.names, y.2 = .free → ∃ c, X.env.cells.lookup y.1 = some c)
    (hdV : dV = match dt with | some t => .ref t | none => .none)
    (h : ∀ (f c' : Addr) (H1 : Hp) (s' : Shared), Inv X pins σ H1 s' → LamStep H P pos qual (fun c' => ⟨qual, params, body, scope, cloFrom X.env.cells scope.names [], c', dt⟩) f c' H1 → Q (.ref f) s') :
    wpAny (model X.prog X.w) X.A (makeTail "<lambda>" qual params (.expr body) scope X.env dV .none none pos fl) Q E s := by
  obtain ⟨ps, hP, ht, ha⟩ := (show TabN H P nm from hT _ hm)
  have bP : s.heap.BuiltinsAt X.mg P := TB.bm.keeps I.bk
  have hP' : s.heap.get? P = some { cls := .none, data := .fields ps } := I.hok P _ hP
  have eF : ∀ (c' : Addr) (doc pm ctv : Value), PySem.W.kdv_obj "<lambda>" qual params (.expr body) scope (cloFrom X.env.cells scope.names []) dV doc pm c' ctv = { cls := .type "function", data := .func ((⟨qual, params, body, scope, cloFrom X.env.cells scope.names [], c', dt⟩ : LF).fd doc pm ctv) } := fun c' doc pm ctv => by
    rw [hdV]
    cases dt <;> rfl
  cases hc : codeAmong pos ps.toList with
  | none =>
    refine PySem.W.kdv_makeTail (mg := X.mg) (c := c) (P := P) (ps := ps) (closure_ok hfree) I.ok.glob (I.mod.glob.keeps I.bk) hcode (TB.code.keeps I.bk) hP' ht hc TB.gP bP fun c' ctv doc h' tk hx hge hlt hrec htb => ?_
    obtain ⟨c2, oc, vs, t, e2, hoc, hd, hv⟩ := hrec
    cases e2
    have nC : H c' = none := I.hok.fresh hge
    have I1 := inv_table (t' := tk) (more := #[rawInt pos.line, rawInt pos.col, .ref c']) (h' := h') I hP (fun b o hb e => hx b o hb e) htb hge ⟨oc, vs, t, hoc, hd, hv⟩
    have nF := I1.hok.fresh (Nat.le_refl _)
    have I2 := inv_lam (F := ⟨qual, params, body, scope, cloFrom X.env.cells scope.names [], c', dt⟩) (t' := tk) (doc := doc) (pm := (X.mg "__name__").getD .none) (ctv := ctv) I1 (eF _ _ _ _)
    exact h h'.objs.size c' _ _ I2 (.new hP nC nF)
  | some cv =>
    obtain ⟨c', e, hco⟩ := ha pos cv hc
    subst e
    rw [hn] at hco
    refine PySem.W.kdv_makeTailHit (mg := X.mg) (c := c) (P := P) (ps := ps) (closure_ok hfree) I.ok.glob (I.mod.glob.keeps I.bk) hcode (TB.code.keeps I.bk) hP' ht hc bP fun ctv doc h' tk hx hsz => ?_
    have I1 : Inv X pins σ H { s with heap := h', toks := tk } := I.kept hx
    have nF : H h'.objs.size = none := I1.hok.fresh (Nat.le_refl _)
    have I2 := inv_lam (F := ⟨qual, params, body, scope, cloFrom X.env.cells scope.names [], c', dt⟩) (t' := tk) (doc := doc) (pm := (X.mg "__name__").getD .none) (ctv := ctv) I1 (eF _ _ _ _)
    exact h h'.objs.size c' _ _ I2 (.hit hP hc nF)
end
/-! ### it is made -/
def tLamb (T : List NTab) (P : Addr) (pos : Pos) (q : Str) (mk : Addr → LF) : TE := fun σ H Q => TabsN T H ∧ ∀ (f c' : Addr) (H1 : Hp), LamStep H P pos q mk f c' H1 → Q (.ref f) H1
/-- with a default that is a number -/
def tLambD (T : List NTab) (P : Addr) (pos : Pos) (q : Str) (n : Int) (mk : Addr → Addr → LF) : TE := fun σ H Q => TabsN T H ∧ ∀ t, H t = none → ∀ (f c' : Addr) (H1 : Hp), LamStep (upd H t (.tup [.int n])) P pos q (mk t) f c' H1 → Q (.ref f) H1
section
variable {X : Cx}
theorem pe_lamb {T : List NTab} {nm : Nat → Nat → Str} {c P : Addr} {params : Arguments} {body : Expr} {scope : Scope} {pos : Pos} (TB : TabB X.base X.mg c P) (hcode : X.env.code = .ref c) (hm : (P, nm) ∈ T) (hn : nm pos.line pos.col = X.env.qual ++ "<lambda>") (hu : ∀ p ∈ T, p.1 = P → p.2 = nm)
    (hfree : ∀ y ∈ scope.names, y.2 = .free → X.env.scope.names.lookup y.1 = some .cell ∨ X.env.scope.names.lookup y.1 = some .free) (hd0 : defaultsOf params X.env = ([], [])) :
    PE X (.Lambda params body scope pos) (tLamb T P pos (X.env.qual ++ "<lambda>") fun c' => ⟨X.env.qual ++ "<lambda>", params, body, scope, cloFrom X.env.cells scope.names [], c', none⟩) := by
  refine ⟨fun pins s σ H Q I h => ?_⟩
  obtain ⟨hT, h⟩ := h
  have hfr : ∀ y ∈ scope.names, y.2 = .free → ∃ c, X.env.cells.lookup y.1 = some c := fun y hy e => (hfree y hy e).elim (fun z => I.ok.has _ (.inl z)) fun z => I.ok.has _ (.inr z)
  refine PySem.W.kla_eval hd0 ?_
  rw [makeFunction_eq]
  simp only [List.zip_nil_right, List.filterMap_nil, List.isEmpty_nil, if_true, pure_bind]
  exact lam_tail (dt := none) I TB hcode hm hn hu hT hfr rfl fun f c' H1 s' I1 st => ⟨.ref f, H1, I1, rfl, h f c' H1 st⟩
theorem pe_lambD {T : List NTab} {nm : Nat → Nat → Str} {c P : Addr} {params : Arguments} {d : Expr} {n : Int} {body : Expr} {scope : Scope} {pos : Pos} (TB : TabB X.base X.mg c P) (hcode : X.env.code = .ref c) (hm : (P, nm) ∈ T) (hn : nm pos.line pos.col = X.env.qual ++ "<lambda>") (hu : ∀ p ∈ T, p.1 = P → p.2 = nm)
    (hfree : ∀ y ∈ scope.names, y.2 = .free → X.env.scope.names.lookup y.1 = some .cell ∨ X.env.scope.names.lookup y.1 = some .free) (hd0 : params.defaults = [d]) (hk0 : params.kw_defaults = []) (hd : PE X d (tC (.int n))) :
    PE X (.Lambda params body scope pos) (tLambD T P pos (X.env.qual ++ "<lambda>") n fun t c' => ⟨X.env.qual ++ "<lambda>", params, body, scope, cloFrom X.env.cells scope.names [], c', some t⟩) := by
  refine ⟨fun pins s σ H Q I h => ?_⟩
  obtain ⟨hT, h⟩ := h
  have hfr : ∀ y ∈ scope.names, y.2 = .free → ∃ c, X.env.cells.lookup y.1 = some c := fun y hy e => (hfree y hy e).elim (fun z => I.ok.has _ (.inl z)) fun z => I.ok.has _ (.inr z)
  refine PySem.W.kdv_lam (by rw [hd0]; rfl) hk0 ?_
  rw [hd0]
  refine PySem.W.kdv_all1 (thn (hd.run pins s σ H (fun v H1 => v = .int n ∧ H1 = H) I ⟨rfl, rfl⟩) fun u s1 ⟨v, H1, I1, r1, q1⟩ => ?_)
  obtain ⟨rfl, rfl⟩ := q1
  refine PySem.W.kdv_all0 ?_
  rw [makeFunction_eq]
  simp only [List.zip_nil_right, List.filterMap_nil, List.isEmpty_nil, if_true, pure_bind, List.isEmpty_cons, Bool.false_eq_true, if_false]
  refine wpAny_bind (wpAny_newTextTuple ?_)
  have hsz : H1 s1.heap.objs.size = none := I1.hok.fresh (Nat.le_refl _)
  have I2 : Inv X pins σ (upd H1 s1.heap.objs.size (.tup [.int n])) { s1 with heap := s1.heap.push { cls := .type "tuple", data := .seq [u].toArray } } := by
    refine I1.laid (t' := s1.toks) (fun b o e => Heap.get?_push_of_some _ e) (Nat.le_refl _) ⟨(by decide : 1 ≤ sizeLine), [u], .cons r1 .nil, ?_⟩
    exact ⟨{ cls := .type "tuple", data := .seq [u].toArray }, Heap.get?_push_size _ rfl, rfl, _, rfl⟩
  exact lam_tail (dt := some s1.heap.objs.size) I2 TB hcode hm hn hu (hT.ext fun b o e => (upd_ne (ne_of_none e hsz)).trans e) hfr rfl fun f c' H2 s' I3 st => ⟨.ref f, H2, I3, rfl, h s1.heap.objs.size hsz f c' H2 st⟩
end
/-! ### what stands behind the step -/
theorem LamStep.facts {T : List NTab} {nm : Nat → Nat → Str} {H H1 : Hp} {P : Addr} {pos : Pos} {q : Str} {mk : Addr → LF} {f c' : Addr} (st : LamStep H P pos q mk f c' H1) (hm : (P, nm) ∈ T) (hn : nm pos.line pos.col = q) (hu : ∀ p ∈ T, p.1 = P → p.2 = nm) (hT : TabsN T H) :
    ExtN H H1 ∧ TabsN T H1 ∧ H f = none ∧ H1 f = some (LamO f (mk c')) ∧ H1 c' = some (CodeO c' q) := by
  obtain ⟨ps0, hP0, ht, ha⟩ := (show TabN H P nm from hT _ hm)
  cases st with
  | @new ps f c' hP nC nF =>
    rw [hP0] at hP
    cases hP
    have hE : ExtN H (upd (upd H P (.tbl (ps0 ++ #[rawInt pos.line, rawInt pos.col, .ref c']))) c' (CodeO c' q)) := fun b o e n => by
      rw [upd_ne (ne_of_none e nC), upd_ne (fun z => n ps0 (Option.some.inj (e.symm.trans (by rw [z]; exact hP0))))]
      exact e
    have eL : (ps0 ++ #[rawInt pos.line, rawInt pos.col, .ref c']).toList = ps0.toList ++ [rawInt pos.line, rawInt pos.col, .ref c'] := by simp
    have T1 : TabsN T (upd (upd H P (.tbl (ps0 ++ #[rawInt pos.line, rawInt pos.col, .ref c']))) c' (CodeO c' q)) := fun p hp => by
      by_cases hb : p.1 = P
      · rw [hu p hp hb, hb]
        refine ⟨_, by rw [upd_ne (ne_of_none hP0 nC), upd_same], by rw [eL]; exact PySem.TriplesOk_snoc _ _ _ _ ht, fun p' cv hcv => ?_⟩
        rw [eL] at hcv
        rcases among_app2 _ ht hcv with z | ⟨z, z1, z2⟩
        · obtain ⟨c0, e1, e2⟩ := ha p' cv z
          exact ⟨c0, e1, hE _ _ e2 codeO_ne⟩
        · refine ⟨c', z, ?_⟩
          rw [← z1, ← z2, hn]
          exact upd_same
      · obtain ⟨ps', a1, a2, a3⟩ := hT p hp
        refine ⟨ps', by rw [upd_ne (ne_of_none a1 nC), upd_ne hb]; exact a1, a2, fun p' cv hcv => ?_⟩
        obtain ⟨c0, e1, e2⟩ := a3 p' cv hcv
        exact ⟨c0, e1, hE _ _ e2 codeO_ne⟩
    have ncf : c' ≠ f := fun z => by rw [z, upd_same] at nF; cases nF
    refine ⟨fun b o e n => ?_, T1.ext fun b o e => (upd_ne (ne_of_none e nF)).trans e, upd_none (upd_none nF), upd_same, (upd_ne ncf).trans upd_same⟩
    have e1 := hE b o e n
    exact (upd_ne (ne_of_none e1 nF)).trans e1
  | @hit ps f c' hP hc nF =>
    rw [hP0] at hP
    cases hP
    obtain ⟨c0, e1, e2⟩ := ha pos _ hc
    cases e1
    rw [hn] at e2
    exact ⟨fun b o e _ => (upd_ne (ne_of_none e nF)).trans e, hT.ext fun b o e => (upd_ne (ne_of_none e nF)).trans e, nF, upd_same, (upd_ne (ne_of_none e2 nF)).trans e2⟩
section
variable {S : Type} {J : S → Hp → Hp → Prop} {σ : L2.St} {s : S} {F : Hp} {R : V → S → Hp → Prop}
theorem tabs_hid (hd : Hid J) {T : List NTab} {H : Hp} (j : J s F H) (hT : TabsN T F) : TabsN T H := hT.ext fun b o e => hd.ex j b o e
theorem step_hid (hd : Hid J) {P : Addr} {pos : Pos} {q : Str} {mk : Addr → LF} {f c' : Addr} {H H1 : Hp} {ps : Array Value} (j : J s F H) (hP : F P = some (.tbl ps)) (st : LamStep H P pos q mk f c' H1) : ∃ F1, LamStep F P pos q mk f c' F1 ∧ J s F1 H1 := by
  have hPH := hd.ex j P _ hP
  cases st with
  | @new ps' f c' hP' nC nF =>
    rw [hPH] at hP'
    cases hP'
    have nPc : c' ≠ P := fun z => by rw [z, hPH] at nC; cases nC
    have j1 := hd.mu (o' := .tbl (ps ++ #[rawInt pos.line, rawInt pos.col, .ref c'])) j hP
    have j2 := hd.al (o := CodeO c' q) j1 (by rw [upd_ne nPc]; exact nC)
    have j3 := hd.al (o := LamO f (mk c')) j2 nF
    exact ⟨_, .new hP (hd.fresh j nC) (hd.fresh j2 nF), j3⟩
  | @hit ps' f c' hP' hc nF =>
    rw [hPH] at hP'
    cases hP'
    exact ⟨_, .hit hP hc (hd.fresh j nF), hd.al j nF⟩
theorem ew_lamb (hd : Hid J) {T : List NTab} {P : Addr} {pos : Pos} {q : Str} {mk : Addr → LF} {ps : Array Value} (hT : TabsN T F) (hP : F P = some (.tbl ps)) (h : ∀ (f c' : Addr) (F1 : Hp), LamStep F P pos q mk f c' F1 → R (.ref f) s F1) : EW J (tLamb T P pos q mk) σ s F R := fun H j Q k =>
  ⟨tabs_hid hd j hT, fun f c' H1 st => by
    obtain ⟨F1, st1, j1⟩ := step_hid hd j hP st
    exact k _ _ _ _ j1 (h f c' F1 st1)⟩
theorem ew_lambD (hd : Hid J) {T : List NTab} {P : Addr} {pos : Pos} {q : Str} {n : Int} {mk : Addr → Addr → LF} {ps : Array Value} (hT : TabsN T F) (hP : F P = some (.tbl ps)) (h : ∀ t, F t = none → ∀ (f c' : Addr) (F1 : Hp), LamStep (upd F t (.tup [.int n])) P pos q (mk t) f c' F1 → R (.ref f) s F1) : EW J (tLambD T P pos q n mk) σ s F R := fun H j Q k =>
  ⟨tabs_hid hd j hT, fun t ht f c' H1 st => by
    have nt := hd.fresh j ht
    obtain ⟨F1, st1, j1⟩ := step_hid hd (hd.al j ht) ((upd_ne (ne_of_none hP nt)).trans hP) st
    exact k _ _ _ _ j1 (h t nt f c' F1 st1)⟩
end
end Obr
namespace Obr
open PySem PySem.Spec PyProof.Rows L2 LamX NdefX
/-! ### a lambda is called -/
abbrev LSp := List (Option V) → Hp → VK → XK → Prop
/-- where the lambda F stands: itself, its code, its default -/
structure LamAt (H : Hp) (f : Addr) (F : LF) (ds : List V) : Prop where
  fn : H f = some (LamO f F)
  code : H F.c = some (CodeO F.c F.qual)
  dflt : ∀ t, F.dt = some t → H t = some (.tup ds)
theorem LamAt.keep {H H' : Hp} {f : Addr} {F : LF} {ds : List V} (a : LamAt H f F ds) (g : Ex H H') : LamAt H' f F ds := ⟨g _ _ a.fn, g _ _ a.code, fun t e => g _ _ (a.dflt t e)⟩
structure LamOk (P : Program) (w : World) (K : PySem.W.Frag) (mg : Str → Option Value) (base : Heap) (CX : CXT) (k : Nat) (f : Addr) (F : LF) (ds : List V) (fr : List Str) (sp : LSp) : Prop where
  run : ∀ (A : Around) (outer : List Env) (s : Shared) (H : Hp) (ws : List (Option V)) (Q : VK) (E : XK), Room k A → Env0 P w K mg base A outer s H → LamAt H f F ds → CellsAt F.cl fr ws s.heap H → sp ws H Q E →
    codeAny (model P w) A (.call (.ref f) ⟨[], []⟩) (CR CX outer P w H s Q E) s
  mono_ : ∀ (ws : List (Option V)) (H : Hp) (Q Q' : VK) (E E' : XK), sp ws H Q E → (∀ v H', Q v H' → Q' v H') → (∀ cls d H', E cls d H' → E' cls d H') → sp ws H Q' E'
section
variable {CX : CXT} {P : Program} {w : World} {K : PySem.W.Frag} {mg : Str → Option Value} {base : Heap} {N ps fr : List Str} {F : LF} {f : Addr} {k j : Nat} {ds : List V} {sp : LSp}
/-- how the defaults are bound -/
def BindD (F : LF) (ps : List Str) (ds : List V) : Prop := ∀ (P : Program) (w : World) (s : Shared) (H : Hp) (doc pm ctv : Value), HOk P w H s.heap → (∀ t, F.dt = some t → H t = some (.tup ds)) → ∃ us, Vals ds us ∧ BindsTo s (F.fd doc pm ctv) ⟨[], []⟩ (ps.zip us)
theorem bind0 (h : ∀ doc pm ctv : Value, bindArgs (F.fd doc pm ctv) ⟨[], []⟩ = pure []) : BindD F [] [] := fun P w s H doc pm ctv _ _ => ⟨[], .nil, BindsTo.of_eq (h doc pm ctv)⟩
theorem bind1 {t : Addr} {p : Str} {n : Int} (ht : F.dt = some t) (h : ∀ (doc pm ctv u : Value), ∃ k, bindArgs (F.fd doc pm ctv) ⟨[], []⟩ = seqItems? (.ref t) >>= k ∧ k (some #[u]) = pure [(p, u)]) : BindD F [p] [.int n] := fun P w s H doc pm ctv hok hd => by
  obtain ⟨_, its, r, o, ho, _, m, hs⟩ := hok t _ (hd t ht)
  cases r with
  | cons r0 r1 =>
    cases r1
    rename_i u
    obtain ⟨kk, h1, h2⟩ := h doc pm ctv u
    have hdf : (F.fd doc pm ctv).defaults = .ref t := by
      show F.dV = .ref t
      unfold LF.dV
      rw [ht]
    exact ⟨[u], .cons r0 .nil, BindsTo.of_defaults (T := t) (k := kk) hdf ho hs (by rw [hdf]; exact h1) h2⟩
theorem lok_of (S : NScope N ps fr F.scope) (hl : ds.length = ps.length) (hb : BindD F ps ds) (hmo : ∀ (ws : List (Option V)) (H : Hp) (Q Q' : VK) (E E' : XK), sp ws H Q E → (∀ v H', Q v H' → Q' v H') → (∀ cls d H', E cls d H' → E' cls d H') → sp ws H Q' E')
    (hbody : ∀ (A : Around) (outer : List Env) (s : Shared) (H : Hp) (ws : List (Option V)) (Q : VK) (E : XK), Room k (A.deeper (envF F.nf f s.heap.objs.size)) → LamAt H f F ds → ws.length = fr.length → sp ws H Q E →
      ∃ t, PE (ncx CX P w K mg base N F.nf f A outer s H E) F.body t ∧ t (startF N ds ws) H Q) :
    LamOk P w K mg base CX (k + 1) f F ds fr sp := by
  refine ⟨fun A outer s H ws Q E hr e0 ha C hsp => ?_, hmo⟩
  have lim : s.heap.NoLimit := e0.mod.nolimit.keeps fun b o e => (e0.bs b o e).1
  obtain ⟨od, sl, doc, pm, ctv, ho⟩ := lamO_at e0.hok ha.fn
  obtain ⟨us, r, hbi⟩ := hb P w s H doc pm ctv e0.hok ha.dflt
  refine PySem.W.kla_callFunE hr.depth ho rfl S.co S.gen rfl (codeO_at e0.hok ha.code) (hbi _ _ _ _ ?_)
  refine wpAny_newFunctionEnv S.nocell (fun ⟨n, _⟩ hy => S.par n (List.of_mem_zip hy).1) (fun h₁ hns hsb => ⟨lim.fresh _ hsb, ?_⟩) S.kind
  show codeAny _ _ (.expr F.body (envF F.nf f s.heap.objs.size)) _ _
  have kp : ∀ b o, s.heap.get? b = some o → h₁.get? b = some o := fun b o e => hsb.extBut b o (Nat.ne_of_lt (Heap.lt_size e)) (Heap.get?_push_of_some _ e)
  obtain ⟨t, ht, hq⟩ := hbody A outer s H ws Q E (hr.deeper _) ha C.len hsp
  have I : Inv (ncx CX P w K mg base N F.nf f A outer s H E) [] (startF N ds ws) H { s with heap := h₁, toks := s.toks + (ps.zip us).length } := inv_startN (F := F.nf) S hr.hd e0 hl r C hns kp
  refine PySem.W.kla_codeExpr (wpAny_mono (ht.run [] _ (startF N ds ws) H Q I hq) (fun v s' hs => ?_) fun e s' hs => hs)
  obtain ⟨v', H', J, rv, q⟩ := hs
  exact ⟨v', H', J.os, J.bare, J.base, J.hok, rv, q⟩
end
section
variable {X : Cx} {pins : List (Addr × Obj)} {σ : L2.St} {H : Hp} {s : Shared} {CX : CXT} {F : LF} {f : Addr} {ds : List V} {fr : List Str} {ws : List (Option V)} {i j k : Nat} {a : Str} {sp : LSp} {E : L2.St → XK} {p pos : Pos}
theorem lamFnAt (I : Inv X pins σ H s) (e : H f = some (LamO f F)) : PySem.W.FnAt f s.heap := by
  obtain ⟨od, sl, doc, pm, ctv, ho⟩ := lamO_at I.hok e
  exact ⟨_, od, _, sl, ho⟩
/-- what the cells held at the frame's entry they hold still; the frames' slots may change -/
theorem cells_later {cl : List (Str × Addr)} (C : CellsAt cl fr ws X.s_0.heap X.H_0) (nx : X.ex = []) (I : Inv X pins σ H s) : CellsAt cl fr ws s.heap H := by
  have nx' : ∀ b : Addr, b ∉ X.ex := fun b z => by rw [nx] at z; cases z
  have kp : ∀ y c, cl.lookup y = some c → ∀ v, X.s_0.heap.IsCell c v → s.heap.IsCell c v := fun y c e v ⟨o, ho, hd⟩ => by
    obtain ⟨sl, q⟩ := I.base.any ho (C.all y c e).1 (nx' c)
    exact ⟨_, q, hd⟩
  refine ⟨C.len, fun y c e => ?_, C.inj, fun i y e => ?_⟩
  · obtain ⟨n, v, z⟩ := C.all y c e
    refine ⟨?_, v, kp y c e v z⟩
    obtain ⟨o, ho, _⟩ := z
    exact I.base.free c o ho n (nx' c)
  · obtain ⟨c, hc, hv⟩ := C.has i y e
    refine ⟨c, hc, fun v ev => ?_⟩
    obtain ⟨u, r, z⟩ := hv v ev
    exact ⟨u, r, kp y c hc _ z⟩
/-- a(), a a name of the running frame that holds a lambda; what its cells hold is told of the frame's entry -/
theorem pe_calll (O : LamOk X.prog X.w X.K X.mg X.base CX k f F ds fr sp) (C : CellsAt F.cl fr ws X.s_0.heap X.H_0) (nx : X.ex = []) (hr : Room j X.A) (hk : k ≤ j) (hx : ∀ σ, PassesAt CX X σ (E σ)) (hN : X.N[i]? = some a) (hv : Vis X.env.scope a)
    (hd : (a == ("__debug__" : Str)) = false := by decide) (hcd : (a == ("__classdict__" : Str)) = false := by decide) :
    PE X (.Call (.Name a p) [] [] pos) (fun σ H Q => σ[i]? = some (some (.ref f)) ∧ LamAt H f F ds ∧ sp ws H Q (E σ)) := by
  refine ⟨fun pins s σ H Q I h => ?_⟩
  obtain ⟨hs, ha, q⟩ := h
  refine wpAny_Call_Name_kw (thn ((pe_var (pos := p) hN hv hd hcd).run pins s σ H (fun v H1 => v = .ref f ∧ H1 = H) I ⟨.ref f, hs, rfl, rfl⟩) fun u s1 ⟨v, H1, I1, r1, q1⟩ => ?_)
  obtain ⟨ev, eH⟩ := q1
  subst ev
  rw [eH] at I1
  obtain rfl : u = Value.ref f := r1
  refine PySem.W.callWith_F0 (first := []) (lamFnAt I1 ha.fn) ?_
  show wpAny _ _ (call (.ref f) []) _ _ _
  refine wpAny_call (codeAny_mono (O.run X.A X.stack s1 H ws Q (E σ) (hr.mono hk) I1.env0 ha (cells_later C nx I1) q) fun r s' hq => ?_)
  cases r with
  | error e => exact hx σ pins H s1 e s' I1 hq
  | ok fl =>
    cases fl with
    | ret u => exact I1.after hq
    | next => exact False.elim hq
    | brk => exact False.elim hq
    | cont => exact False.elim hq
end
/-! ### a def that is handed a lambda and calls it -/
/-- TT: what the def makes of the lambda's promise -/
abbrev TTr := (XK → Hp → VK → Prop) → Hp → VK → XK → Prop
structure GOk (P : Program) (w : World) (K : PySem.W.Frag) (mg : Str → Option Value) (base : Heap) (CX CXl : CXT) (k kl : Nat) (g : Addr) (TT : TTr) : Prop where
  run : ∀ (A : Around) (outer : List Env) (s : Shared) (H : Hp) (f : Addr) (F : LF) (ds : List V) (fr : List Str) (ws : List (Option V)) (sp : LSp) (Q : VK) (E : XK), Room k A → Env0 P w K mg base A outer s H → LamAt H f F ds → CellsAt F.cl fr ws s.heap H →
    LamOk P w K mg base CXl kl f F ds fr sp → TT (fun E' H' Q' => LamAt H' f F ds ∧ sp ws H' Q' E') H Q E → codeAny (model P w) A (.call (.ref g) ⟨[.ref f], []⟩) (CR CX outer P w H s Q E) s
end Obr
namespace Obr
open PySem PySem.Spec PyProof.Rows L2 LamX NdefX
section
variable {X : Cx} {pins : List (Addr × Obj)} {σ : L2.St} {H : Hp} {s : Shared}
/-- b is none of the frame's own things -/
def Away (X : Cx) (pins : List (Addr × Obj)) (b : Addr) : Prop := (b ∈ X.ex ∨ X.s_0.heap.objs.size ≤ b) ∧ b ≠ X.env.locals ∧ (∀ x c, X.env.cells.lookup x = some c → c ≠ b) ∧ ∀ p ∈ X.pn ++ pins, p.1 ≠ b
theorem away_new (I : Inv X pins σ H s) {b : Addr} (h : s.heap.objs.size ≤ b) : Away X pins b := by
  obtain ⟨_, h1, _, h2, h3, h4⟩ := I.fpOk (H' := fun _ => none) h rfl
  exact ⟨h2, h1, h3, h4⟩
/-- things that nobody tracks have changed -/
theorem inv_ch {ch : List Addr} {h' : Heap} {tk : Nat} (I : Inv X pins σ H s) (ha : ∀ b ∈ ch, Away X pins b) (hn : ∀ b ∈ ch, H b = none) (k : ∀ b o, b ∉ ch → s.heap.get? b = some o → h'.get? b = some o) : Inv X pins σ H { s with heap := h', toks := tk } := by
  have kn : ∀ b u, H b = some u → b ∉ ch := fun b u e z => by rw [hn b z] at e; cases e
  refine I.call' (ch := ch) (s' := { s with heap := h', toks := tk }) rfl ⟨fun b o e _ _ hx => k b o hx e, fun b o e _ _ hx => ⟨o.slots, k b o hx e⟩, fun _ _ _ n _ => n, fun b o e hx => ⟨o, k b o hx e⟩, fun _ _ e => e, fun _ _ _ e => e, fun b ps e => ⟨#[], by rw [e]; simp⟩⟩ (fun b u e => ?_) I.bare ha
  refine (I.hok b u e).stay (fun c v hc q => k c v ?_ q) (fun _ q => q) fun _ _ q => q
  rcases hc with z | z
  · rw [z]
    exact kn b u e
  · exact kn c _ z
/-- a thing that stands there is tracked from now on -/
theorem inv_learn {D : Addr} {o : HO} (I : Inv X pins σ H s) (ha : Away X pins D) (hn : H D = none) (ho : ObjOk X.prog X.w (upd H D o) s.heap D o) : Inv X pins σ (upd H D o) s := by
  have nD : ∀ b u, H b = some u → b ≠ D := fun b u e => ne_of_none e hn
  refine I.call' (ch := [D]) rfl ⟨fun b o e _ _ _ => e, fun b o e _ _ _ => ⟨o.slots, e⟩, fun b o e n hx => ?_, fun b o e _ => ⟨o, e⟩, fun b xs e => by rw [upd_ne (nD b _ e)]; exact e, fun b o u e => by rw [upd_ne (nD b _ e)]; exact e, fun b ps e => ⟨#[], by rw [upd_ne (nD b _ e), e]; simp⟩⟩ (fun b u e => ?_) I.bare fun b hb => by rw [List.mem_singleton.mp hb]; exact ha
  · rw [upd_ne (fun z => hx (by rw [z]; exact List.mem_singleton_self _))]
    exact n
  · by_cases hb : b = D
    · subst hb
      rw [upd_same] at e
      cases e
      exact ho
    · rw [upd_ne hb] at e
      exact (I.hok b u e).stay (fun c v hc q => q) (fun c q => by rw [upd_ne (nD c _ q)]; exact q) fun c xs q => by rw [upd_ne (nD c _ q)]; exact q
end
theorem vals_refs : ∀ {xs : List V} {a b : List Value}, (∀ y ∈ xs, ∃ f, y = V.ref f) → Vals xs a → Vals xs b → a = b
  | _, _, _, _, .nil, .nil => rfl
  | _, _, _, h, .cons r1 k1, .cons r2 k2 => by
    obtain ⟨f, rfl⟩ := h _ (List.mem_cons_self ..)
    cases r1
    cases r2
    rw [vals_refs (fun y hy => h y (List.mem_cons_of_mem _ hy)) k1 k2]
/-! ### [x(a) for a in ..], x a def that is handed a lambda -/
def KCall (X : Cx) (CXl : CXT) (kl : Nat) (TT : TTr) (σ : L2.St) (y : V) (H : Hp) (R : VK) : Prop :=
  ∃ (f : Addr) (F : LF) (ds : List V) (fr : List Str) (js : List Nat) (sp : LSp), y = .ref f ∧ LamAt H f F ds ∧ (X.Ok → Caps X F.cl fr js) ∧ LamOk X.prog X.w X.K X.mg X.base CXl kl f F ds fr sp ∧ TT (fun E' H' Q' => LamAt H' f F ds ∧ sp (js.map (slotAt σ)) H' Q' E') H R C8.E0
def tKC (X : Cx) (CXl : CXT) (kl : Nat) (TT : TTr) (tl : TE) : TE := fun σ H Q => tl σ H fun v H1 => ∃ l xs, v = .ref l ∧ SqL X.K H1 l xs ∧ xs.length ≤ 1000 ∧ (∀ y ∈ xs, ∃ f, y = V.ref f) ∧ ∃ Pv : Nat → List V → Hp → Prop, Pv 0 [] H1 ∧ (∀ i acc H, Pv i acc H → SqL X.K H l xs) ∧
  (∀ (i : Nat) acc y H, xs[i]? = some y → Pv i acc H → KCall X CXl kl TT σ y H fun z H' => Pv (i + 1) (acc ++ [z]) H') ∧ ∀ acc H, Pv xs.length acc H → ∀ D, H D = none → Q (.ref D) (upd H D (.lst acc))
theorem pe_kcomp {X : Cx} {tl : TE} {iter : Expr} {x a : Str} {g : Addr} {scope : Scope} {pn pa pt cpos pos : Pos} {TT : TTr} {CXl : CXT} {kg kl j : Nat}
    (hc : X.calm = true) (hl : PE X iter tl) (hcellS : ∀ y ∈ scope.names, y.2 ≠ .cell) (hkS : scope.kind = .function) (hnS : ∀ y ∈ scope.names, y.2 = .local → scope.names.lookup y.1 = some .local)
    (hfr : ∀ y ∈ scope.names, y.2 = .free → X.env.scope.names.lookup y.1 = some .cell ∨ X.env.scope.names.lookup y.1 = some .free)
    (hal : scope.names.lookup a = some .local) (hgl : (relS scope X.env.scope).names.lookup x = some .globalImplicit) (hm : X.mg x = some (.ref g)) (hk : PySem.W.keepIn X.K (.ref g) = true)
    (G : GOk X.prog X.w X.K X.mg X.base C8.CX0 CXl kg kl g TT) (hr : Room j X.A) (hj : kg ≤ j) (hs : ∀ x, foldedSetIterable iter X.env x = pure x := by intro _; rfl)
    (hd : (x == ("__debug__" : Str)) = false := by decide) (hda : (a == ("__debug__" : Str)) = false := by decide) :
    PE X (.ListComp (.Call (.Name x pn) [.Name a pa] [] cpos) [⟨.Name a pt, iter, [], 0⟩] scope pos) (tKC X CXl kl TT tl) := by
  refine ⟨fun pins s σ H Q I h => ?_⟩
  have hfree : ∀ y ∈ scope.names, y.2 = .free → ∃ c, X.env.cells.lookup y.1 = some c := fun y hy e => (hfr y hy e).elim (fun z => I.ok.has _ (.inl z)) fun z => I.ok.has _ (.inr z)
  refine ListComp_goes (closure_ok hfree) hcellS hkS hnS (thn (hl.run pins s σ H _ I h) fun v s1 ⟨xv, H1, I1, r1, q1⟩ => ?_) hs
  obtain ⟨l, xs, rfl, la, hx, hrf, Pv, p0, pl, pt', pd⟩ := q1
  cases r1
  obtain ⟨its, rv, p, hz⟩ := I1.list la
  have hlen : xs.length = its.length := rv.length
  refine wpAny_pyIter_list p.isList ?_
  have hn1 : ∀ b, s1.heap.objs.size ≤ b → b ∉ frs X.stack := fun f hf z => by
    rcases List.mem_cons.mp (I1.stkSub _ z) with e | e
    · have h1 := I1.lt
      rw [← e] at h1
      exact Nat.lt_irrefl _ (Nat.lt_of_lt_of_le h1 hf)
    · exact I1.nofs hf e
  have hll : l < s1.heap.objs.size := by
    obtain ⟨o, ho, _⟩ := p.isList
    exact Heap.lt_size ho
  have aw : ∀ b, s1.heap.objs.size ≤ b → Away X pins b := fun b hb => away_new I1 hb
  generalize hIt : s1.heap.objs.size = it at hn1 hll aw ⊢
  have hsz2 : (s1.heap.push { cls := .type "list_iterator", data := .fields #[.ref l, .int 0 0] }).objs.size = it + 1 := by rw [Heap.size_push, hIt]
  have hh := I1.ok.hd hc
  refine ⟨it, [it, l], [it], its.toArray.size, _, _, rfl, Goes.list hh it l (Nat.ne_of_lt hll) its.toArray, ?_, ⟨⟨_, by rw [← hIt]; exact Heap.get?_push_size _ rfl, rfl, rfl⟩, p.isList.at fun o e => Heap.get?_push_of_some _ e⟩, ?_, fun D C s3 B => ?_⟩
  · have : its.toArray.size = xs.length := by rw [List.size_toArray, hlen]
    rw [this]
    exact Nat.le_trans hx (by decide)
  · intro b hb
    show b < (s1.heap.push _).objs.size
    rw [hsz2]
    rcases List.mem_cons.mp hb with rfl | hb
    · exact Nat.lt_succ_self _
    · rw [List.mem_singleton.mp hb]
      exact Nat.lt_succ_of_lt hll
  obtain ⟨⟨h3, tk3, rfl⟩, old, nD, nC, hDC, hnm⟩ := B
  have nD' : it + 1 ≤ D := by rw [← hsz2]; exact nD
  have nC' : it + 1 ≤ C := by rw [← hsz2]; exact nC
  have nDi : D ≠ it := fun z => by rw [z] at nD'; exact Nat.lt_irrefl _ nD'
  have nCi : C ≠ it := fun z => by rw [z] at nC'; exact Nat.lt_irrefl _ nC'
  have aD := aw D (Nat.le_of_succ_le nD')
  have aC := aw C (Nat.le_of_succ_le nC')
  have aI := aw it (Nat.le_refl _)
  have fD : D ∉ frs X.stack := hn1 D (Nat.le_of_succ_le nD')
  have fC : C ∉ frs X.stack := hn1 C (Nat.le_of_succ_le nC')
  have fI : it ∉ frs X.stack := hn1 it (Nat.le_refl _)
  have kinds : ∀ y, scope.names.lookup y = some .local → (compEnvC scope (cloFrom X.env.cells scope.names []) C X.env).kindOf y = some .local := fun y hy => lookup_relabel_local hy
  have hp : ((compEnvC scope (cloFrom X.env.cells scope.names []) C X.env).scope.kind == .class || ((compEnvC scope (cloFrom X.env.cells scope.names []) C X.env).scope.kind == .module && (compEnvC scope (cloFrom X.env.cells scope.names []) C X.env).locals != (compEnvC scope (cloFrom X.env.cells scope.names []) C X.env).globals)) = false := by
    show (scope.kind == .class || (scope.kind == .module && _)) = false
    rw [hkS]; rfl
  refine ⟨fun i ys s' => ∃ (H' : Hp) (acc : List V) (m : Str → Option Value), Inv X pins σ H' s' ∧ Vals acc ys ∧ acc.length = i ∧ Pv i acc H' ∧ H' D = none ∧ H' C = none ∧ H' it = none ∧ s'.heap.Ns C m, ?_, ?_, ?_, ?_⟩
  · refine ⟨H1, [], _, I1.kept (t' := tk3) fun b u e => old b u (Heap.get?_push_of_some _ e), .nil, rfl, p0, I1.hok.fresh (by rw [hIt]; exact Nat.le_of_succ_le nD'), I1.hok.fresh (by rw [hIt]; exact Nat.le_of_succ_le nC'), I1.hok.fresh (by rw [hIt]; exact Nat.le_refl _), hnm⟩
  · rintro i ys s4 h' tk ⟨H', acc, m, I4, rA, al, pA, hD, hC, hI, hm4⟩ hk' _
    refine ⟨H', acc, m, inv_ch (ch := [D, it]) I4 (fun b hb => ?_) (fun b hb => ?_) (fun b o hb e => hk' b o hb e), rA, al, pA, hD, hC, hI, hm4.at' fun o e => hk' _ o (fun hb => ?_) e⟩
    · rcases List.mem_cons.mp hb with rfl | hb
      · exact aD
      · rw [List.mem_singleton.mp hb]; exact aI
    · rcases List.mem_cons.mp hb with rfl | hb
      · exact hD
      · rw [List.mem_singleton.mp hb]; exact hI
    · rcases List.mem_cons.mp hb with z | hb
      · exact hDC z.symm
      · exact nCi (List.mem_singleton.mp hb)
  · rintro i v ys s4 hi hY st ⟨H', acc, m, I4, rA, al, pA, hD, hC, hI, hm4⟩ hpl
    have hvi : its[i]? = some v := by simpa using hY
    obtain ⟨y, hyi, ry⟩ : ∃ y, xs[i]? = some y ∧ RelV y v := by
      have hil : i < xs.length := by rw [hlen]; exact (List.getElem?_eq_some_iff.mp hvi).1
      have e : xs[i]? = some xs[i] := List.getElem?_eq_getElem hil
      obtain ⟨u, hu, ru⟩ := rv.get e
      rw [hvi] at hu
      cases hu
      exact ⟨_, e, ru⟩
    obtain ⟨f, F, ds, fr, js, sp, rfl, lat, cap, lok, tt⟩ := pt' i acc y H' hyi pA
    cases ry
    refine wpAny_assign_Name (wpAny_storeName_local (kinds _ hal) hm4 (fun h5 n5 s5 => ?_) hp)
    refine wpAny_tests_nil ?_
    rw [if_pos rfl]
    have I5 : Inv X pins σ H' { s4 with heap := h5, toks := s4.toks + 1 } := inv_ch (ch := [C]) (tk := s4.toks + 1) I4 (fun b hb => by rw [List.mem_singleton.mp hb]; exact aC) (fun b hb => by rw [List.mem_singleton.mp hb]; exact hC) fun b o hb e => s5.extBut b o (fun z => hb (by rw [z]; exact List.mem_singleton_self _)) e
    generalize hs5 : ({ s4 with heap := h5, toks := s4.toks + 1 } : Shared) = s5' at I5
    have e5 : s5'.heap = h5 := by rw [← hs5]
    have kp5 : ∀ b o, b ≠ C → s4.heap.get? b = some o → s5'.heap.get? b = some o := fun b o hb e => by rw [e5]; exact s5.extBut b o hb e
    have cat := cells_of I5 (cap I5.ok)
    show wpAny _ _ _ _ _ s5'
    refine wpAny_Call_Name_kw (Calls.Name_function_global (by show scope.kind = .function; exact hkS) hgl (Calls.loadGlobal_global (by show s5'.heap.Ns X.env.globals X.mg; rw [I5.ok.glob]; exact I5.mod.glob.keeps I5.bk) hm ?_) hd)
    refine PySem.W.callWith_K I5.ok.mod.kin hk ?_ (by rfl) (by rfl)
    show wpAny _ _ (spliced ((false, eval (.Name a pa) (compEnvC scope (cloFrom X.env.cells scope.names []) C X.env)) :: backTo cpos (starEach [] (compEnvC scope (cloFrom X.env.cells scope.names []) C X.env)))) _ _ s5'
    refine Calls.spliced_cons (wpAny_Name (wpAny_loadName_local hkS (kinds _ hal) (by rw [e5]; exact n5) (v := .ref f) (by simp) ?_) hda)
    refine Calls.spliced_nil ⟨I5.kIn, ?_⟩
    show wpAny _ _ (call (.ref g) [.ref f]) _ _ s5'
    refine wpAny_call (codeAny_mono (G.run X.A X.stack s5' H' f F ds fr _ sp _ C8.E0 (hr.mono hj) I5.env0 lat cat lok tt) fun r s6 hq => ?_)
    cases r with
    | error e => exact (show False from hq).elim
    | ok fl =>
      cases fl with
      | ret u =>
        obtain ⟨z, H6, os6, bare6, un6, hok6, rz, pz⟩ := hq
        have I6 : Inv X pins σ H6 s6 := I5.call' (ch := []) os6 un6 hok6 bare6 fun b hb => nomatch hb
        have kp6 : ∀ b o, H' b = none → b ∉ frs X.stack → s5'.heap.get? b = some o → s6.heap.get? b = some o ∧ H6 b = none := fun b o n fb e => ⟨un6.keep b o e n fb (by simp), un6.free b o e n (by simp)⟩
        have oD : ∃ o, s5'.heap.get? D = some o := by
          obtain ⟨n, e⟩ := hpl
          exact ⟨_, kp5 D _ hDC e⟩
        have oC : ∃ o, s5'.heap.get? C = some o := by
          obtain ⟨o, _, _, ho, _⟩ := n5
          exact ⟨o, by rw [e5]; exact ho⟩
        have oI : ∃ o, s5'.heap.get? it = some o := by
          obtain ⟨o, ho, _⟩ := st.1
          exact ⟨o, kp5 it o (Ne.symm nCi) ho⟩
        obtain ⟨od, hod⟩ := oD
        obtain ⟨oc, hoc⟩ := oC
        obtain ⟨oi, hoi⟩ := oI
        refine ⟨⟨H6, acc ++ [z], _, I6, rA.append (.cons rz .nil), by rw [List.length_append, al]; rfl, pz, (kp6 D od hD fD hod).2, (kp6 C oc hC fC hoc).2, (kp6 it oi hI fI hoi).2, (n5.at' fun o e => (kp6 C o hC fC (by rw [e5]; exact e)).1)⟩, ⟨st.1.at fun o e => (kp6 it o hI fI (kp5 it o (Ne.symm nCi) e)).1, ?_⟩, hpl.at fun o e => (kp6 D o hD fD (kp5 D o hDC e)).1⟩
        obtain ⟨its', rv', p', _⟩ := I6.list (pl _ _ _ pz)
        rw [vals_refs hrf rv rv']
        exact p'.isList
      | next => exact False.elim hq
      | brk => exact False.elim hq
      | cont => exact False.elim hq
  · rintro ys s4 ⟨H', acc, m, I4, rA, al, pA, hD, hC, hI, hm4⟩ hpl
    have esz : its.toArray.size = xs.length := by rw [List.size_toArray, hlen]
    rw [esz] at pA
    refine ⟨m, hm4, fun h' hs' => ?_⟩
    have I5 : Inv X pins σ H' { s4 with heap := h' } := inv_ch (ch := [C]) (tk := s4.toks) I4 (fun b hb => by rw [List.mem_singleton.mp hb]; exact aC) (fun b hb => by rw [List.mem_singleton.mp hb]; exact hC) fun b o hb e => hs'.extBut b o (fun z => hb (by rw [z]; exact List.mem_singleton_self _)) e
    obtain ⟨n, hd5⟩ := hpl.extBut hs'.extBut hDC
    refine ⟨.ref D, upd H' D (.lst acc), inv_learn I5 aD hD ⟨?_, ys, n, rA, hd5⟩, rfl, pd acc H' pA D hD⟩
    rw [al, esz]
    exact Nat.le_trans hx (by decide)
end Obr
namespace Obr
open PySem PySem.Spec PyProof.Rows L2 LamX NdefX
/-! ### defs that raise -/
/-- the promise of a def that ends by raising -/
def LX (A : List V → Hp → (Value → Option Addr → Hp → Prop) → Prop) : Sp := fun vs H _ E => ∃ (J : Unit → Hp → Hp → Prop) (F : Hp) (W : Value → Option Addr → Hp → Prop), Hid J ∧ J () F H ∧ A vs F W ∧ ∀ cls d F' H', J () F' H' → W cls d F' → E cls d H'
theorem LX.body {J : Unit → Hp → Hp → Prop} {F H : Hp} {Q : VK} {t : TS} {σ : L2.St} (j : J () F H) (h : SW J t { nx := fun _ _ _ => False, rt := fun _ _ _ => False } σ () F) : t { nx := fun _ H' => Q .non H', rt := Q } σ H :=
  h H j _ ⟨fun _ _ _ _ _ k => k.elim, fun _ _ _ _ _ k => k.elim, fun _ _ _ _ _ k => k.elim, fun _ _ _ _ _ k => k.elim⟩
section
variable {S : Type} {J : S → Hp → Hp → Prop} {K : PySem.W.Frag} {σ : L2.St} {s : S} {F : Hp} {R : V → S → Hp → Prop} {tr : TA} {te : TE} {A : List V → Hp → (Value → Option Addr → Hp → Prop) → Prop} {E : XK}
/-- a call that raises -/
theorem ew_callX (hd : Hid J) (h : AW J tr σ s F fun vs s1 F1 => ∃ W : Value → Option Addr → Hp → Prop, A vs F1 W ∧ ∀ cls d F' H', J s1 F' H' → W cls d F' → E cls d H') : EW J (tCall (LX A) [] E tr) σ s F R := fun H j Q q =>
  h H j _ fun vs s1 F1 H1 j1 ⟨W, a, k⟩ => by
    show LX A (vs ++ []) H1 Q E
    rw [List.append_nil]
    exact ⟨_, F1, W, hd.unit s1, j1, a, fun cls d F' H' j' w => k cls d F' H' j' w⟩
end
/-! ### how often a flat value stands in a list -/
section
variable {X : Cx}
def rCntV (K : PySem.W.Frag) : V → List V → Hp → VK → Prop := fun x xs H Q => ∃ (p : Addr) (ys : List V) (y : V), x = .ref p ∧ xs = [y] ∧ SqL K H p ys ∧ flatV y = true ∧ ys.all flatV = true ∧ Q (.int (ys.countP fun z => eqV z y : Nat)) H
theorem count_eqU {y : V} : ∀ {ys : List V} {us : List Value}, Vals ys us → ys.all flatV = true → us.countP (eqU y) = ys.countP fun z => eqV z y
  | [], _, .nil, _ => rfl
  | a :: ys, _, .cons ra rt, h => by
    rw [List.all_cons, Bool.and_eq_true] at h
    rw [List.countP_cons, List.countP_cons, count_eqU rt h.2, eqU_of ra h.1]
theorem mt_countV : MtR X "list.count" (rCntV X.K) := by
  intro pins s σ H x xs v us Q I rx rxs h
  obtain ⟨p, ys, y, rfl, rfl, hs, fy, fys, q⟩ := h
  cases rx
  obtain ⟨u, rfl, ru⟩ := rxs.one
  obtain ⟨its, rv, ⟨⟨cls, dd, data, sl⟩, n, ho, hc, hdn, hd⟩, hlen⟩ := I.list hs
  simp only at hc hd
  subst hc hd
  refine call_meets PySem.F.slot_list_count ⟨_, ho, rfl⟩ PySem.F.entry_list_count (PySem.F.args_list_count_2 _ _)
    (SeqAt.list_countAt p its.toArray n dd sl u (eqU y)) ⟨ho, fun u' hu' => mem_eqAt ru fy rv fys u' (by simpa using hu'), ?_⟩
  refine ⟨.int (ys.countP fun z => eqV z y : Nat), H, I.tok _, ⟨s.toks, ?_⟩, q⟩
  show Value.int ((its.toArray.toList.countP (eqU y) : Nat) : Int) s.toks = _
  rw [show its.toArray.toList = its from rfl, count_eqU rv fys]
end
section
variable {S : Type} {J : S → Hp → Hp → Prop} {K : PySem.W.Frag} {s : S} {F : Hp} {R : V → S → Hp → Prop}
theorem mw_countV (hd : Hid J) {p : Addr} {ys : List V} {y : V} (l : SqL K F p ys) (fy : flatV y = true) (fys : ys.all flatV = true) (h : R (.int (ys.countP fun z => eqV z y : Nat)) s F) : MW J (rCntV K) (.ref p) [y] s F R := fun H j Q q => ⟨p, ys, y, rfl, rfl, hd.sqL j l, fy, fys, q _ _ _ _ j h⟩
theorem mw_indexV (hd : Hid J) {p : Addr} {ys : List V} {y z : V} {i : Nat} (l : SqL K F p ys) (fy : flatV y = true) (fys : ys.all flatV = true) (h1 : ys[i]? = some z) (h2 : eqV z y = true) (h3 : ∀ (m : Nat) (z' : V), m < i → ys[m]? = some z' → eqV z' y = false) (h : R (.int (i : Nat)) s F) : MW J (rIndex K) (.ref p) [y] s F R := fun H j Q q =>
  ⟨p, ys, y, i, z, rfl, rfl, hd.sqL j l, fy, fys, h1, h2, h3, q _ _ _ _ j h⟩
theorem cw_isE {D a : Addr} {c : V} {cv : Value} {b : Bool} (h1 : ∀ u, L2.RelV c u → u = cv) (h2 : PySem.W.kitOne K (.ref D) cv = some b) (h : R (.bl b) s F) : CW J (rIsE K D a) [.ref a, c] s F R := fun H j Q q => ⟨c, cv, b, rfl, h1, h2, q _ _ _ _ j h⟩
end
/-- what is told of an own exception class without own words -/
structure XF (K : PySem.W.Frag) (mg : Str → Option Value) (x : Str) (C : Addr) : Prop where
  xF : PySem.W.excIn K C [Value.type "ValueError", Value.type "Exception", Value.type "BaseException", Value.type "object"] "ValueError.__new__" = true
  gF : mg x = some (.ref C)
  kF : PySem.W.keepIn K (.ref C) = true
  bF : PySem.W.subIn K (.ref C) (.type "BaseException") = some true
  tF : PySem.W.typeIn K (.ref C) = some (.type "type")
end Obr
namespace Obr
open PySem PySem.Spec L2 PyProof.Rows
local macro_rules | `(tactic| walk_at "ob_at") => `(tactic| first
  | assumption
  | exact upd_same
  | (refine Eq.trans (upd_ne ?obn) ?obr; (case obn => walk_at "ob_ne"); (case obr => walk_at "ob_at")))
local macro_rules | `(tactic| walk_at "ob_ne") => `(tactic| first
  | assumption
  | (refine Ne.symm ?obs; (case obs => assumption))
  | (refine' ne_of_none (H := ?_) ?obe ?obh; (case obh => assumption); (case obe => walk_at "ob_at"))
  | (refine Ne.symm ?obs; (case obs => (refine' ne_of_none (H := ?_) ?obe ?obh; (case obh => assumption); (case obe => walk_at "ob_at")))))
local macro_rules | `(tactic| walk_at "ob_fr") => `(tactic| first
  | assumption
  | (refine Eq.trans (upd_ne ?obn) ?obr; (case obn => walk_at "ob_ne"); (case obr => walk_at "ob_fr"))
  | (refine Ex.free (G := ?_) (by assumption) ?obh; (case obh => walk_at "ob_fr")))
local macro_rules | `(tactic| walk_at "ob_ex") => `(tactic| first
  | assumption
  | exact Ex.refl _
  | (refine Ex.out ?obg ?obh; (case obh => assumption); (case obg => walk_at "ob_ex"))
  | (refine Ex.new ?obg ?obh; (case obh => assumption); (case obg => walk_at "ob_ex"))
  | (refine Ex.new ?obg ?obh; (case obh => walk_at "ob_fr"); (case obg => walk_at "ob_ex")))
local macro_rules | `(tactic| walk_at "ob_sq") => `(tactic| first
  | assumption
  | (refine SqL.of ?oba; (case oba => walk_at "ob_at"))
  | (refine Ex.sqT (F := ?_) ?obg ?obh; (case obh => assumption); (case obg => walk_at "ob_ex"))
  | (refine Ex.sqL (F := ?_) ?obg ?obh; (case obh => assumption); (case obg => walk_at "ob_ex"))
  | (refine SqT.of ?oba; (case oba => walk_at "ob_at")))
local macro_rules | `(tactic| walk_at "ob_side") => `(tactic| first | exact rfl | assumption | decide | omega | exact ⟨by decide, by decide, by decide⟩ | exact Or.inr ⟨by decide, by decide⟩ | exact Or.inl ⟨by decide, by decide⟩ | exact wide_div (b := 60) (by first | decide | omega) (by first | decide | omega) (by decide) (by decide))
local macro_rules | `(tactic| walk_at "ob1") => `(tactic| first
  | with_reducible refine sw_seq ?_
  | with_reducible refine sw_asg ?_
  | with_reducible refine sw_ret ?_
  | with_reducible refine sw_par ?_
  | with_reducible refine ⟨_, _, rfl, ?_⟩
  | with_reducible refine sw_drop ?_
  | with_reducible refine sw_if ?_
  | with_reducible refine sw_next ?_
  | with_reducible refine gw_name ?_
  | with_reducible refine gw_subL (by assumption) ?_
  | with_reducible refine gsw_cons ?_
  | with_reducible refine gsw_nil ?_
  | with_reducible refine ew_c ?_
  | ((with_reducible refine' ew_var (v := ?_) ?obv ?_); (case obv => exact rfl))
  | ((with_reducible refine ew_next (by assumption) ?obv ?_); (case obv => exact rfl))
  | ((with_reducible refine ew_world (by assumption) ?obv ?_); (case obv => exact rfl))
  | ((with_reducible refine ew_rule (by assumption) ?obv ?_); (case obv => exact rfl))
  | with_reducible refine ew_op ?_
  | with_reducible refine ew_un ?_
  | with_reducible refine ew_dget (by assumption) ?_
  | with_reducible refine uw_I ?_
  | with_reducible refine ppw_nil ?_
  | with_reducible refine ppw_cons ?_
  | with_reducible refine sw_dput (by assumption) ?_
  | with_reducible refine ew_cb ?_
  | with_reducible refine ew_if ?_
  | with_reducible refine ew_slL (by assumption) ?_
  | with_reducible refine ow_some ?_
  | with_reducible refine ow_none ?_
  | with_reducible refine aw_nil ?_
  | with_reducible refine aw_cons ?_
  | with_reducible refine rw_I0 ?_
  | ((with_reducible refine rw_I ?obc ?_); (case obc => walk_at "ob_side"))
  | with_reducible refine rw_isN ?_
  | with_reducible refine rw_notN ?_
  | ((with_reducible refine rw_eq ?obc ?_); (case obc => exact rfl))
  | ((with_reducible refine rw_ne ?obc ?_); (case obc => exact rfl))
  | with_reducible refine cw_max2 ?_
  | with_reducible refine cw_min2 ?_
  | with_reducible refine tw_test ?_
  | with_reducible refine tw_B ?_
  | with_reducible refine tw_not ?_
  | with_reducible refine tw_truB ?_
  | with_reducible refine tw_and ?_
  | with_reducible refine tw_or ?_
  | with_reducible refine ew_and ?_
  | (refine' Exists.intro _ (And.intro (show V.bl _ = V.bl _ from rfl) ?_))
  | (refine' Exists.intro _ (And.intro (show V.int _ = V.int _ from rfl) ?_))
  | ((with_reducible refine' rw_ixL (v := ?_) (xs := ?_) (by assumption) ?obl ?oba ?_); (case obl => walk_at "ob_sq"); (case oba => first | exact rfl | exact at_zero))
  | ((with_reducible refine' rw_ixT (v := ?_) (xs := ?_) (by assumption) ?obl ?oba ?_); (case obl => walk_at "ob_sq"); (case oba => first | exact rfl | exact at_zero))
  | ((with_reducible refine' ew_lst (by assumption) ?_))
  | ((with_reducible refine' ew_tup (by assumption) ?_)))
local macro_rules | `(tactic| walk_at "ob_len") => `(tactic| first | exact Nat.le_of_ble_eq_true rfl | (simp; done) | omega)
local macro_rules | `(tactic| walk_at "ob") => `(tactic| repeat walk_at "ob1")

section
variable {S : Type} {J : S → Hp → Hp → Prop} {σ : L2.St} {s : S} {F : Hp} {ta tb tc : TE} {R : V → S → Hp → Prop}
theorem ew_outside (h : EW J ta σ s F fun x s1 F1 => ∃ i, x = .int i ∧ EW J tb σ s1 F1 fun y s2 F2 => ∃ k, y = .int k ∧ (¬ i ≤ k → R (.bl false) s2 F2) ∧ (i ≤ k → EW J tc σ s2 F2 fun z s3 F3 => ∃ l, z = .int l ∧ ¬ k ≤ l ∧ R (.bl false) s3 F3)) :
    EW J (tChain (rI0 fun i j => .bl (decide (i ≤ j))) (rI0 fun i j => .bl (decide (i ≤ j))) ta tb tc) σ s F R :=
  ew_chain (h.imp fun x s1 F1 ⟨i, ex, h1⟩ => by
    subst ex
    exact h1.imp fun y s2 F2 ⟨k, ey, h0, h2⟩ => by
      subst ey
      refine rw_I0 ⟨_, rfl, fun hb => (h2 (of_decide_eq_true hb)).imp fun z s3 F3 ⟨l, ez, hkl, r⟩ => ?_, fun hb => ?_⟩
      · subst ez
        refine rw_I0 ?_
        rw [decide_eq_false hkl]
        exact r
      · exact h0 (of_decide_eq_false hb))
end
theorem txt_len {a : Int} (h : a.natAbs.log2 < 1000) : (Str.ofString (toString a)).length ≤ 1001 := by
  have e := int_text_length_le (k := 1000) (by decide) h
  clear h
  rw [PySem.ofString_length]
  exact e
theorem fstr3 {σ : L2.St} {H : Hp} {Q : Str → Hp → Prop} {a b c : Int} {s1 s2 : Str} {i j k : Nat} (h1 : a.natAbs.log2 < 1000) (h2 : b.natAbs.log2 < 1000) (h3 : c.natAbs.log2 < 1000) (l1 : s1.length ≤ 100) (l2 : s2.length ≤ 100) (e1 : σ[i]? = some (some (.int a))) (e2 : σ[j]? = some (some (.int b))) (e3 : σ[k]? = some (some (.int c))) (q : ∀ out, Q out H) :
    tJs [tFmt (tVar i), tC (V.str s1), tFmt (tVar j), tC (V.str s2), tFmt (tVar k)] Str.empty σ H Q := by
  have z : (10000 : Nat) ≤ sizeLine := by rw [sizeLine_eq]; decide
  have t1 := txt_len h1
  have t2 := txt_len h2
  have t3 := txt_len h3
  have l0 : (Str.empty).length = 0 := rfl
  have lt : ∀ x y : Str, (x ++ y).length = x.length + y.length := fun x y => PySem.Str.length_append x y
  refine ⟨.int a, e1, Or.inr ⟨a, rfl, by omega, _, rfl, ?_, _, rfl, ?_, .int b, e2, Or.inr ⟨b, rfl, by omega, _, rfl, ?_, _, rfl, ?_, .int c, e3, Or.inr ⟨c, rfl, by omega, _, rfl, ?_, q _⟩⟩⟩⟩
  all_goals (simp only [lt, l0]; omega)
def aCountBad (C : Addr) : List V → Hp → (Value → Option Addr → Hp → Prop) → Prop := fun vs F W => ∃ a b c : Int, vs = [.int a, .int b, .int c] ∧ ¬ (b ≤ a ∧ a ≤ c) ∧ a.natAbs.log2 < 1000 ∧ b.natAbs.log2 < 1000 ∧ c.natAbs.log2 < 1000 ∧ W (.ref C) none F
def aBeatsBad (K : PySem.W.Frag) (C : Addr) : List V → Hp → (Value → Option Addr → Hp → Prop) → Prop := fun vs F W => ∃ (wv rv : V) (w : Wld) (r : Rgt) (p : Bool) (n : Int), vs = [wv, rv, .int n] ∧ Dp K F wv (wldD w) ∧ Dp K F rv (rulD r p) ∧ WldOk w ∧ (n < 0 ∨ 500 < n) ∧ n.natAbs.log2 < 1000 ∧ ∀ F', Ex F F' → W (.ref C) none F'
def aAfterBad (K : PySem.W.Frag) (C : Addr) : List V → Hp → (Value → Option Addr → Hp → Prop) → Prop := fun vs F W => ∃ (wv rv : V) (w : Wld) (r : Rgt) (p : Bool) (n : Int), vs = [wv, rv, .int n] ∧ Dp K F wv (wldD w) ∧ Dp K F rv (rulD r p) ∧ WldOk w ∧ (n < 0 ∨ 1000000000000 < n) ∧ n.natAbs.log2 < 1000 ∧ ∀ F', Ex F F' → W (.ref C) none F'
section
variable {P : Program} {w : World} {K : PySem.W.Frag} {mg : Str → Option Value} {base : Heap} {C M cBadCount : Addr}

theorem okX_check_count {f : Addr} {fd : FuncData}  (Fn : Fun K "check_count" "check_count" s_check_count f fd) (B : Blt mg) (XBadCount : XF K mg "BadCount" cBadCount) : FnOk P w K mg base (L2.CX P w) 1 f fd ["many", "least", "most"] (LX (aCountBad cBadCount)) := by
  refine Fn.okX sc_check_count (fun vs H Q E h => ?_) (fun cdv A outer s H vs Q E hr h => ?_)
  · obtain ⟨J, F, W, hd, j, h, _⟩ := h
    obtain ⟨a, b, c, rfl, _⟩ := h
    rfl
  · have nd := sc_check_count.nd
    obtain ⟨J, F, W, hd, j, h, q⟩ := h
    obtain ⟨a, b, c, rfl, hne, hs1, hs2, hs3, k⟩ := h
    refine ⟨_, (pss_one (ps_if (pt_not (pt_chain op_le op_le (pv 1) (pv 0) (pv 2))) (pss_one (ps_raise rfl (takes_of rfl rfl rfl rfl) (SkE.pmk_own1 PySem.F.excBase_ValueError XBadCount.xF XBadCount.gF XBadCount.kF (raises_own XBadCount.bF XBadCount.tF) rfl (pe_joined (PJ.cons (pe_fmt (pv 0)) (PJ.cons pe_str (PJ.cons (pe_fmt (pv 1)) (PJ.cons pe_str (PJ.cons (pe_fmt (pv 2)) PJ.nil))))))))) pss_nil)), ?_⟩
    refine LX.body j ?_
    refine sw_if (tw_not (tw_test (ew_outside ?_)))
    walk_at "ob"
    have hraise : ∀ {D : En Unit}, SW J (fun _ σ H => tJs [tFmt (tVar 0), tC (V.str (Str.ofString " is not ")), tFmt (tVar 1), tC (V.str (Str.ofString " to ")), tFmt (tVar 2)] Str.empty σ H fun out H1 => (fun x H1 => (fun cls d H' => E cls d H') (Value.ref cBadCount) none H1) (V.str out) H1) D (L2.start N_check_count [V.int a, V.int b, V.int c]) () F := fun H' j' D' _ =>
      fstr3 hs1 hs2 hs3 (by decide) (by decide) rfl rfl rfl fun out => q _ _ _ _ j' k
    refine ⟨fun _ => ⟨_, rfl, fun _ => hraise, (fun z => by cases z)⟩, fun hba => ?_⟩
    walk_at "ob"
    exact ⟨fun hc => hne ⟨hba, hc⟩, _, rfl, fun _ => hraise, (fun z => by cases z)⟩

theorem okX_after {f : Addr} {fd : FuncData} {f1 f2 : Addr} {fd1 fd2 : FuncData} (Fn : Fun K "after" "after" s_after f fd) (B : Blt mg) (HR : ClsF K C rkeys) (HM : ClsF K M mkeys) {tMA : Tok} (gMOST_AFTER : mg "MOST_AFTER" = some (.int 1000000000000 tMA)) (Cchecked_run : Cal K mg "checked_run" f1 fd1 ["world", "rule", "anew"]) (Gchecked_run : FnOk P w K mg base CX0 7 f1 fd1 ["world", "rule", "anew"] (LS (aChecked K C M))) (Ccheck_count : Cal K mg "check_count" f2 fd2 ["many", "least", "most"]) (Gcheck_count : FnOk P w K mg base (L2.CX P w) 1 f2 fd2 ["many", "least", "most"] (LX (aCountBad cBadCount))) : FnOk P w K mg base (L2.CX P w) 8 f fd ["world", "rule", "many"] (LX (aAfterBad K cBadCount)) := by
  refine Fn.okX sc_after (fun vs H Q E h => ?_) (fun cdv A outer s H vs Q E hr h => ?_)
  · obtain ⟨J, F, W, hd, j, h, _⟩ := h
    obtain ⟨wv, rv, w, r, p, n, rfl, _⟩ := h
    rfl
  · have nd := sc_after.nd
    obtain ⟨J, F, W, hd, j, h, q⟩ := h
    obtain ⟨wv, rv, w, r, p, n, rfl, dw, dr, hw, hn, hlog, k⟩ := h
    refine ⟨_, (pss_cons (ps_set (i := 3) nd rfl (Or.inl rfl) (pe_call Gchecked_run (by exact hr.mono (by decide)) (by rfl) Cchecked_run.g Cchecked_run.k Cchecked_run.a .nil pass0 (pa_cons (pv 0) (pa_cons (pv 1) (pa_cons pe_bl pa_nil)))))
      (pss_cons (ps_expr (pe_call Gcheck_count (by exact hr.mono (by decide)) (by rfl) Ccheck_count.g Ccheck_count.k Ccheck_count.a .nil (passes_call (takes_of rfl rfl rfl rfl) (fun _ _ _ _ h => h)) (pa_cons (pv 2) (pa_cons pe_int (pa_cons (pe_glob (v := .int 1000000000000) rfl gMOST_AFTER ⟨_, rfl⟩) pa_nil)))))
      (pss_cons (ps_never)
      (pss_cons (ps_never)
      (pss_cons (ps_never)
      (pss_cons (ps_never)
      (pss_one (ps_never)))))))), ?_⟩
    refine LX.body j ?_
    refine sw_seq (sw_asg (ew_call hd ?_))
    walk_at "ob"
    refine ⟨wv, rv, w, r, p, true, rfl, dw, dr, hw, fun F1 F0 A eC eM gF hX0 => gw_name ?_⟩
    refine sw_seq (sw_drop (ew_callX hd ?_))
    walk_at "ob"
    refine ⟨fun cls d F' => cls = .ref cBadCount ∧ d = none ∧ F' = F1, ⟨n, 0, 1000000000000, rfl, by omega, hlog, by decide, by decide, rfl, rfl, rfl⟩, ?_⟩
    rintro cls d F' H' j' ⟨rfl, rfl, rfl⟩
    exact q _ _ _ _ j' (k _ (gF.trans hX0.own.ex))
end
end Obr
namespace Obr
open PySem L2 PyProof.Rows
/-! ### what laws share -/
theorem sw_hide {S : Type} {J : S → Hp → Hp → Prop} {t : TS} {σ : L2.St} {s : S} {F : Hp} {h c : Addr} {m : Int} {ns : List Int} {N : L2.St → S → Hp → Prop} {R : V → S → Hp → Prop} (fc : F c = none) (fh : F h = none) (hne : c ≠ h) (m0 : 0 ≤ m) (m1 : m < 2147483647) (hn : ns.length ≤ 63) (hR : ∀ s F, R (.bl true) s F)
    (hw : SW (HJ h c J) t { nx := fun _ _ _ => False, rt := fun v _ _ => v = .bl true } σ s F) : SW J t { nx := N, rt := R } σ s (upd (upd F c (cL ns)) h (hL c m 0)) := fun H j D' l =>
  hw H ⟨_, m, 0, ns, Ex.new (Ex.new (.refl _) fc) (by rw [upd_ne hne.symm]; exact fh), fh, fc, m0, m1, by decide, hn, upd_same, (upd_ne hne).trans upd_same, j⟩ D'
    ⟨fun _ _ _ _ _ k => k.elim, fun v s F H ⟨G, _, _, _, _, _, _, _, _, _, _, _, _, j⟩ k => by subst k; exact l.rt _ s G H j (hR s G), fun _ _ _ _ _ k => k.elim, fun _ _ _ _ _ k => k.elim⟩
end Obr
namespace Obr
open PySem PySem.Spec L2 LamX NdefX PyProof.Rows
local macro_rules | `(tactic| walk_at "ob_at") => `(tactic| first
  | assumption
  | exact upd_same
  | (refine Eq.trans (upd_ne ?obn) ?obr; (case obn => walk_at "ob_ne"); (case obr => walk_at "ob_at")))
local macro_rules | `(tactic| walk_at "ob_ne") => `(tactic| first
  | assumption
  | (refine Ne.symm ?obs; (case obs => assumption))
  | (refine' ne_of_none (H := ?_) ?obe ?obh; (case obh => assumption); (case obe => walk_at "ob_at"))
  | (refine Ne.symm ?obs; (case obs => (refine' ne_of_none (H := ?_) ?obe ?obh; (case obh => assumption); (case obe => walk_at "ob_at")))))
local macro_rules | `(tactic| walk_at "ob_fr") => `(tactic| first
  | assumption
  | (refine Eq.trans (upd_ne ?obn) ?obr; (case obn => walk_at "ob_ne"); (case obr => walk_at "ob_fr"))
  | (refine Ex.free (G := ?_) (by assumption) ?obh; (case obh => walk_at "ob_fr")))
local macro_rules | `(tactic| walk_at "ob_ex") => `(tactic| first
  | assumption
  | exact Ex.refl _
  | (refine Ex.out ?obg ?obh; (case obh => assumption); (case obg => walk_at "ob_ex"))
  | (refine Ex.new ?obg ?obh; (case obh => assumption); (case obg => walk_at "ob_ex"))
  | (refine Ex.new ?obg ?obh; (case obh => walk_at "ob_fr"); (case obg => walk_at "ob_ex")))
local macro_rules | `(tactic| walk_at "ob_sq") => `(tactic| first
  | assumption
  | (refine SqL.of ?oba; (case oba => walk_at "ob_at"))
  | (refine Ex.sqT (F := ?_) ?obg ?obh; (case obh => assumption); (case obg => walk_at "ob_ex"))
  | (refine Ex.sqL (F := ?_) ?obg ?obh; (case obh => assumption); (case obg => walk_at "ob_ex"))
  | (refine SqT.of ?oba; (case oba => walk_at "ob_at")))
local macro_rules | `(tactic| walk_at "ob_side") => `(tactic| first | exact rfl | assumption | decide | omega | exact ⟨by decide, by decide, by decide⟩ | exact Or.inr ⟨by decide, by decide⟩ | exact Or.inl ⟨by decide, by decide⟩ | exact wide_div (b := 60) (by first | decide | omega) (by first | decide | omega) (by decide) (by decide))
local macro_rules | `(tactic| walk_at "ob1") => `(tactic| first
  | with_reducible refine sw_seq ?_
  | with_reducible refine sw_asg ?_
  | with_reducible refine sw_ret ?_
  | with_reducible refine sw_par ?_
  | with_reducible refine ⟨_, _, rfl, ?_⟩
  | with_reducible refine sw_drop ?_
  | with_reducible refine sw_if ?_
  | with_reducible refine sw_next ?_
  | with_reducible refine gw_name ?_
  | with_reducible refine gw_subL (by assumption) ?_
  | with_reducible refine gsw_cons ?_
  | with_reducible refine gsw_nil ?_
  | with_reducible refine ew_c ?_
  | ((with_reducible refine' ew_var (v := ?_) ?obv ?_); (case obv => exact rfl))
  | ((with_reducible refine ew_next (by assumption) ?obv ?_); (case obv => exact rfl))
  | ((with_reducible refine ew_world (by assumption) ?obv ?_); (case obv => exact rfl))
  | ((with_reducible refine ew_rule (by assumption) ?obv ?_); (case obv => exact rfl))
  | with_reducible refine ew_op ?_
  | with_reducible refine ew_un ?_
  | with_reducible refine ew_dget (by assumption) ?_
  | with_reducible refine uw_I ?_
  | with_reducible refine ppw_nil ?_
  | with_reducible refine ppw_cons ?_
  | with_reducible refine sw_dput (by assumption) ?_
  | with_reducible refine ew_cb ?_
  | with_reducible refine ew_if ?_
  | with_reducible refine ew_slL (by assumption) ?_
  | with_reducible refine ow_some ?_
  | with_reducible refine ow_none ?_
  | with_reducible refine aw_nil ?_
  | with_reducible refine aw_cons ?_
  | with_reducible refine rw_I0 ?_
  | ((with_reducible refine rw_I ?obc ?_); (case obc => walk_at "ob_side"))
  | with_reducible refine rw_isN ?_
  | with_reducible refine rw_notN ?_
  | ((with_reducible refine rw_eq ?obc ?_); (case obc => exact rfl))
  | ((with_reducible refine rw_ne ?obc ?_); (case obc => exact rfl))
  | with_reducible refine cw_max2 ?_
  | with_reducible refine cw_min2 ?_
  | with_reducible refine tw_test ?_
  | with_reducible refine tw_B ?_
  | with_reducible refine tw_not ?_
  | with_reducible refine tw_truB ?_
  | with_reducible refine tw_and ?_
  | with_reducible refine tw_or ?_
  | with_reducible refine ew_and ?_
  | (refine' Exists.intro _ (And.intro (show V.bl _ = V.bl _ from rfl) ?_))
  | (refine' Exists.intro _ (And.intro (show V.int _ = V.int _ from rfl) ?_))
  | ((with_reducible refine' rw_ixL (v := ?_) (xs := ?_) (by assumption) ?obl ?oba ?_); (case obl => walk_at "ob_sq"); (case oba => first | exact rfl | exact at_zero))
  | ((with_reducible refine' rw_ixT (v := ?_) (xs := ?_) (by assumption) ?obl ?oba ?_); (case obl => walk_at "ob_sq"); (case oba => first | exact rfl | exact at_zero))
  | ((with_reducible refine' ew_lst (by assumption) ?_))
  | ((with_reducible refine' ew_tup (by assumption) ?_)))
local macro_rules | `(tactic| walk_at "ob_len") => `(tactic| first | exact Nat.le_of_ble_eq_true rfl | (simp; done) | omega)
local macro_rules | `(tactic| walk_at "ob") => `(tactic| repeat walk_at "ob1")

theorem zc_of {cls C : Value} {d : Option Addr} {o : Obj} (e : cls = C ∧ d = none) (h : Zc cls d o) : Zc C none o := by rw [← e.1, ← e.2]; exact h
theorem pss_given {X : Cx} {sts : List Stmt} {t : TS} {p : Prop} (h : p → PSs X sts t) : PSs X sts (fun D σ H => p ∧ t D σ H) := ⟨fun pins s σ H D I h' => (h h'.1).run pins s σ H D I h'.2⟩
theorem pss_imp {X : Cx} {sts : List Stmt} {t t' : TS} (h : PSs X sts t) (hi : ∀ D σ H, t' D σ H → t D σ H) : PSs X sts t' := ⟨fun pins s σ H D I h' => h.run pins s σ H D I (hi _ _ _ h')⟩
def tKind (a : Addr) : TS := fun D σ H => σ.length = 3 ∧ σ[1]? = some (some (.ref a)) ∧ ∃ (J : Unit → Hp → Hp → Prop) (F : Hp), Hid J ∧ J () F H ∧ ∀ (F' H' : Hp) (p : Addr), J () F' H' → Ex F F' → F' p = some (.tup [.str "count", .int 0]) → D.rt (.ref p) H'
theorem sw_runJ {J : Unit → Hp → Hp → Prop} {F : Hp} {t : TS} {σ : L2.St} {H : Hp} {D : Ends} (j : J () F H) (h : SW J t { nx := fun _ _ _ => False, rt := fun v _ F => ∀ H, J () F H → D.rt v H } σ () F) : t D σ H := h H j D ⟨fun _ _ _ _ _ z => z.elim, fun v _ F H j k => k H j, fun _ _ _ _ _ z => z.elim, fun _ _ _ _ _ z => z.elim⟩
/-- what _law_kind makes of a lambda -/
def kindT (cBad : Addr) : TTr := fun tl H Q _ => tl (fun cls d H' => cls = .ref cBad ∧ d = none ∧ ∃ (J : Unit → Hp → Hp → Prop) (F : Hp), Hid J ∧ J () F H' ∧ ∀ (F' H'' : Hp) (p : Addr), J () F' H'' → Ex F F' → F' p = some (.tup [.str "count", .int 0]) → Q (.ref p) H'') H (fun _ H' => ∀ p, H' p = none → Q (.ref p) (upd H' p (.tup [.str "", .int 0])))
section
variable {P : Program} {w : World} {K : PySem.W.Frag} {mg : Str → Option Value} {base : Heap} {cBadStep cBadPlan cNoMachine cBadDeed cBadText cBadStore cBadRule cBadCount cTooMany cBreathError : Addr}
abbrev s__law_kind : Stmt := top 56
def N__law_kind : List Str := ["_law_call", "e", "_law_kinds"]
theorem sc__law_kind : FnScope N__law_kind ["_law_call"] (defScope s__law_kind) := ⟨rfl, rfl, rfl, by decide +kernel, rfl, by decide +kernel, by decide +kernel⟩
theorem gok_kind {f : Addr} {fd : FuncData} {kl : Nat} (Fn : Fun K "_law_kind" "_law_kind" s__law_kind f fd) (B : Blt mg) (Ca : Cal K mg "_law_kind" f fd ["_law_call"]) (gBadStep : mg "BadStep" = some (.ref cBadStep)) (gBadPlan : mg "BadPlan" = some (.ref cBadPlan)) (gNoMachine : mg "NoMachine" = some (.ref cNoMachine)) (gBadDeed : mg "BadDeed" = some (.ref cBadDeed)) (gBadText : mg "BadText" = some (.ref cBadText)) (gBadStore : mg "BadStore" = some (.ref cBadStore)) (gBadRule : mg "BadRule" = some (.ref cBadRule)) (gBadCount : mg "BadCount" = some (.ref cBadCount)) (gTooMany : mg "TooMany" = some (.ref cTooMany)) (gBreathError : mg "BreathError" = some (.ref cBreathError)) (kBadStep : PySem.W.kitOne K (.ref cBadCount) (.ref cBadStep) = some false) (kBadPlan : PySem.W.kitOne K (.ref cBadCount) (.ref cBadPlan) = some false) (kNoMachine : PySem.W.kitOne K (.ref cBadCount) (.ref cNoMachine) = some false) (kBadDeed : PySem.W.kitOne K (.ref cBadCount) (.ref cBadDeed) = some false) (kBadText : PySem.W.kitOne K (.ref cBadCount) (.ref cBadText) = some false) (kBadStore : PySem.W.kitOne K (.ref cBadCount) (.ref cBadStore) = some false) (kBadRule : PySem.W.kitOne K (.ref cBadCount) (.ref cBadRule) = some false) (kBadCount : PySem.W.kitOne K (.ref cBadCount) (.ref cBadCount) = some true) (kTooMany : PySem.W.kitOne K (.ref cBadCount) (.ref cTooMany) = some false) (kValueError : PySem.W.kitOne K (.ref cBadCount) (.type "ValueError") = some true)
    (xm : PySem.W.exmOne K (.ref cBadCount) (.ref cBreathError) = some true) (XC : ExcC K cBadCount) : GOk P w K mg base C8.CX0 (L2.CX P w) (kl + 1) kl f (kindT cBadCount) := by
  refine ⟨fun A outer s H a F ds fr ws sp Q E hr e0 ha C O hT => ?_⟩
  have S := sc__law_kind
  have nd := S.nd
  have hb := Ca.a
  obtain ⟨oc, od, kV, doc, pm, an, cdv, ct, osl, rfl, lk, hcd⟩ := Fn.ex
  have KX : K.In s.heap := e0.mod.kin.keeps fun b o e => (e0.bs b o e).1
  refine run_ofS (N := N__law_kind) (ps := ["_law_call"]) (us := [.ref a]) (vs := [.ref a]) lk hcd S hr e0 (hb s [.ref a] KX rfl) (.cons rfl .nil) rfl fun hr' => ?_
  obtain ⟨_, hsp⟩ := hT
  suffices hh : ∃ t, PSs (cxOf C8.CX0 P w K mg base N__law_kind "_law_kind" (defScope s__law_kind) f cdv A outer s H E).nox (defBody s__law_kind) t ∧ t { nx := fun _ H' => Q .non H', rt := Q } (L2.start N__law_kind [.ref a]) H by
    obtain ⟨t, h1, h2⟩ := hh
    exact ⟨t, h1.nox, h2⟩
  refine ⟨_, (pss_cons (ps_try_as (c := .ref cBreathError) (i := 1) (Wout := fun _ _ _ _ => False) (ts := fun a cls d D σ H => (cls = .ref cBadCount ∧ d = none) ∧ tKind a D σ H) rfl rfl nd rfl rfl ⟨by rfl, by decide, .inl gBreathError⟩ L2.takes0
    (fun W pn xe tk _ => pss_one (ps_expr (pe_calll (i := 0) (k := kl) (j := kl) (E := WE W) O C rfl hr' (Nat.le_refl _) (fun σ => passAt tk σ) rfl (.inl (by rfl)))))
    (fun a oe cls d pn hz hf => pss_given fun e => ?_))
    (pss_one (ps_ret (pe_tup (pa_cons pe_str (pa_cons pe_int pa_nil)))))), ?_⟩
  · have IS : CallR ((cxOf C8.CX0 P w K mg base N__law_kind "_law_kind" (defScope s__law_kind) f cdv A outer s H E).nox.suite a ((a, oe) :: pn)) (.builtin "isinstance") (rIsE K cBadCount a) := call_isE XC (zc_of e hz) hf
    refine pss_imp (pss_cons (ps_set (i := 2) nd rfl (Or.inl rfl) (pe_lst (pa_cons (pe_callB IS (by rfl) B.isinstance (by decide +kernel) (pa_cons (pv 1) (pa_cons (pe_glob (v := .ref cBadStep) (by rfl) gBadStep (by rfl)) pa_nil))) (pa_cons (pe_callB IS (by rfl) B.isinstance (by decide +kernel) (pa_cons (pv 1) (pa_cons (pe_glob (v := .ref cBadPlan) (by rfl) gBadPlan (by rfl)) pa_nil))) (pa_cons (pe_callB IS (by rfl) B.isinstance (by decide +kernel) (pa_cons (pv 1) (pa_cons (pe_glob (v := .ref cNoMachine) (by rfl) gNoMachine (by rfl)) pa_nil))) (pa_cons (pe_callB IS (by rfl) B.isinstance (by decide +kernel) (pa_cons (pv 1) (pa_cons (pe_glob (v := .ref cBadDeed) (by rfl) gBadDeed (by rfl)) pa_nil))) pa_nil))))))
      (pss_cons (ps_expr (pe_bm PySem.F.plainAttrs_list PySem.F.slot_list_extend PySem.F.type_list_extend mt_extend (pv 2) (pa_cons (pe_lst (pa_cons (pe_callB IS (by rfl) B.isinstance (by decide +kernel) (pa_cons (pv 1) (pa_cons (pe_glob (v := .ref cBadText) (by rfl) gBadText (by rfl)) pa_nil))) (pa_cons (pe_callB IS (by rfl) B.isinstance (by decide +kernel) (pa_cons (pv 1) (pa_cons (pe_glob (v := .ref cBadStore) (by rfl) gBadStore (by rfl)) pa_nil))) (pa_cons (pe_callB IS (by rfl) B.isinstance (by decide +kernel) (pa_cons (pv 1) (pa_cons (pe_glob (v := .ref cBadRule) (by rfl) gBadRule (by rfl)) pa_nil))) (pa_cons (pe_callB IS (by rfl) B.isinstance (by decide +kernel) (pa_cons (pv 1) (pa_cons (pe_glob (v := .ref cBadCount) (by rfl) gBadCount (by rfl)) pa_nil))) pa_nil))))) pa_nil)))
      (pss_cons (ps_expr (pe_bm PySem.F.plainAttrs_list PySem.F.slot_list_append PySem.F.type_list_append mt_append (pv 2) (pa_cons (pe_callB IS (by rfl) B.isinstance (by decide +kernel) (pa_cons (pv 1) (pa_cons (pe_glob (v := .ref cTooMany) (by rfl) gTooMany (by rfl)) pa_nil))) pa_nil)))
      (pss_cons (ps_if (PW.pt (pw_or (pt_cmpR op_ne (pe_bm PySem.F.plainAttrs_list PySem.F.slot_list_count PySem.F.type_list_count mt_countV (pv 2) (pa_cons pe_bl pa_nil)) pe_int (nomark _)) (pw_or1 (pt_not (pt_val (pe_callB IS (by rfl) B.isinstance (by decide +kernel) (pa_cons (pv 1) (pa_cons (pe_bltn (v := .ty "ValueError") (by rfl) B.verr (by decide +kernel) rfl) pa_nil)))))))) (pss_one (ps_never)) pss_nil)
      (pss_cons (ps_if (pt_val (pe_ix ix_list (pv 2) pe_int (fun _ _ => rfl))) (pss_one (ps_never)) pss_nil)
      (pss_cons (ps_if (PW.pt (pw_or (pt_val (pe_ix ix_list (pv 2) pe_int (fun _ _ => rfl))) (pw_or1 (pt_val (pe_ix ix_list (pv 2) pe_int (fun _ _ => rfl)))))) (pss_one (ps_never)) pss_nil)
      (pss_cons (ps_if (PW.pt (pw_or (pt_val (pe_ix ix_list (pv 2) pe_int (fun _ _ => rfl))) (pw_or1 (pt_val (pe_ix ix_list (pv 2) pe_int (fun _ _ => rfl)))))) (pss_one (ps_never)) pss_nil)
      (pss_one (ps_ret (pe_tup (pa_cons (pe_ix ix_list (pe_lst (pa_cons pe_str (pa_cons pe_str (pa_cons pe_str (pa_cons pe_str pa_nil))))) (pe_bm PySem.F.plainAttrs_list PySem.F.slot_list_index PySem.F.type_list_index mt_index (pe_slice sl_list (pv 2) (po_some pe_int) po_none) (pa_cons pe_bl pa_nil)) (fun _ _ => rfl)) (pa_cons pe_int pa_nil)))))))))))) ?_
    rintro D' σ HH ⟨hlen, hs1, J, H', hd, jj, kk⟩
    obtain ⟨x0, x1, x2, rfl⟩ : ∃ x0 x1 x2, σ = [x0, x1, x2] := by
      match σ, hlen with
      | [a, b, c], _ => exact ⟨_, _, _, rfl⟩
    cases hs1
    refine sw_runJ jj ?_
    refine sw_seq (sw_asg (ew_lst hd ?_))
    walk_at "ob"
    refine cw_isE (cv := .ref _) (fun u r => r) (by assumption) ?_
    walk_at "ob"
    refine cw_isE (cv := .ref _) (fun u r => r) (by assumption) ?_
    walk_at "ob"
    refine cw_isE (cv := .ref _) (fun u r => r) (by assumption) ?_
    walk_at "ob"
    refine cw_isE (cv := .ref _) (fun u r => r) (by assumption) ?_
    walk_at "ob"
    refine ⟨by walk_at "ob_len", fun p1 hp1 => ?_⟩
    refine gw_name ?_
    refine sw_seq (sw_drop (ew_bmL hd ?_))
    walk_at "ob"
    refine ⟨p1, _, rfl, SqL.of upd_same, aw_cons (ew_lst hd ?_)⟩
    walk_at "ob"
    refine cw_isE (cv := .ref _) (fun u r => r) (by assumption) ?_
    walk_at "ob"
    refine cw_isE (cv := .ref _) (fun u r => r) (by assumption) ?_
    walk_at "ob"
    refine cw_isE (cv := .ref _) (fun u r => r) (by assumption) ?_
    walk_at "ob"
    refine cw_isE (cv := .ref _) (fun u r => r) (by assumption) ?_
    walk_at "ob"
    refine ⟨by walk_at "ob_len", fun p2 hp2 => ?_⟩
    have hO0 := (own_nil (F := H')).more (o := .lst [V.bl false, V.bl false, V.bl false, V.bl false]) hp1
    have hO1 := hO0.new' (o := .lst [V.bl false, V.bl false, V.bl false, V.bl true]) hp2
    refine aw_nil (mw_extend hd (hO1.get (i := 0) rfl) upd_same (by simp) ?_)
    have hO2 := hO1.set (i := 0) (a := p1) (o' := .lst ([V.bl false, V.bl false, V.bl false, V.bl false] ++ [V.bl false, V.bl false, V.bl false, V.bl true])) rfl
    refine sw_seq (sw_drop (ew_bmL hd ?_))
    walk_at "ob"
    refine ⟨p1, _, rfl, SqL.of (hO2.get (i := 0) rfl), aw_cons (ew_cb ?_)⟩
    walk_at "ob"
    refine cw_isE (cv := .ref _) (fun u r => r) (by assumption) ?_
    refine aw_nil (mw_append hd (hO2.get (i := 0) rfl) (by simp) ?_)
    have hO3 := hO2.set (i := 0) (a := p1) (o' := .lst ([V.bl false, V.bl false, V.bl false, V.bl false] ++ [V.bl false, V.bl false, V.bl false, V.bl true] ++ [V.bl false])) rfl
    have sq3 : SqL K _ p1 [V.bl false, V.bl false, V.bl false, V.bl false, V.bl false, V.bl false, V.bl false, V.bl true, V.bl false] := SqL.of (K := K) (hO3.get (i := 0) rfl)
    have aw3 := hO3.ex
    generalize (upd _ p1 (.lst ([V.bl false, V.bl false, V.bl false, V.bl false] ++ [V.bl false, V.bl false, V.bl false, V.bl true] ++ [V.bl false]))) = F3 at hO3 sq3 aw3 ⊢
    refine sw_seq (sw_if (tw_or (tw_test (ew_op (ew_bmL hd ?_)))))
    walk_at "ob"
    refine ⟨p1, _, rfl, sq3, ?_⟩
    walk_at "ob"
    refine mw_countV hd sq3 rfl rfl ?_
    walk_at "ob"
    refine ⟨fun hb => absurd hb (by decide), fun _ => ?_⟩
    refine tw_not (tw_B (ew_cb ?_))
    walk_at "ob"
    refine cw_isE (cv := .type "ValueError") (fun u r => r) kValueError ?_
    refine ⟨true, rfl, (fun z => by cases z), fun _ => sw_next ?_⟩
    refine sw_seq (sw_if (tw_B (ew_op ?_)))
    walk_at "ob"
    refine ⟨(fun z => by cases z), fun _ => sw_next ?_⟩
    refine sw_seq (sw_if (tw_or (tw_B (ew_op ?_))))
    walk_at "ob"
    refine ⟨(fun z => by cases z), fun _ => ?_⟩
    refine tw_B (ew_op ?_)
    walk_at "ob"
    refine ⟨(fun z => by cases z), fun _ => sw_next ?_⟩
    refine sw_seq (sw_if (tw_or (tw_B (ew_op ?_))))
    walk_at "ob"
    refine ⟨(fun z => by cases z), fun _ => ?_⟩
    refine tw_B (ew_op ?_)
    walk_at "ob"
    refine ⟨(fun z => by cases z), fun _ => sw_next ?_⟩
    refine sw_ret (ew_tup hd (aw_cons (ew_op (ew_lst hd ?_))))
    walk_at "ob"
    refine ⟨by walk_at "ob_len", fun p3 hp3 => ?_⟩
    refine ew_bmL hd (ew_slL hd ?_)
    walk_at "ob"
    have g3 := Ex.new (.refl F3) hp3 (u := .lst [V.str "store", V.str "rule", V.str "count", V.str "many"])
    refine ⟨p1, _, rfl, g3.sqL sq3, fun p4 hp4 => ?_⟩
    refine ⟨p4, _, rfl, SqL.of upd_same, ?_⟩
    walk_at "ob"
    refine mw_indexV hd (i := 2) (z := .bl true) (SqL.of upd_same) rfl rfl rfl rfl (fun m z' hm hz => ?_) ?_
    · match m, hm with
      | 0, _ => cases hz; rfl
      | 1, _ => cases hz; rfl
    refine rw_ixL hd (v := .str "count") (SqL.of ((Ex.new (.refl _) hp4) _ _ upd_same)) (by rfl) ?_
    walk_at "ob"
    exact ⟨by walk_at "ob_len", fun p5 hp5 => fun H j => kk _ _ p5 j (aw3.trans (g3.trans (Ex.new (Ex.new (.refl _) hp4) hp5))) upd_same⟩
  refine ⟨rfl, ha, O.mono_ _ _ _ _ _ _ hsp ?_ ?_⟩
  · exact fun v H' k => ⟨by decide, fun p hp => k p hp⟩
  · rintro cls d H' ⟨rfl, rfl, k⟩
    exact ⟨true, xm, fun _ a ha => ⟨⟨rfl, rfl⟩, rfl, rfl, k⟩, fun z => by cases z⟩
end
end Obr
namespace Obr
open PySem PySem.Spec L2 LamX NdefX PyProof.Rows
local macro_rules | `(tactic| walk_at "ob_at") => `(tactic| first
  | assumption
  | exact upd_same
  | (refine Eq.trans (upd_ne ?obn) ?obr; (case obn => walk_at "ob_ne"); (case obr => walk_at "ob_at")))
local macro_rules | `(tactic| walk_at "ob_ne") => `(tactic| first
  | assumption
  | (refine Ne.symm ?obs; (case obs => assumption))
  | (refine' ne_of_none (H := ?_) ?obe ?obh; (case obh => assumption); (case obe => walk_at "ob_at"))
  | (refine Ne.symm ?obs; (case obs => (refine' ne_of_none (H := ?_) ?obe ?obh; (case obh => assumption); (case obe => walk_at "ob_at")))))
local macro_rules | `(tactic| walk_at "ob_fr") => `(tactic| first
  | assumption
  | (refine Eq.trans (upd_ne ?obn) ?obr; (case obn => walk_at "ob_ne"); (case obr => walk_at "ob_fr"))
  | (refine Ex.free (G := ?_) (by assumption) ?obh; (case obh => walk_at "ob_fr")))
local macro_rules | `(tactic| walk_at "ob_ex") => `(tactic| first
  | assumption
  | exact Ex.refl _
  | (refine Ex.out ?obg ?obh; (case obh => assumption); (case obg => walk_at "ob_ex"))
  | (refine Ex.new ?obg ?obh; (case obh => assumption); (case obg => walk_at "ob_ex"))
  | (refine Ex.new ?obg ?obh; (case obh => walk_at "ob_fr"); (case obg => walk_at "ob_ex")))
local macro_rules | `(tactic| walk_at "ob_sq") => `(tactic| first
  | assumption
  | (refine SqL.of ?oba; (case oba => walk_at "ob_at"))
  | (refine Ex.sqT (F := ?_) ?obg ?obh; (case obh => assumption); (case obg => walk_at "ob_ex"))
  | (refine Ex.sqL (F := ?_) ?obg ?obh; (case obh => assumption); (case obg => walk_at "ob_ex"))
  | (refine SqT.of ?oba; (case oba => walk_at "ob_at")))
local macro_rules | `(tactic| walk_at "ob_side") => `(tactic| first | exact rfl | assumption | decide | omega | exact ⟨by decide, by decide, by decide⟩ | exact Or.inr ⟨by decide, by decide⟩ | exact Or.inl ⟨by decide, by decide⟩ | exact wide_div (b := 60) (by first | decide | omega) (by first | decide | omega) (by decide) (by decide))
local macro_rules | `(tactic| walk_at "ob1") => `(tactic| first
  | with_reducible refine sw_seq ?_
  | with_reducible refine sw_asg ?_
  | with_reducible refine sw_ret ?_
  | with_reducible refine sw_par ?_
  | with_reducible refine ⟨_, _, rfl, ?_⟩
  | with_reducible refine sw_drop ?_
  | with_reducible refine sw_if ?_
  | with_reducible refine sw_next ?_
  | with_reducible refine gw_name ?_
  | with_reducible refine gw_subL (by assumption) ?_
  | with_reducible refine gsw_cons ?_
  | with_reducible refine gsw_nil ?_
  | with_reducible refine ew_c ?_
  | ((with_reducible refine' ew_var (v := ?_) ?obv ?_); (case obv => exact rfl))
  | ((with_reducible refine ew_next (by assumption) ?obv ?_); (case obv => exact rfl))
  | ((with_reducible refine ew_world (by assumption) ?obv ?_); (case obv => exact rfl))
  | ((with_reducible refine ew_rule (by assumption) ?obv ?_); (case obv => exact rfl))
  | with_reducible refine ew_op ?_
  | with_reducible refine ew_un ?_
  | with_reducible refine ew_dget (by assumption) ?_
  | with_reducible refine uw_I ?_
  | with_reducible refine ppw_nil ?_
  | with_reducible refine ppw_cons ?_
  | with_reducible refine sw_dput (by assumption) ?_
  | with_reducible refine ew_cb ?_
  | with_reducible refine ew_if ?_
  | with_reducible refine ew_slL (by assumption) ?_
  | with_reducible refine ow_some ?_
  | with_reducible refine ow_none ?_
  | with_reducible refine aw_nil ?_
  | with_reducible refine aw_cons ?_
  | with_reducible refine rw_I0 ?_
  | ((with_reducible refine rw_I ?obc ?_); (case obc => walk_at "ob_side"))
  | with_reducible refine rw_isN ?_
  | with_reducible refine rw_notN ?_
  | ((with_reducible refine rw_eq ?obc ?_); (case obc => exact rfl))
  | ((with_reducible refine rw_ne ?obc ?_); (case obc => exact rfl))
  | with_reducible refine cw_max2 ?_
  | with_reducible refine cw_min2 ?_
  | with_reducible refine tw_test ?_
  | with_reducible refine tw_B ?_
  | with_reducible refine tw_not ?_
  | with_reducible refine tw_truB ?_
  | with_reducible refine tw_and ?_
  | with_reducible refine tw_or ?_
  | with_reducible refine ew_and ?_
  | (refine' Exists.intro _ (And.intro (show V.bl _ = V.bl _ from rfl) ?_))
  | (refine' Exists.intro _ (And.intro (show V.int _ = V.int _ from rfl) ?_))
  | ((with_reducible refine' rw_ixL (v := ?_) (xs := ?_) (by assumption) ?obl ?oba ?_); (case obl => walk_at "ob_sq"); (case oba => first | exact rfl | exact at_zero))
  | ((with_reducible refine' rw_ixT (v := ?_) (xs := ?_) (by assumption) ?obl ?oba ?_); (case obl => walk_at "ob_sq"); (case oba => first | exact rfl | exact at_zero))
  | ((with_reducible refine' ew_lst (by assumption) ?_))
  | ((with_reducible refine' ew_tup (by assumption) ?_)))
local macro_rules | `(tactic| walk_at "ob_len") => `(tactic| first | exact Nat.le_of_ble_eq_true rfl | (simp; done) | omega)
local macro_rules | `(tactic| walk_at "ob") => `(tactic| repeat walk_at "ob1")

/-! ### lambdas that raise -/
def badSp (cBad : Addr) (BW : Hp → List (Option V) → Prop) : LSp := fun ws H _ E => ∃ (J : Unit → Hp → Hp → Prop) (F : Hp), Hid J ∧ J () F H ∧ BW F ws ∧ ∀ F' H', J () F' H' → Ex F F' → E (.ref cBad) none H'
theorem badSp_mono {cBad : Addr} {BW : Hp → List (Option V) → Prop} (ws : List (Option V)) (H : Hp) (Q Q' : VK) (E E' : XK) (h : badSp cBad BW ws H Q E) (_ : ∀ v H', Q v H' → Q' v H') (hE : ∀ cls d H', E cls d H' → E' cls d H') : badSp cBad BW ws H Q' E' := by
  obtain ⟨J, F, hd, j, b, k⟩ := h
  exact ⟨J, F, hd, j, b, fun F' H' j' g => hE _ _ _ (k F' H' j' g)⟩
def cntD : PyData := .tuple [.str "count", .int 0]
section
variable {S : Type} {J : S → Hp → Hp → Prop} {σ : L2.St} {s : S} {F : Hp} {R : V → S → Hp → Prop} {X : Cx} {tl : TE} {kl : Nat} {cBad : Addr}
theorem ew_kcomp (hd : Hid J) (h : EW J tl σ s F fun v s1 F1 => ∃ l xs, v = .ref l ∧ SqL X.K F1 l xs ∧ xs.length ≤ 1000 ∧ (∀ y ∈ xs, ∃ f, y = V.ref f) ∧
      (∀ (i : Nat) y F2, xs[i]? = some y → Ex F1 F2 → ∃ (f : Addr) (L : LF) (ds : List V) (fr : List Str) (js : List Nat) (BW : Hp → List (Option V) → Prop), y = .ref f ∧ LamAt F2 f L ds ∧ (X.Ok → Caps X L.cl fr js) ∧ LamOk X.prog X.w X.K X.mg X.base (L2.CX X.prog X.w) kl f L ds fr (badSp cBad BW) ∧ BW F2 (js.map (slotAt σ))) ∧
      (∀ F2 rs, Ex F1 F2 → rs.length = xs.length → (∀ r ∈ rs, Dp X.K F2 r cntD) → ∀ D, F2 D = none → R (.ref D) s1 (upd F2 D (.lst rs)))) : EW J (tKC X (L2.CX X.prog X.w) kl (kindT cBad) tl) σ s F R := fun H j Q q =>
  h H j _ fun v s1 F1 H1 j1 ⟨l, xs, e, la, hx, hrf, hk, hdn⟩ => ⟨l, xs, e, hd.sqL j1 la, hx, hrf, fun i acc H => ∃ F2, J s1 F2 H ∧ Ex F1 F2 ∧ acc.length = i ∧ ∀ r ∈ acc, Dp X.K F2 r cntD, ⟨F1, j1, .refl _, rfl, fun r hr => by cases hr⟩, fun i acc H ⟨F2, j2, g2, _, _⟩ => hd.sqL j2 (g2.sqL la),
    fun i acc y H hy ⟨F2, j2, g2, al, hr⟩ => by
      obtain ⟨f, L, ds, fr, js, BW, rfl, lat, cap, lok, bw⟩ := hk i y F2 hy g2
      have latH : LamAt H f L ds := ⟨hd.ex j2 _ _ lat.fn, hd.ex j2 _ _ lat.code, fun t e => hd.ex j2 _ _ (lat.dflt t e)⟩
      refine ⟨f, L, ds, fr, js, _, rfl, latH, cap, lok, latH, fun _ F H => J s1 F H, F2, hd.unit s1, j2, bw, fun F' H' j' g' => ⟨rfl, rfl, fun _ F H => J s1 F H, F', hd.unit s1, j', fun F'' H'' p j'' g'' e => ⟨F'', j'', g2.trans (g'.trans g''), by rw [List.length_append, al]; rfl, fun r hm => ?_⟩⟩⟩
      rcases List.mem_append.mp hm with z | z
      · exact dp_ex (g'.trans g'') (hr r z)
      · rw [List.mem_singleton.mp z]
        exact .tup (SqT.of e) (.cons (.str _) (.cons (.int _) .nil)),
    fun acc H ⟨F2, j2, g2, al, hr⟩ D hD => q _ _ _ _ (hd.al j2 hD) (hdn F2 acc g2 al hr D (hd.fresh j2 hD))⟩
end
def nthS : List Stmt → Nat → Stmt
  | [], _ => .Pass ⟨0, 0, 0, 0⟩
  | a :: _, 0 => a
  | _ :: l, n + 1 => nthS l n
def nthE : List Expr → Nat → Expr
  | [], _ => .Constant .none 0 ⟨0, 0, 0, 0⟩
  | a :: _, 0 => a
  | _ :: l, n + 1 => nthE l n
def forBody : Stmt → List Stmt
  | .For _ _ b _ _ => b
  | _ => []
def asgVal : Stmt → Expr
  | .Assign _ v _ => v
  | _ => .Constant .none 0 ⟨0, 0, 0, 0⟩
def lstElts : Expr → List Expr
  | .List es _ => es
  | _ => []
def lamPar : Expr → Arguments
  | .Lambda p _ _ _ => p
  | _ => default
def lamBody : Expr → Expr
  | .Lambda _ b _ _ => b
  | e => e
def lamScope : Expr → Scope
  | .Lambda _ _ s _ => s
  | _ => default
abbrev s_law : Stmt := top 58
def lam1 : Expr := nthE (lstElts (asgVal (nthS (forBody (nthS (defBody s_law) 1)) 6))) 0
def lam2 : Expr := nthE (lstElts (asgVal (nthS (forBody (nthS (defBody s_law) 1)) 6))) 1
theorem log_small {n : Int} (h : n.natAbs < 100000000000000000) : n.natAbs.log2 < 1000 := by
  by_cases h0 : n.natAbs = 0
  · rw [h0]; decide
  · exact Nat.lt_trans ((Nat.log2_lt (k := 64) h0).mpr (Nat.lt_of_lt_of_le h (by decide))) (by decide)
def bwWR (K : PySem.W.Frag) : Hp → List (Option V) → Prop := fun F ws => ∃ (wv rv : V) (w : Wld) (r : Rgt) (p : Bool) (far : Int), ws = [some wv, some rv, some (.int far)] ∧ Dp K F wv (wldD w) ∧ Dp K F rv (rulD r p) ∧ WldOk w ∧ 0 ≤ far ∧ far < 10000000
section
variable {P : Program} {w : World} {K : PySem.W.Frag} {mg : Str → Option Value} {base : Heap} {cBadCount : Addr}

theorem lamok1 {f1 : Addr} {fd1 : FuncData} (Cafter : Cal K mg "after" f1 fd1 ["world", "rule", "many"]) (Gafter : FnOk P w K mg base (L2.CX P w) 8 f1 fd1 ["world", "rule", "many"] (LX (aAfterBad K cBadCount))) {f c : Addr} {qn : Str} {cl : List (Str × Addr)}  :
    LamOk P w K mg base (L2.CX P w) 9 f ⟨qn, lamPar lam1, lamBody lam1, lamScope lam1, cl, c, none⟩ [] ["_law_world_here", "_law_rule_here", "_law_far"] (badSp cBadCount (bwWR K)) := by
  refine lok_of (N := ["_law_world_here", "_law_rule_here", "_law_far"]) (ps := []) (nscope_by (sc := lamScope lam1) (by decide +kernel)) rfl (bind0 (fun _ _ _ => rfl)) badSp_mono (fun A outer s H ws Q E hr ha hl hsp => ?_)
  obtain ⟨J, F, hd, j, ⟨wv, rv, w', r, p, far, rfl, dw, dr, hw, h0, h1⟩, q⟩ := hsp
  refine ⟨_, (pe_call Gafter (by exact hr.mono (by decide)) (by rfl) Cafter.g Cafter.k Cafter.a .nil (passes_call (takes_of rfl rfl rfl rfl) (fun _ _ _ _ h => h)) (pa_cons (pv 0) (pa_cons (pv 1) (pa_cons (pe_op op_sub (pe_un un_neg pe_int) (pv 2)) pa_nil)))), ?_⟩
  refine (show EW J _ _ () F (fun _ _ _ => False) from ?_) H j _ (fun _ _ _ _ _ z => z.elim)
  refine ew_callX hd ?_
  walk_at "ob"
  refine ⟨fun cls d F' => cls = .ref cBadCount ∧ d = none ∧ Ex F F', ⟨wv, rv, w', r, p, _, rfl, dw, dr, hw, (by have e12 : ((10 : Int) ^ (12 : Int).toNat) = 1000000000000 := rfl; omega), log_small (by have e12 : ((10 : Int) ^ (12 : Int).toNat) = 1000000000000 := rfl; omega), fun F' g => ⟨rfl, rfl, g⟩⟩, ?_⟩
  rintro cls d F' H' j' ⟨rfl, rfl, g⟩
  exact q F' H' j' g

theorem lamok2 {f1 : Addr} {fd1 : FuncData} (Cafter : Cal K mg "after" f1 fd1 ["world", "rule", "many"]) (Gafter : FnOk P w K mg base (L2.CX P w) 8 f1 fd1 ["world", "rule", "many"] (LX (aAfterBad K cBadCount))) {f c : Addr} {qn : Str} {cl : List (Str × Addr)} {t : Addr} :
    LamOk P w K mg base (L2.CX P w) 9 f ⟨qn, lamPar lam2, lamBody lam2, lamScope lam2, cl, c, some t⟩ [.int 0] ["_law_world_here", "_law_rule_here", "_law_far"] (badSp cBadCount (bwWR K)) := by
  refine lok_of (N := ["_law_a", "_law_world_here", "_law_rule_here", "_law_far"]) (ps := ["_law_a"]) (nscope_by (sc := lamScope lam2) (by decide +kernel)) rfl (bind1 (t := t) rfl (fun _ _ _ u => ⟨_, rfl, rfl⟩)) badSp_mono (fun A outer s H ws Q E hr ha hl hsp => ?_)
  obtain ⟨J, F, hd, j, ⟨wv, rv, w', r, p, far, rfl, dw, dr, hw, h0, h1⟩, q⟩ := hsp
  refine ⟨_, (pe_call Gafter (by exact hr.mono (by decide)) (by rfl) Cafter.g Cafter.k Cafter.a .nil (passes_call (takes_of rfl rfl rfl rfl) (fun _ _ _ _ h => h)) (pa_cons (pv 1) (pa_cons (pv 2) (pa_cons (pe_op op_add (pe_op op_add (pe_op op_pow pe_int pe_int) pe_int) (pv 3)) pa_nil)))), ?_⟩
  refine (show EW J _ _ () F (fun _ _ _ => False) from ?_) H j _ (fun _ _ _ _ _ z => z.elim)
  refine ew_callX hd ?_
  walk_at "ob"
  refine ⟨fun cls d F' => cls = .ref cBadCount ∧ d = none ∧ Ex F F', ⟨wv, rv, w', r, p, _, rfl, dw, dr, hw, (by have e12 : ((10 : Int) ^ (12 : Int).toNat) = 1000000000000 := rfl; omega), log_small (by have e12 : ((10 : Int) ^ (12 : Int).toNat) = 1000000000000 := rfl; omega), fun F' g => ⟨rfl, rfl, g⟩⟩, ?_⟩
  rintro cls d F' H' j' ⟨rfl, rfl, g⟩
  exact q F' H' j' g
end
end Obr
namespace Obr
open PySem PySem.Spec L2 LamX NdefX PyProof.Rows
/-! ### what stays when a table has changed; a def with its code object -/
theorem extN_sqT {F G : Hp} (g : ExtN F G) {K a xs} (h : SqT K F a xs) : SqT K G a xs := by
  rcases h with (h | ⟨o, h⟩) | h
  · exact Or.inl (Or.inl (g _ _ h (fun ps z => by cases z)))
  · exact Or.inl (Or.inr ⟨o, g _ _ h (fun ps z => by cases z)⟩)
  · exact Or.inr h
theorem extN_sqL {F G : Hp} (g : ExtN F G) {K a xs} (h : SqL K F a xs) : SqL K G a xs := by
  rcases h with (h | ⟨o, h⟩) | h
  · exact Or.inl (Or.inl (g _ _ h (fun ps z => by cases z)))
  · exact Or.inl (Or.inr ⟨o, g _ _ h (fun ps z => by cases z)⟩)
  · exact Or.inr h
mutual
theorem dp_extN {K : PySem.W.Frag} {F G : Hp} (g : ExtN F G) : ∀ {d : PyData} {v : V}, Dp K F v d → Dp K G v d
  | .none, _, h => by cases h; exact .non
  | .bool b, _, h => by cases h; exact .bl b
  | .int i, _, h => by cases h; exact .int i
  | .str x, _, h => by cases h; exact .str x
  | .list ds, _, h => by
    cases h with
    | lst hs ha => exact .lst (extN_sqL g hs) (dps_extN g ha)
  | .tuple ds, _, h => by
    cases h with
    | tup hs ha => exact .tup (extN_sqT g hs) (dps_extN g ha)
  | .dict _, _, h => by cases h
theorem dps_extN {K : PySem.W.Frag} {F G : Hp} (g : ExtN F G) : ∀ {ds : List PyData} {vs : List V}, DpAll K F vs ds → DpAll K G vs ds
  | [], _, h => by cases h; exact .nil
  | d :: ds, _, h => by
    cases h with
    | cons h1 h2 => exact .cons (dp_extN g h1) (dps_extN g h2)
end
theorem lamO_ne {f : Addr} {F : LF} (ps : Array Value) : LamO f F ≠ .tbl ps := fun z => by
  unfold LamO at z
  cases z
theorem Fun.okC {P : Program} {w : World} {K : PySem.W.Frag} {mg : Str → Option Value} {base : Heap} {x qual : Str} {st : Stmt} {f : Addr} {fd : FuncData} {N ps : List Str} {k : Nat} {sp : Sp} (F : Fun K x qual st f fd) (S : FnScope N ps (defScope st)) (len : ∀ vs H Q E, sp vs H Q E → vs.length = ps.length)
    (hbody : ∀ (cdv : Value) (_ : fd.code = cdv) (A : Around) (outer : List Env) (s : Shared) (H : Hp) (vs : List V) (Q : VK) (E : XK), Room k (A.deeper (envOfC qual (defScope st) s.heap.objs.size f cdv)) → sp vs H Q E →
      ∃ t, PSs (cxOf CX0 P w K mg base N qual (defScope st) f cdv A outer s H E).nox (defBody st) t ∧ t { nx := fun _ H' => Q .non H', rt := Q } (start N vs) H) : FnOk P w K mg base CX0 (k + 1) f fd ps sp := by
  obtain ⟨oc, od, kV, doc, pm, an, cdv, ct, osl, rfl, lk, hcd⟩ := F.ex
  refine fn_of lk hcd S len fun A outer s H vs Q E hr hsp => ?_
  obtain ⟨t, h, q⟩ := hbody cdv rfl A outer s H vs Q E hr hsp
  exact ⟨t, h.nox, q⟩
theorem nofree {p : Str × NameKind → Prop} {names : List (Str × NameKind)} (h : (names.all fun y => !decide (y.2 = .free)) = true) : ∀ y ∈ names, y.2 = .free → p y := fun y hy e => by
  have := List.all_eq_true.mp h y hy
  rw [e] at this
  cases this
/-! ### the law -/
def lamQ : Str := "law" ++ ".<locals>." ++ "<lambda>"
abbrev lamT (P : Addr) : List NTab := [(P, fun _ _ => lamQ)]
end Obr
namespace Obr
open PySem L2 PyProof.Rows
local macro_rules | `(tactic| walk_at "ob_wat") => `(tactic| first
  | with_reducible refine WAt.g_store (by assumption) ?_
  | with_reducible refine WAt.g_machines (by assumption) ?_
  | with_reducible refine WAt.g_rule (by assumption) ?_
  | with_reducible refine WAt.g_level (by assumption) ?_
  | with_reducible refine WAt.g_at (by assumption) ?_
  | with_reducible refine WAt.g_over (by assumption) ?_
  | with_reducible refine WAt.g_since (by assumption) ?_
  | with_reducible refine WAt.g_last (by assumption) ?_
  | with_reducible refine WAt.g_beat (by assumption) ?_
  | with_reducible refine WAt.g_done (by assumption) ?_
  | with_reducible refine WAt.g_waits (by assumption) ?_
  | with_reducible refine WAt.g_ends (by assumption) ?_
  | ((with_reducible refine' WAt.r_at_ (t := ?_) (m := ?_) ?obw ?obd ?obm ?_); (case obw => assumption); (case obd => assumption); (case obm => assumption))
  | ((with_reducible refine' WAt.r_over (t := ?_) (m := ?_) ?obw ?obd ?obm ?_); (case obw => assumption); (case obd => assumption); (case obm => assumption))
  | ((with_reducible refine' WAt.r_since (t := ?_) (m := ?_) ?obw ?obd ?obm ?_); (case obw => assumption); (case obd => assumption); (case obm => assumption))
  | ((with_reducible refine' WAt.r_done (t := ?_) (m := ?_) ?obw ?obd ?obm ?_); (case obw => assumption); (case obd => assumption); (case obm => assumption))
  | ((with_reducible refine' WAt.r_waits (t := ?_) (m := ?_) ?obw ?obd ?obm ?_); (case obw => assumption); (case obd => assumption); (case obm => assumption))
  | ((with_reducible refine' WAt.r_right ?obw ?obd ?_); (case obw => assumption); (case obd => assumption))
  | ((with_reducible refine' WAt.r_pass ?obw ?obd ?_); (case obw => assumption); (case obd => assumption)))
local macro_rules | `(tactic| walk_at "ob_at") => `(tactic| first
  | assumption
  | exact upd_same
  | (refine Eq.trans (upd_ne ?obn) ?obr; (case obn => walk_at "ob_ne"); (case obr => walk_at "ob_at")))
local macro_rules | `(tactic| walk_at "ob_ne") => `(tactic| first
  | assumption
  | (refine Ne.symm ?obs; (case obs => assumption))
  | (refine' ne_of_none (H := ?_) ?obe ?obh; (case obh => assumption); (case obe => walk_at "ob_at"))
  | (refine Ne.symm ?obs; (case obs => (refine' ne_of_none (H := ?_) ?obe ?obh; (case obh => assumption); (case obe => walk_at "ob_at")))))
local macro_rules | `(tactic| walk_at "ob_fr") => `(tactic| first
  | assumption
  | (refine Eq.trans (upd_ne ?obn) ?obr; (case obn => walk_at "ob_ne"); (case obr => walk_at "ob_fr"))
  | (refine Ex.free (G := ?_) (by assumption) ?obh; (case obh => walk_at "ob_fr")))
local macro_rules | `(tactic| walk_at "ob_ex") => `(tactic| first
  | assumption
  | exact Ex.refl _
  | (refine Ex.out ?obg ?obh; (case obh => assumption); (case obg => walk_at "ob_ex"))
  | (refine Ex.new ?obg ?obh; (case obh => assumption); (case obg => walk_at "ob_ex"))
  | (refine Ex.new ?obg ?obh; (case obh => walk_at "ob_fr"); (case obg => walk_at "ob_ex")))
local macro_rules | `(tactic| walk_at "ob_sq") => `(tactic| first
  | assumption
  | (refine SqL.of ?oba; (case oba => walk_at "ob_at"))
  | (refine Ex.sqT (F := ?_) ?obg ?obh; (case obh => assumption); (case obg => walk_at "ob_ex"))
  | (refine Ex.sqL (F := ?_) ?obg ?obh; (case obh => assumption); (case obg => walk_at "ob_ex"))
  | (refine SqT.of ?oba; (case oba => walk_at "ob_at")))
local macro_rules | `(tactic| walk_at "ob_side") => `(tactic| first | exact rfl | assumption | decide | omega | exact ⟨by decide, by decide, by decide⟩ | exact Or.inr ⟨by decide, by decide⟩ | exact Or.inl ⟨by decide, by decide⟩ | exact wide_div (b := 60) (by first | decide | omega) (by first | decide | omega) (by decide) (by decide))
local macro_rules | `(tactic| walk_at "ob1") => `(tactic| first
  | walk_at "ob_wat"
  | with_reducible refine sw_seq ?_
  | with_reducible refine sw_asg ?_
  | with_reducible refine sw_ret ?_
  | with_reducible refine sw_par ?_
  | with_reducible refine ⟨_, _, rfl, ?_⟩
  | with_reducible refine sw_drop ?_
  | with_reducible refine sw_if ?_
  | with_reducible refine sw_next ?_
  | with_reducible refine gw_name ?_
  | with_reducible refine gw_subL (by assumption) ?_
  | with_reducible refine gsw_cons ?_
  | with_reducible refine gsw_nil ?_
  | with_reducible refine ew_c ?_
  | ((with_reducible refine' ew_var (v := ?_) ?obv ?_); (case obv => exact rfl))
  | ((with_reducible refine ew_next (by assumption) ?obv ?_); (case obv => exact rfl))
  | ((with_reducible refine ew_world (by assumption) ?obv ?_); (case obv => exact rfl))
  | ((with_reducible refine ew_rule (by assumption) ?obv ?_); (case obv => exact rfl))
  | with_reducible refine ew_op ?_
  | with_reducible refine ew_un ?_
  | with_reducible refine ew_dget (by assumption) ?_
  | with_reducible refine uw_I ?_
  | with_reducible refine ppw_nil ?_
  | with_reducible refine ppw_cons ?_
  | with_reducible refine sw_dput (by assumption) ?_
  | with_reducible refine ew_cb ?_
  | with_reducible refine ew_if ?_
  | with_reducible refine ew_slL (by assumption) ?_
  | with_reducible refine ow_some ?_
  | with_reducible refine ow_none ?_
  | with_reducible refine aw_nil ?_
  | with_reducible refine aw_cons ?_
  | with_reducible refine rw_I0 ?_
  | ((with_reducible refine rw_I ?obc ?_); (case obc => walk_at "ob_side"))
  | ((with_reducible refine rw_eq ?obc ?_); (case obc => exact rfl))
  | ((with_reducible refine rw_ne ?obc ?_); (case obc => exact rfl))
  | with_reducible refine cw_max2 ?_
  | with_reducible refine cw_min2 ?_
  | with_reducible refine tw_test ?_
  | with_reducible refine tw_B ?_
  | with_reducible refine tw_not ?_
  | with_reducible refine tw_truB ?_
  | with_reducible refine tw_and ?_
  | with_reducible refine tw_or ?_
  | with_reducible refine ew_and ?_
  | (refine' Exists.intro _ (And.intro (show V.bl _ = V.bl _ from rfl) ?_))
  | (refine' Exists.intro _ (And.intro (show V.int _ = V.int _ from rfl) ?_))
  | ((with_reducible refine' rw_ixL (v := ?_) (xs := ?_) (by assumption) ?obl ?oba ?_); (case obl => walk_at "ob_sq"); (case oba => first | exact rfl | exact at_zero))
  | ((with_reducible refine' rw_ixT (v := ?_) (xs := ?_) (by assumption) ?obl ?oba ?_); (case obl => walk_at "ob_sq"); (case oba => first | exact rfl | exact at_zero))
  | ((with_reducible refine' ew_lst (by assumption) ?_))
  | ((with_reducible refine' ew_tup (by assumption) ?_)))
local macro_rules | `(tactic| walk_at "ob_len") => `(tactic| first | exact Nat.le_of_ble_eq_true rfl | (simp; done) | omega)
local macro_rules | `(tactic| walk_at "ob") => `(tactic| repeat walk_at "ob1")
/-- _law_beat(w, anew) -/
def aBeat (K : PySem.W.Frag) : List V → Hp → VK → Prop := fun vs F R => ∃ (F0 : Hp) (A : WAd) (t : LSt) (w : Wld) (r : Rgt) (p anew : Bool) (ex : List (Addr × HO)), vs = [.ref A.w, .bl anew] ∧ WAt K F0 F A t w r p ex ∧ LOk w t ∧ w.ms.length ≤ 5 ∧
  ∀ (F0' F' : Hp) (v : V) (t' : LSt) (lv : Int) (bg : List Int), Ex F0 F0' → WAt K F0' F' A t' w r p ex → LBeat w r p anew t t' lv bg → LOk w t' → Dp K F0' v (.tuple [.int lv, .list (bg.map PyData.int)]) → R v F'
theorem intsD_low (ns : List Int) : lowD 2 (.list (ns.map PyData.int)) = true := by
  simp only [lowD, List.all_map, List.all_eq_true]
  intro c _
  rfl
abbrev sBeat : Stmt := top 55
def N_beat : List Str := ["_law_w", "_law_anew", "_law_cap", "_law_start", "_law_refill", "_law_k", "_law_claims", "_law_began", "_law_is_open", "_law_draw", "_law_since"]
theorem sc_beat : FnScope N_beat ["_law_w", "_law_anew"] (defScope sBeat) := ⟨rfl, rfl, rfl, by decide +kernel, rfl, by decide +kernel, by decide +kernel⟩
section
variable {P : Program} {w : World} {K : PySem.W.Frag} {mg : Str → Option Value} {base : Heap}
theorem ok_beat {f f1 : Addr} {fd fd1 : FuncData} (Fn : Fun K "_law_beat" "_law_beat" sBeat f fd) (B : Blt mg)
    (C_law_turn : Cal K mg "_law_turn" f1 fd1 ["_law_right", "_law_claims", "_law_last"]) (G_law_turn : FnOk P w K mg base CX0 1 f1 fd1 ["_law_right", "_law_claims", "_law_last"] (LS (aTurn K))) :
    FnOk P w K mg base CX0 2 f fd ["_law_w", "_law_anew"] (LS (aBeat K)) := by
  refine Fn.ok sc_beat (fun vs H Q E h => ?_) (fun cdv AA outer s H vs Q E hr h => ?_)
  · obtain ⟨J, F, R, hd, j, ⟨F0, A, t, w, r, p, anew, ex, rfl, _⟩, _⟩ := h
    rfl
  · have nd := sc_beat.nd
    obtain ⟨J, F, R, hd, j, ⟨F0, A, t, w, r, p, anew, ex, rfl, hw, hok, hm5, k⟩, q⟩ := h
    refine ⟨_, (pss_cons (ps_asg (pe_dget (hu_of hr) (pv 0) pe_str (fun _ _ => rfl)) (pg_tup rfl (pgs_cons (pg_name (i := 2) nd rfl (Or.inl rfl)) (pgs_cons (pg_name (i := 3) nd rfl (Or.inl rfl)) (pgs_cons (pg_name (i := 4) nd rfl (Or.inl rfl)) pgs_nil)))))
      (pss_cons (ps_for PassesOwn.never rfl (pi_range1 rfl B.range (pa_cons (pe_callB call_len_seq (by rfl) B.len (by decide +kernel) (pa_cons (pe_dget (hu_of hr) (pv 0) pe_str (fun _ _ => rfl)) pa_nil)) pa_nil)) (pg_name (i := 5) nd rfl (Or.inl rfl)) (pss_one (ps_if (pt_cmpR op_eq (pe_ix ix_list (pe_dget (hu_of hr) (pv 0) pe_str (fun _ _ => rfl)) (pv 5) (fun _ _ => rfl)) (pe_dget (hu_of hr) (pv 0) pe_str (fun _ _ => rfl)) (nomark _)) (pss_cons (ps_dput (hu_of hr) (pv 0) pe_str (pe_callB (call_min2 rfl) (by rfl) B.min (by decide +kernel) (pa_cons (pv 2) (pa_cons (pe_op op_add (pe_dget (hu_of hr) (pv 0) pe_str (fun _ _ => rfl)) (pe_ix ix_tup (pe_ix ix_tup (pe_ix ix_tup (pe_dget (hu_of hr) (pv 0) pe_str (fun _ _ => rfl)) (pv 5) (fun _ _ => rfl)) (pe_ix ix_list (pe_dget (hu_of hr) (pv 0) pe_str (fun _ _ => rfl)) (pv 5) (fun _ _ => rfl)) (fun _ _ => rfl)) pe_int (fun _ _ => rfl))) pa_nil))) rfl)
      (pss_cons (ps_asg (pe_tup (pa_cons (pe_un un_neg pe_int) (pa_cons (pe_dget (hu_of hr) (pv 0) pe_str (fun _ _ => rfl)) pa_nil))) (pg_tup rfl (pgs_cons (pg_sub (pe_dget (hu_of hr) (pv 0) pe_str (fun _ _ => rfl)) (pv 5) set_list) (pgs_cons (pg_sub (pe_dget (hu_of hr) (pv 0) pe_str (fun _ _ => rfl)) (pv 5) set_list) pgs_nil))))
      (pss_cons (ps_asg (pe_tup (pa_cons (pe_op op_add (pe_ix ix_list (pe_dget (hu_of hr) (pv 0) pe_str (fun _ _ => rfl)) (pv 5) (fun _ _ => rfl)) pe_int) (pa_cons (pe_op op_add (pe_ix ix_list (pe_dget (hu_of hr) (pv 0) pe_str (fun _ _ => rfl)) (pv 5) (fun _ _ => rfl)) pe_int) pa_nil))) (pg_tup rfl (pgs_cons (pg_sub (pe_dget (hu_of hr) (pv 0) pe_str (fun _ _ => rfl)) (pv 5) set_list) (pgs_cons (pg_sub (pe_dget (hu_of hr) (pv 0) pe_str (fun _ _ => rfl)) (pv 5) set_list) pgs_nil))))
      (pss_one (ps_if (pt_cmpR op_eq (pe_ix ix_list (pe_dget (hu_of hr) (pv 0) pe_str (fun _ _ => rfl)) (pv 5) (fun _ _ => rfl)) (pe_callB call_len_seq (by rfl) B.len (by decide +kernel) (pa_cons (pe_ix ix_tup (pe_dget (hu_of hr) (pv 0) pe_str (fun _ _ => rfl)) (pv 5) (fun _ _ => rfl)) pa_nil)) (nomark _)) (pss_cons (ps_asg (pe_dget (hu_of hr) (pv 0) pe_str (fun _ _ => rfl)) (pg_sub (pe_dget (hu_of hr) (pv 0) pe_str (fun _ _ => rfl)) (pv 5) set_list))
      (pss_one (ps_asg (pe_ifExp (pt_truth (pv 1) (by intro _; rfl)) pe_int (pe_ix ix_list (pe_dget (hu_of hr) (pv 0) pe_str (fun _ _ => rfl)) (pv 5) (fun _ _ => rfl))) (pg_sub (pe_dget (hu_of hr) (pv 0) pe_str (fun _ _ => rfl)) (pv 5) set_list)))) pss_nil))))) pss_nil)))
      (pss_cons (ps_if (pt_cmpR op_gt (pe_dget (hu_of hr) (pv 0) pe_str (fun _ _ => rfl)) pe_int (nomark _)) (pss_one (ps_dput (hu_of hr) (pv 0) pe_str (pe_callB (call_min2 rfl) (by rfl) B.min (by decide +kernel) (pa_cons (pv 2) (pa_cons (pe_op op_add (pe_dget (hu_of hr) (pv 0) pe_str (fun _ _ => rfl)) (pv 4)) pa_nil))) rfl)) pss_nil)
      (pss_cons (ps_set (i := 6) nd rfl (Or.inl rfl) (pe_lst pa_nil))
      (pss_cons (ps_for PassesOwn.never rfl (pi_range1 rfl B.range (pa_cons (pe_callB call_len_seq (by rfl) B.len (by decide +kernel) (pa_cons (pe_dget (hu_of hr) (pv 0) pe_str (fun _ _ => rfl)) pa_nil)) pa_nil)) (pg_name (i := 5) nd rfl (Or.inl rfl)) (pss_one (ps_if (PW.pt (pw_and (pt_cmpR op_lt (pe_ix ix_list (pe_dget (hu_of hr) (pv 0) pe_str (fun _ _ => rfl)) (pv 5) (fun _ _ => rfl)) pe_int (nomark _)) (pw_and1 (pt_cmpR op_lt (pe_ix ix_list (pe_dget (hu_of hr) (pv 0) pe_str (fun _ _ => rfl)) (pv 5) (fun _ _ => rfl)) (pe_callB call_len_seq (by rfl) B.len (by decide +kernel) (pa_cons (pe_ix ix_tup (pe_dget (hu_of hr) (pv 0) pe_str (fun _ _ => rfl)) (pv 5) (fun _ _ => rfl)) pa_nil)) (nomark _))))) (pss_one (ps_expr (pe_bm PySem.F.plainAttrs_list PySem.F.slot_list_append PySem.F.type_list_append mt_append (pv 6) (pa_cons (pe_tup (pa_cons (pv 5) (pa_cons (pe_ix ix_tup (pe_ix ix_tup (pe_ix ix_tup (pe_dget (hu_of hr) (pv 0) pe_str (fun _ _ => rfl)) (pv 5) (fun _ _ => rfl)) (pe_ix ix_list (pe_dget (hu_of hr) (pv 0) pe_str (fun _ _ => rfl)) (pv 5) (fun _ _ => rfl)) (fun _ _ => rfl)) pe_int (fun _ _ => rfl)) (pa_cons (pe_ix ix_list (pe_dget (hu_of hr) (pv 0) pe_str (fun _ _ => rfl)) (pv 5) (fun _ _ => rfl)) pa_nil)))) pa_nil)))) pss_nil)))
      (pss_cons (ps_par (i := 7) (j := 8) rfl nd rfl rfl (by decide) rfl rfl (pa_cons (pe_lst pa_nil) (pa_cons pe_bl pa_nil)) (by rfl))
      (pss_cons (ps_for PassesOwn.never rfl (pi_list (pe_call G_law_turn (by exact hr.mono (by decide)) (by rfl) C_law_turn.g C_law_turn.k C_law_turn.a .nil pass0 (pa_cons (pe_ix ix_tup (pe_dget (hu_of hr) (pv 0) pe_str (fun _ _ => rfl)) pe_int (fun _ _ => rfl)) (pa_cons (pv 6) (pa_cons (pe_dget (hu_of hr) (pv 0) pe_str (fun _ _ => rfl)) pa_nil))))) (pg_tup rfl (pgs_cons (pg_name (i := 5) nd rfl (Or.inl rfl)) (pgs_cons (pg_name (i := 9) nd rfl (Or.inl rfl)) (pgs_cons (pg_name (i := 10) nd rfl (Or.inl rfl)) pgs_nil)))) (pss_one (ps_if (PW.pt (pw_and (pt_val (pv 8)) (pw_and1 (pt_cmpR op_le (pv 9) (pe_dget (hu_of hr) (pv 0) pe_str (fun _ _ => rfl)) (nomark _))))) (pss_cons (ps_dput (hu_of hr) (pv 0) pe_str (pe_op op_sub (pe_dget (hu_of hr) (pv 0) pe_str (fun _ _ => rfl)) (pv 9)) rfl)
      (pss_cons (ps_asg (pe_op op_add (pe_dget (hu_of hr) (pv 0) pe_str (fun _ _ => rfl)) (pe_ix ix_tup (pe_ix ix_tup (pe_ix ix_tup (pe_dget (hu_of hr) (pv 0) pe_str (fun _ _ => rfl)) (pv 5) (fun _ _ => rfl)) (pe_ix ix_list (pe_dget (hu_of hr) (pv 0) pe_str (fun _ _ => rfl)) (pv 5) (fun _ _ => rfl)) (fun _ _ => rfl)) pe_int (fun _ _ => rfl))) (pg_sub (pe_dget (hu_of hr) (pv 0) pe_str (fun _ _ => rfl)) (pv 5) set_list))
      (pss_one (ps_expr (pe_bm PySem.F.plainAttrs_list PySem.F.slot_list_append PySem.F.type_list_append mt_append (pv 7) (pa_cons (pv 5) pa_nil)))))) (pss_cons (ps_asg (pe_op op_add (pe_ix ix_list (pe_dget (hu_of hr) (pv 0) pe_str (fun _ _ => rfl)) (pv 5) (fun _ _ => rfl)) pe_int) (pg_sub (pe_dget (hu_of hr) (pv 0) pe_str (fun _ _ => rfl)) (pv 5) set_list))
      (pss_one (ps_set (i := 8) nd rfl (Or.inl rfl) (pe_and (pv 8) (pe_one (pe_ix ix_tup (pe_dget (hu_of hr) (pv 0) pe_str (fun _ _ => rfl)) pe_int (fun _ _ => rfl))))))))))
      (pss_cons (ps_dput (hu_of hr) (pv 0) pe_str (pe_ifExp (pt_cmpR (op_neD (by exact hr.units)) (pv 7) (pe_lst pa_nil) (nomark _)) (pe_ix ix_list (pv 7) (pe_un un_neg pe_int) (fun _ _ => rfl)) (pe_dget (hu_of hr) (pv 0) pe_str (fun _ _ => rfl))) rfl)
      (pss_cons (ps_dput (hu_of hr) (pv 0) pe_str (pe_op op_add (pe_dget (hu_of hr) (pv 0) pe_str (fun _ _ => rfl)) pe_int) rfl)
      (pss_one (ps_ret (pe_tup (pa_cons (pe_dget (hu_of hr) (pv 0) pe_str (fun _ _ => rfl)) (pa_cons (pv 7) pa_nil)))))))))))))), ?_⟩
    refine LS.body j q ?_
    refine sw_seq (sw_mid (fun σ _ G => σ = [some (.ref A.w), some (.bl anew), some (.int w.cap), some (.int w.start), some (.int w.refill), none, none, none, none, none, none] ∧ G = F) ?_ ?_)
    · walk_at "ob"
      obtain ⟨sa, sx, esa, ssa, dsa⟩ := dp_tup hw.st
      obtain ⟨_, _, _, rfl, d1, d2, d3⟩ := dps3 dsa
      cases dp_int d1; cases dp_int d2; cases dp_int d3
      refine gw_tup hd ⟨sa, _, esa, hw.own.ex.sqT ssa, rfl, gsw_cons (gw_name (gsw_cons (gw_name (gsw_cons (gw_name (gsw_nil ⟨rfl, rfl⟩))))))⟩
    rintro σ _ G ⟨rfl, rfl⟩
    refine sw_seq (sw_mid (fun σ _ G => ∃ x5, σ = [some (.ref A.w), some (.bl anew), some (.int w.cap), some (.int w.start), some (.int w.refill), x5, none, none, none, none, none] ∧ WAt K F0 G A (lEnds w anew t w.ms.length) w r p ex) ?_ ?_)
    · refine sw_forR1 ?_
      walk_at "ob"
      refine cw_lenS hd (Or.inl (SqL.of (hw.own.get (i := 1) rfl))) ?_
      rw [List.length_map, hw.len]
      walk_at "ob"
      refine ⟨(w.ms.length : Int), fun i σ _ G => ∃ x5, σ = [some (.ref A.w), some (.bl anew), some (.int w.cap), some (.int w.start), some (.int w.refill), x5, none, none, none, none, none] ∧ WAt K F0 G A (lEnds w anew t i) w r p ex,
        rfl, by omega, by omega, ⟨none, rfl, hw⟩, ?_, ?_⟩
      · rintro i σ _ G hi ⟨x5, rfl, hG⟩
        have hlt : i < w.ms.length := by omega
        have hoki := lEnds_ok (anew := anew) hok i
        obtain ⟨m, hm⟩ : ∃ m, (lEnds w anew t i).ms[i]? = some m := ⟨_, List.getElem?_eq_getElem (by rw [hG.len]; exact hlt)⟩
        obtain ⟨ss, hs⟩ : ∃ ss, w.ms[i]? = some ss := ⟨_, List.getElem?_eq_getElem hlt⟩
        have hmo := hoki.m i m ss hm hs
        walk_at "ob"
        have fin0 : ∀ (T : LSt) (G' : Hp), WAt K F0 G' A T w r p ex → T = lEnd w anew (lEnds w anew t i) i → ∃ x5, ([some (.ref A.w), some (.bl anew), some (.int w.cap), some (.int w.start), some (.int w.refill), some (.int (i : Int)), none, none, none, none, none] : L2.St) = [some (.ref A.w), some (.bl anew), some (.int w.cap), some (.int w.start), some (.int w.refill), x5, none, none, none, none, none] ∧ WAt K F0 G' A (lEnds w anew t (i + 1)) w r p ex :=
          fun T G' h e => ⟨_, rfl, by rw [lEnds, ← e]; exact h⟩
        refine ⟨fun hb => ?_, fun hb => ?_⟩
        · have hov : m.over = (lEnds w anew t i).beat := by have := of_decide_eq_true hb; injection this
          have hlt2 := hmo.o (by rw [hov]; exact hoki.b)
          have hat : m.at_.toNat < ss.length := by have := hmo.a0; omega
          obtain ⟨st, hst⟩ : ∃ st, ss[m.at_.toNat]? = some st := ⟨_, List.getElem?_eq_getElem hat⟩
          have hkl : i < (lEnds w anew t i).ms.length := (List.getElem?_eq_some_iff.mp hm).1
          walk_at "ob"
          refine hG.r_mac hd hs fun v dv => ?_
          walk_at "ob"
          refine r_stp hd hG.own.ex dv hmo.a0 hst fun u du => ?_
          walk_at "ob"
          refine (r_fld hd hG.own.ex du).2.2 ?_
          walk_at "ob"
          refine hG.p_level fun G1 h1 => ?_
          walk_at "ob"
          refine ⟨by walk_at "ob_len", fun p1 hp1 => ?_⟩
          have h2 := h1.new' (o := .tup [V.int (-1), V.int (lEnds w anew t i).beat]) hp1
          refine gw_tup hd ⟨p1, _, rfl, SqT.of upd_same, rfl, ?_⟩
          walk_at "ob"
          refine h2.s_over (z := -1) (D := fun σ s F => GsW J _ _ σ s F _) hm fun G3 h3 => ?_
          walk_at "ob"
          have hm3 : ((lEnds w anew t i).ms.set i { m with over := -1 })[i]? = some { m with over := -1 } := by rw [List.getElem?_set_self hkl]
          refine h3.s_since (z := (lEnds w anew t i).beat) (D := fun σ s F => GsW J _ _ σ s F _) hm3 fun G4 h4 => ?_
          rw [List.set_set] at h4
          clear h1 h2 h3
          have hm4 : ((lEnds w anew t i).ms.set i { m with over := -1, since := (lEnds w anew t i).beat })[i]? = some { m with over := -1, since := (lEnds w anew t i).beat } := by rw [List.getElem?_set_self hkl]
          walk_at "ob"
          refine ⟨by walk_at "ob_len", fun p2 hp2 => ?_⟩
          have h5 := h4.new' (o := .tup [.int (m.at_ + 1), .int (m.done + 1)]) hp2
          refine gw_tup hd ⟨p2, _, rfl, SqT.of upd_same, rfl, ?_⟩
          walk_at "ob"
          refine h5.s_at_ (z := m.at_ + 1) (D := fun σ s F => GsW J _ _ σ s F _) hm4 fun G6 h6 => ?_
          rw [List.set_set] at h6
          have hm6 : ((lEnds w anew t i).ms.set i { m with over := -1, since := (lEnds w anew t i).beat, at_ := m.at_ + 1 })[i]? = some { m with over := -1, since := (lEnds w anew t i).beat, at_ := m.at_ + 1 } := by rw [List.getElem?_set_self hkl]
          walk_at "ob"
          refine h6.s_done (z := m.done + 1) (D := fun σ s F => GsW J _ _ σ s F _) hm6 fun G7 h7 => ?_
          rw [List.set_set] at h7
          clear h4 h5 h6 hm3 hm4 hm6
          have hm7 : ((lEnds w anew t i).ms.set i { m with over := -1, since := (lEnds w anew t i).beat, at_ := m.at_ + 1, done := m.done + 1 })[i]? = some { m with over := -1, since := (lEnds w anew t i).beat, at_ := m.at_ + 1, done := m.done + 1 } := by rw [List.getElem?_set_self hkl]
          walk_at "ob"
          refine h7.r_mac hd hs fun v2 dv2 => ?_
          obtain ⟨va, sv, rfl, lv, dl⟩ := dp_tup dv2
          walk_at "ob"
          refine cw_lenS hd (Or.inr (h7.own.ex.sqT lv)) ?_
          have hsl : sv.length = ss.length := by have := dps_len dl; simpa using this
          rw [hsl]
          walk_at "ob"
          refine ⟨fun hc => ?_, fun hc => ?_⟩
          · have hce : m.at_ + 1 = (ss.length : Int) := by have := of_decide_eq_true hc; injection this
            walk_at "ob"
            refine h7.s_ends (z := some (lEnds w anew t i).beat) hm7 fun G8 h8 => ?_
            rw [List.set_set] at h8
            have hm8 : ((lEnds w anew t i).ms.set i { m with over := -1, since := (lEnds w anew t i).beat, at_ := m.at_ + 1, done := m.done + 1, ends := some (lEnds w anew t i).beat })[i]? = some { m with over := -1, since := (lEnds w anew t i).beat, at_ := m.at_ + 1, done := m.done + 1, ends := some (lEnds w anew t i).beat } := by rw [List.getElem?_set_self hkl]
            refine sw_asg ?_
            refine EW.imp (R := fun v _ G' => G' = G8 ∧ v = .int (if anew then 0 else m.at_ + 1)) ?_ ?_
            · walk_at "ob"
              refine ⟨fun ha => ?_, fun ha => ?_⟩
              · walk_at "ob"
                exact ⟨rfl, by rw [ha]; rfl⟩
              · walk_at "ob"
                exact ⟨rfl, by rw [ha]; rfl⟩
            · rintro v _ _ ⟨rfl, rfl⟩
              walk_at "ob"
              refine h8.s_at_ (z := if anew then 0 else m.at_ + 1) hm8 fun G9 h9 => ?_
              rw [List.set_set] at h9
              refine fin0 _ _ h9 ?_
              unfold lEnd
              rw [hm, hs]
              simp only [hst]
              rw [if_pos hov, if_pos hce]
              rfl
          · have hce : ¬ m.at_ + 1 = (ss.length : Int) := by have := of_decide_eq_false hc; exact fun e => this (by rw [e])
            walk_at "ob"
            refine fin0 _ _ h7 ?_
            unfold lEnd
            rw [hm, hs]
            simp only [hst]
            rw [if_pos hov, if_neg hce]
            rfl
        · have hov : ¬ m.over = (lEnds w anew t i).beat := by have := of_decide_eq_false hb; exact fun e => this (by rw [e])
          walk_at "ob"
          refine fin0 _ _ hG ?_
          unfold lEnd
          rw [hm, hs]
          simp only []
          rw [if_neg hov]
      · rintro σ _ G ⟨x5, rfl, hG⟩
        rw [show (w.ms.length : Int).toNat = w.ms.length from rfl] at hG
        exact ⟨x5, rfl, hG⟩
    rintro σ _ G ⟨x5, rfl, hG⟩
    have hok1 := lEnds_ok (anew := anew) hok w.ms.length
    refine sw_seq (sw_mid (fun σ _ G => σ = [some (.ref A.w), some (.bl anew), some (.int w.cap), some (.int w.start), some (.int w.refill), x5, none, none, none, none, none] ∧ WAt K F0 G A (lFill w (lEnds w anew t w.ms.length)) w r p ex) ?_ ?_)
    · walk_at "ob"
      refine ⟨fun hb => ?_, fun hb => ?_⟩
      · have hb' : 0 < (lEnds w anew t w.ms.length).beat := of_decide_eq_true hb
        walk_at "ob"
        refine hG.p_level fun G1 h1 => ⟨rfl, ?_⟩
        unfold lFill
        rw [if_pos hb']
        exact h1
      · have hb' : ¬ 0 < (lEnds w anew t w.ms.length).beat := of_decide_eq_false hb
        walk_at "ob"
        refine ⟨rfl, ?_⟩
        unfold lFill
        rw [if_neg hb']
        exact hG
    rintro σ _ G2 ⟨rfl, hG2⟩
    clear hG
    generalize hT2 : lFill w (lEnds w anew t w.ms.length) = T2 at hG2
    have hok2 : LOk w T2 := by rw [← hT2]; exact lFill_ok hok1
    refine sw_seq ?_
    walk_at "ob"
    refine ⟨by walk_at "ob_len", fun cl hcl => ?_⟩
    have h0 := hG2.more (o := .lst []) hcl
    walk_at "ob"
    refine sw_mid (fun σ _ G => ∃ (x5 : Option V) (F1 : Hp) (vs : List V), σ = [some (.ref A.w), some (.bl anew), some (.int w.cap), some (.int w.start), some (.int w.refill), x5, some (.ref cl), none, none, none, none] ∧
      WAt K F1 G A T2 w r p ((cl, .lst vs) :: ex) ∧ Ex F0 F1 ∧ DpAll K F1 vs ((lClaims w T2 w.ms.length).map clmD)) ?_ ?_
    · refine sw_forR1 ?_
      walk_at "ob"
      refine cw_lenS hd (Or.inl (SqL.of (h0.own.get (i := 1) rfl))) ?_
      rw [List.length_map, h0.len]
      walk_at "ob"
      refine ⟨(w.ms.length : Int), fun i σ _ G => ∃ (x5 : Option V) (F1 : Hp) (vs : List V), σ = [some (.ref A.w), some (.bl anew), some (.int w.cap), some (.int w.start), some (.int w.refill), x5, some (.ref cl), none, none, none, none] ∧
        WAt K F1 G A T2 w r p ((cl, .lst vs) :: ex) ∧ Ex F0 F1 ∧ DpAll K F1 vs ((lClaims w T2 i).map clmD) ∧ vs.length ≤ i, rfl, by omega, by omega, ⟨x5, F0, [], rfl, h0, .refl _, .nil, Nat.le_refl _⟩, ?_, ?_⟩
      · rintro i σ _ G hi ⟨x5, F1, vs, rfl, hG, gF, dv, hvl⟩
        have hlt : i < w.ms.length := by omega
        obtain ⟨m, hm⟩ : ∃ m, T2.ms[i]? = some m := ⟨_, List.getElem?_eq_getElem (by rw [hG.len]; exact hlt)⟩
        obtain ⟨ss, hs⟩ : ∃ ss, w.ms[i]? = some ss := ⟨_, List.getElem?_eq_getElem hlt⟩
        have hmo := hok2.m i m ss hm hs
        have fin0 : ∀ (F2 : Hp) (vs' : List V) (G' : Hp) (cs : List Clm), WAt K F2 G' A T2 w r p ((cl, .lst vs') :: ex) → Ex F0 F2 → DpAll K F2 vs' ((lClaims w T2 i ++ cs).map clmD) → vs'.length ≤ i + 1 → lClaim w T2 i = cs →
            ∃ (x5 : Option V) (F1 : Hp) (vs : List V), ([some (.ref A.w), some (.bl anew), some (.int w.cap), some (.int w.start), some (.int w.refill), some (.int (i : Int)), some (.ref cl), none, none, none, none] : L2.St) = [some (.ref A.w), some (.bl anew), some (.int w.cap), some (.int w.start), some (.int w.refill), x5, some (.ref cl), none, none, none, none] ∧
            WAt K F1 G' A T2 w r p ((cl, .lst vs) :: ex) ∧ Ex F0 F1 ∧ DpAll K F1 vs ((lClaims w T2 (i + 1)).map clmD) ∧ vs.length ≤ i + 1 := fun F2 vs' G' cs h g d hl e => ⟨_, F2, vs', rfl, h, g, by rw [lClaims, e]; exact d, hl⟩
        have fin1 : ¬ (m.over < 0 ∧ m.at_ < ss.length) → lClaim w T2 i = [] := fun hn => by unfold lClaim; rw [hm, hs]; simp only []; rw [if_neg hn]
        walk_at "ob"
        refine ⟨fun hb => ?_, fun hb => ?_⟩
        · have hb1 : m.over < 0 := of_decide_eq_true hb
          walk_at "ob"
          refine hG.r_mac hd hs fun v2 dv2 => ?_
          obtain ⟨va, sv, rfl, lv, dl⟩ := dp_tup dv2
          have hsl : sv.length = ss.length := by have := dps_len dl; simpa using this
          walk_at "ob"
          refine cw_lenS hd (Or.inr (hG.own.ex.sqT lv)) ?_
          rw [hsl]
          walk_at "ob"
          refine ⟨fun hc => ?_, fun hc => ?_⟩
          · have hc1 : m.at_ < (ss.length : Int) := of_decide_eq_true hc
            obtain ⟨st, hst⟩ : ∃ st, ss[m.at_.toNat]? = some st := ⟨_, List.getElem?_eq_getElem (by have := hmo.a0; omega)⟩
            walk_at "ob"
            refine ew_bmL hd ?_
            walk_at "ob"
            refine ⟨cl, vs, rfl, SqL.of hG.ex0, ?_⟩
            walk_at "ob"
            refine hG.r_mac hd hs fun v dvm => ?_
            walk_at "ob"
            refine r_stp hd hG.own.ex dvm hmo.a0 hst fun u du => ?_
            walk_at "ob"
            refine (r_fld hd hG.own.ex du).1 ?_
            walk_at "ob"
            refine ⟨by walk_at "ob_len", fun tp htp => ?_⟩
            have h2 := hG.new (o := .tup [.int (i : Int), .int st.draw, .int m.since]) htp
            have h2f : F1 tp = none := hG.own.ex.free htp
            walk_at "ob"
            refine mw_append hd (xs := vs) h2.ex0 (by omega) ?_
            have h3 := h2.exset (o' := .lst (vs ++ [.ref tp]))
            refine fin0 _ _ _ [⟨(i : Int), st.draw, m.since⟩] h3 (gF.trans (Ex.new (.refl _) h2f)) ?_ (by rw [List.length_append]; simp; omega) ?_
            · rw [List.map_append]
              exact dps_snoc (dps_ex (Ex.new (.refl _) h2f) dv) (.tup (SqT.of upd_same) (.cons (.int _) (.cons (.int _) (.cons (.int _) .nil))))
            · unfold lClaim
              rw [hm, hs]
              simp only []
              rw [if_pos ⟨hb1, hc1⟩, hst]
          · have hc1 : ¬ m.at_ < (ss.length : Int) := of_decide_eq_false hc
            walk_at "ob"
            exact fin0 _ _ _ [] hG gF (by rw [List.append_nil]; exact dv) (by omega) (fin1 fun h => hc1 h.2)
        · have hb1 : ¬ m.over < 0 := of_decide_eq_false hb
          refine ⟨(fun h => by cases h), fun _ => ?_⟩
          walk_at "ob"
          exact fin0 _ _ _ [] hG gF (by rw [List.append_nil]; exact dv) (by omega) (fin1 fun h => hb1 h.1)
      · rintro σ _ G ⟨x5, F1, vs, rfl, hG, gF, dv, hvl⟩
        exact ⟨x5, F1, vs, rfl, hG, gF, dv⟩
    rintro σ _ G ⟨x5, F1, cvs, rfl, hG, gF, dv⟩
    walk_at "ob"
    refine ⟨by walk_at "ob_len", fun bg hbg => ?_⟩
    have h1 := hG.more (o := .lst []) hbg
    walk_at "ob"
    have hT2l : T2.ms.length = w.ms.length := hok2.len
    refine sw_mid (fun σ _ G => ∃ (x5 x8 x9 x10 : Option V) (X : LSt × List Int × Bool) (ts : List Clm) (ps : List (Addr × HO)), σ = [some (.ref A.w), some (.bl anew), some (.int w.cap), some (.int w.start), some (.int w.refill), x5, some (.ref cl), some (.ref bg), x8, x9, x10] ∧
      TurnOk r T2.last (lClaims w T2 w.ms.length) ts ∧ X = lDraws w p ts T2 ∧ WAt K F1 G A X.1 w r p ((bg, .lst (X.2.1.map V.int)) :: (ps ++ ex)) ∧ LOk w X.1 ∧ SameAt T2 X.1 ∧ X.2.1.length ≤ 5 ∧ ps.length = 2) ?_ ?_
    · refine sw_forL hd ?_
      refine ew_call hd ?_
      walk_at "ob"
      refine ⟨F1, r, T2.last, cl, cvs, lClaims w T2 w.ms.length, rfl, h1.own.ex, SqL.of (h1.swap.ex0), dv, by have := lClaims_len (w := w) (t := T2) w.ms.length; omega, lClaims_nd _, fun lp F' ts vs2 g hp hpv dts hperm hsrt => ?_⟩
      have hts : ts.length ≤ 5 := by have := hperm.length_eq; have := lClaims_len (w := w) (t := T2) w.ms.length; omega
      have hvl : vs2.length = ts.length := by have := dps_len dts; simpa using this
      have h2 := (h1.adopt g hp hpv).swap
      refine ⟨lp, vs2, fun i σ _ G => ∃ (x5 x9 x10 : Option V) (X : LSt × List Int × Bool), σ = [some (.ref A.w), some (.bl anew), some (.int w.cap), some (.int w.start), some (.int w.refill), x5, some (.ref cl), some (.ref bg), some (.bl X.2.2), x9, x10] ∧
        X = (ts.take i).foldl (lDraw w p) (T2, [], true) ∧ WAt K F1 G A X.1 w r p ((bg, .lst (X.2.1.map V.int)) :: (lp, .lst vs2) :: (cl, .lst cvs) :: ex) ∧ LOk w X.1 ∧ SameAt T2 X.1 ∧ X.2.1.length ≤ i, rfl, SqL.of hpv,
        ⟨x5, none, none, (T2, [], true), rfl, rfl, h2, hok2, ⟨rfl, fun _ => rfl⟩, Nat.le_refl _⟩, ?_, ?_, ?_⟩
      · rintro i σ _ G hi ⟨x5, x9, x10, X, rfl, _, hX, _⟩
        exact SqL.of (hX.swap.ex0)
      · rintro i x σ _ G hi ⟨x5, x9, x10, X, rfl, eX, hX, hokX, hsa, hbl⟩
        obtain ⟨dd, hdd, dx⟩ := dps_get' dts hi
        rw [List.getElem?_map] at hdd
        obtain ⟨c, hc, rfl⟩ : ∃ c, ts[i]? = some c ∧ clmD c = dd := by
          cases e : ts[i]? with
          | none => rw [e] at hdd; cases hdd
          | some u => rw [e] at hdd; exact ⟨u, rfl, Option.some.inj hdd⟩
        have hi5 : i < ts.length := (List.getElem?_eq_some_iff.mp hc).1
        obtain ⟨a1, xs1, rfl, q1, d1⟩ := dp_tup dx
        obtain ⟨_, _, _, rfl, f1, f2, f3⟩ := dps3 d1
        cases dp_int f1; cases dp_int f2; cases dp_int f3
        have hcm : c ∈ lClaims w T2 w.ms.length := hperm.mem_iff.mp (List.mem_of_getElem? hc)
        obtain ⟨kk, hkk, hcm⟩ := lClaims_mem hcm
        obtain ⟨m2, ss, st, hm2, hs, hov2, hat2, hst2, hce⟩ := lClaim_mem hcm
        have hck : c.k = (kk : Int) := by rw [hce]
        have hcd : c.draw = st.draw := by rw [hce]
        obtain ⟨m, hm⟩ : ∃ m, X.1.ms[kk]? = some m := ⟨_, List.getElem?_eq_getElem (by rw [hX.len]; exact hkk)⟩
        have hma : m.at_ = m2.at_ := by
          have := hsa.2 kk
          rw [hm, hm2] at this
          exact Option.some.inj this
        have hmo := hokX.m kk m ss hm hs
        have hat : m.at_ < ss.length := by omega
        have hst : ss[m.at_.toNat]? = some st := by rw [hma]; exact hst2
        have estep : (ts.take (i + 1)).foldl (lDraw w p) (T2, [], true) = lDraw w p X c := by
          rw [List.take_succ, hc, List.foldl_append, ← eX]
          rfl
        have hkl : kk < X.1.ms.length := (List.getElem?_eq_some_iff.mp hm).1
        refine gw_tup hd ⟨a1, _, rfl, hX.own.ex.sqT q1, rfl, ?_⟩
        rw [hck]
        refine gsw_cons (gw_name (gsw_cons (gw_name (gsw_cons (gw_name (gsw_nil ?_))))))
        refine sw_if (TW.imp (R := fun b _ G' => G' = G ∧ b = decide (X.2.2 = true ∧ c.draw ≤ X.1.level)) ?_ ?_)
        · refine tw_and ?_
          walk_at "ob"
          refine ⟨fun ho => ?_, fun ho => ⟨rfl, ?_⟩⟩
          · walk_at "ob"
            refine ⟨rfl, ?_⟩
            simp [ho]
          · simp [ho]
        · rintro b _ G' ⟨rfl, rfl⟩
          refine ⟨fun hb => ?_, fun hb => ?_⟩
          · have hb' := of_decide_eq_true hb
            walk_at "ob"
            refine hX.p_level fun G1 h1 => ?_
            walk_at "ob"
            refine h1.r_mac hd hs fun v dvm => ?_
            walk_at "ob"
            refine r_stp hd h1.own.ex dvm hmo.a0 hst fun u du => ?_
            walk_at "ob"
            refine (r_fld hd h1.own.ex du).2.1 ?_
            walk_at "ob"
            refine h1.s_over (z := X.1.beat + st.long) hm fun G2 h2 => ?_
            walk_at "ob"
            refine ew_bmL hd ?_
            walk_at "ob"
            refine ⟨bg, _, rfl, SqL.of h2.ex0, ?_⟩
            walk_at "ob"
            refine mw_append hd h2.ex0 (by rw [List.length_map]; omega) ?_
            have h3 := h2.exset (o' := .lst (X.2.1.map V.int ++ [.int (kk : Int)]))
            have eD : lDraw w p X c = ({ X.1 with level := X.1.level - c.draw, ms := X.1.ms.set kk { m with over := X.1.beat + st.long } }, X.2.1 ++ [c.k], X.2.2) := by
              unfold lDraw
              rw [hck]
              simp only [Int.toNat_natCast]
              rw [hm, hs]
              simp only []
              rw [if_pos hb', hst]
            refine ⟨_, _, _, ({ X.1 with level := X.1.level - c.draw, ms := X.1.ms.set kk { m with over := X.1.beat + st.long } }, X.2.1 ++ [c.k], X.2.2), rfl, ?_, ?_, ?_, ?_, ?_⟩
            · rw [estep, eD]
            · show WAt K F1 _ A _ w r p ((bg, .lst ((X.2.1 ++ [c.k]).map V.int)) :: _)
              rw [List.map_append, hck]
              exact h3
            · exact hokX.set (k := kk) hs (m' := { m with over := X.1.beat + st.long }) ⟨hmo.a0, hmo.a1, fun _ => hat⟩ rfl rfl
            · exact hsa.set hm (m' := { m with over := X.1.beat + st.long }) rfl rfl rfl
            · show (X.2.1 ++ [c.k]).length ≤ i + 1
              rw [List.length_append]
              simp
              omega
          · have hb' := of_decide_eq_false hb
            walk_at "ob"
            refine hX.s_waits (z := m.waits + 1) hm fun G2 h2 => ?_
            refine sw_asg ?_
            refine EW.imp (R := fun v _ G' => G' = G2 ∧ v = .bl (X.2.2 && p)) ?_ ?_
            · walk_at "ob"
              refine ⟨fun ho => ?_, fun ho => ?_⟩
              · walk_at "ob"
                exact ⟨rfl, by rw [ho]; rfl⟩
              · exact ⟨rfl, by rw [ho]; rfl⟩
            · rintro v _ G3 ⟨rfl, rfl⟩
              walk_at "ob"
              have eD : lDraw w p X c = ({ X.1 with ms := X.1.ms.set kk { m with waits := m.waits + 1 } }, X.2.1, X.2.2 && p) := by
                unfold lDraw
                rw [hck]
                simp only [Int.toNat_natCast]
                rw [hm, hs]
                simp only []
                rw [if_neg hb']
              refine ⟨_, _, _, ({ X.1 with ms := X.1.ms.set kk { m with waits := m.waits + 1 } }, X.2.1, X.2.2 && p), rfl, ?_, h2, ?_, ?_, ?_⟩
              · rw [estep, eD]
              · exact hokX.set (k := kk) hs (m' := { m with waits := m.waits + 1 }) ⟨hmo.a0, hmo.a1, hmo.o⟩ rfl rfl
              · exact hsa.set hm (m' := { m with waits := m.waits + 1 }) rfl rfl rfl
              · show X.2.1.length ≤ i + 1
                omega
      · rintro σ _ G ⟨x5, x9, x10, X, rfl, eX, hX, hokX, hsa, hbl⟩
        refine ⟨x5, _, x9, x10, X, ts, [(lp, .lst vs2), (cl, .lst cvs)], rfl, ⟨hperm, hsrt⟩, ?_, hX, hokX, hsa, by omega, rfl⟩
        rw [eX, List.take_of_length_le (by omega)]
        rfl
    rintro σ _ G ⟨x5, x8, x9, x10, X, ts, ps, rfl, hts, eX, hX, hokX, hsa, hbl, hps⟩
    walk_at "ob"
    refine ⟨by walk_at "ob_len", fun z hz => ?_⟩
    have h2 := hX.new' (o := .lst []) hz
    have dbg : DpAll K (upd G z (.lst [])) (X.2.1.map V.int) (X.2.1.map PyData.int) := dps_ints
    refine rw_neD hd (d := .list (X.2.1.map PyData.int)) (e := .list []) (.lst (SqL.of h2.ex0) dbg) (.lst (SqL.of upd_same) .nil) (shaped_low (n := 2) (intsD_low _)) (shaped_low (n := 1) rfl) ?_
    walk_at "ob"
    have fin : ∀ (G3 : Hp), WAt K F1 G3 A (lLast X.1 X.2.1) w r p ((bg, .lst (X.2.1.map V.int)) :: (ps ++ ex)) → ∀ (q2 : Addr), G3 q2 = none → R (.ref q2) (upd G3 q2 (.tup [.int X.1.level, .ref bg])) := fun G3 h q2 hq2 => by
      have hf := h.freeze
      have hn := hf.new (o := .tup [.int X.1.level, .ref bg]) hq2
      have hps2 : WAt K (upd (upd F1 bg (.lst (X.2.1.map V.int))) q2 (.tup [.int X.1.level, .ref bg])) (upd G3 q2 (.tup [.int X.1.level, .ref bg])) A (lLast X.1 X.2.1) w r p ex := by
        match ps, hps with
        | [a, b], _ => exact hn.drop.drop
      have hbgq : bg ≠ q2 := ne_of_none h.ex0 hq2
      have hbF : F1 bg = none := h.own.none (i := 7) rfl
      have hqF : (upd F1 bg (.lst (X.2.1.map V.int))) q2 = none := hf.own.ex.free hq2
      refine k _ _ _ _ X.1.level X.2.1 (gF.trans (Ex.new (Ex.new (.refl _) hbF) hqF)) hps2 ⟨ts, ?_⟩ ?_ (.tup (SqT.of upd_same) (.cons (.int _) (.cons (.lst (SqL.of (Eq.trans (upd_ne hbgq) upd_same)) dps_ints) .nil)))
      · rw [hT2]
        rw [eX] at *
        exact ⟨hts, rfl, rfl, rfl⟩
      · exact hokX.same rfl (by show 0 ≤ X.1.beat + 1; have := hokX.b; omega)
    have tail : ∀ (G3 : Hp), WAt K F1 G3 A { X.1 with last := (if X.2.1.isEmpty then X.1.last else X.2.1.getLastD 0) } w r p ((bg, .lst (X.2.1.map V.int)) :: (ps ++ ex)) → True := fun _ _ => trivial
    refine ⟨fun hb => ?_, fun hb => ?_⟩
    · have hne : X.2.1 ≠ [] := fun e => by rw [e] at hb; simp [PyData.eqv, PyData.eqvAll] at hb
      obtain ⟨ini, la, hil⟩ : ∃ ini la, X.2.1 = ini ++ [la] := ⟨X.2.1.dropLast, X.2.1.getLast hne, (List.dropLast_concat_getLast hne).symm⟩
      walk_at "ob"
      refine rw_ixL hd (xs := ini.map V.int ++ [.int la]) (SqL.of (by rw [h2.ex0, hil, List.map_append]; rfl)) (L2.atI_last _ _) ?_
      walk_at "ob"
      refine h2.p_last fun G3 h3 => ?_
      walk_at "ob"
      refine h3.p_beat fun G4 h4 => ?_
      walk_at "ob"
      refine ⟨by walk_at "ob_len", fun q2 hq2 => ?_⟩
      refine fin _ ?_ q2 hq2
      have e : lLast X.1 X.2.1 = { X.1 with last := la, beat := X.1.beat + 1 } := by
        unfold lLast
        rw [hil]
        simp
      rw [e]
      exact h4
    · have he : X.2.1 = [] := by
        cases e : X.2.1 with
        | nil => rfl
        | cons a b => rw [e] at hb; simp [PyData.eqv, PyData.eqvAll] at hb
      walk_at "ob"
      refine h2.p_last fun G3 h3 => ?_
      walk_at "ob"
      refine h3.p_beat fun G4 h4 => ?_
      walk_at "ob"
      refine ⟨by walk_at "ob_len", fun q2 hq2 => ?_⟩
      refine fin _ ?_ q2 hq2
      have e : lLast X.1 X.2.1 = { X.1 with last := X.1.last, beat := X.1.beat + 1 } := by
        unfold lLast
        rw [he]
        rfl
      rw [e]
      exact h4
end
end Obr
namespace Obr
open PySem L2 PyProof.Rows
local macro_rules | `(tactic| walk_at "ob_at") => `(tactic| first
  | assumption
  | exact upd_same
  | (refine Eq.trans (upd_ne ?obn) ?obr; (case obn => walk_at "ob_ne"); (case obr => walk_at "ob_at")))
local macro_rules | `(tactic| walk_at "ob_ne") => `(tactic| first
  | assumption
  | (refine Ne.symm ?obs; (case obs => assumption))
  | (refine' ne_of_none (H := ?_) ?obe ?obh; (case obh => assumption); (case obe => walk_at "ob_at"))
  | (refine Ne.symm ?obs; (case obs => (refine' ne_of_none (H := ?_) ?obe ?obh; (case obh => assumption); (case obe => walk_at "ob_at")))))
local macro_rules | `(tactic| walk_at "ob_fr") => `(tactic| first
  | assumption
  | (refine Eq.trans (upd_ne ?obn) ?obr; (case obn => walk_at "ob_ne"); (case obr => walk_at "ob_fr"))
  | (refine Ex.free (G := ?_) (by assumption) ?obh; (case obh => walk_at "ob_fr")))
local macro_rules | `(tactic| walk_at "ob_ex") => `(tactic| first
  | assumption
  | exact Ex.refl _
  | (refine Ex.out ?obg ?obh; (case obh => assumption); (case obg => walk_at "ob_ex"))
  | (refine Ex.new ?obg ?obh; (case obh => assumption); (case obg => walk_at "ob_ex"))
  | (refine Ex.new ?obg ?obh; (case obh => walk_at "ob_fr"); (case obg => walk_at "ob_ex")))
local macro_rules | `(tactic| walk_at "ob_sq") => `(tactic| first
  | assumption
  | (refine SqL.of ?oba; (case oba => walk_at "ob_at"))
  | (refine Ex.sqT (F := ?_) ?obg ?obh; (case obh => assumption); (case obg => walk_at "ob_ex"))
  | (refine Ex.sqL (F := ?_) ?obg ?obh; (case obh => assumption); (case obg => walk_at "ob_ex"))
  | (refine SqT.of ?oba; (case oba => walk_at "ob_at")))
local macro_rules | `(tactic| walk_at "ob_side") => `(tactic| first | exact rfl | assumption | decide | omega | exact ⟨by decide, by decide, by decide⟩ | exact Or.inr ⟨by decide, by decide⟩ | exact Or.inl ⟨by decide, by decide⟩ | exact wide_div (b := 60) (by first | decide | omega) (by first | decide | omega) (by decide) (by decide))
local macro_rules | `(tactic| walk_at "ob1") => `(tactic| first
  | with_reducible refine sw_seq ?_
  | with_reducible refine sw_asg ?_
  | with_reducible refine sw_ret ?_
  | with_reducible refine sw_par ?_
  | with_reducible refine ⟨_, _, rfl, ?_⟩
  | with_reducible refine sw_drop ?_
  | with_reducible refine sw_if ?_
  | with_reducible refine sw_next ?_
  | with_reducible refine gw_name ?_
  | with_reducible refine gw_subL (by assumption) ?_
  | with_reducible refine gsw_cons ?_
  | with_reducible refine gsw_nil ?_
  | with_reducible refine ew_c ?_
  | ((with_reducible refine' ew_var (v := ?_) ?obv ?_); (case obv => exact rfl))
  | ((with_reducible refine ew_next (by assumption) ?obv ?_); (case obv => exact rfl))
  | ((with_reducible refine ew_world (by assumption) ?obv ?_); (case obv => exact rfl))
  | ((with_reducible refine ew_rule (by assumption) ?obv ?_); (case obv => exact rfl))
  | with_reducible refine ew_op ?_
  | with_reducible refine ew_un ?_
  | with_reducible refine ew_dget (by assumption) ?_
  | with_reducible refine uw_I ?_
  | with_reducible refine ppw_nil ?_
  | with_reducible refine ppw_cons ?_
  | with_reducible refine sw_dput (by assumption) ?_
  | with_reducible refine ew_cb ?_
  | with_reducible refine ew_if ?_
  | with_reducible refine ew_slL (by assumption) ?_
  | with_reducible refine ow_some ?_
  | with_reducible refine ow_none ?_
  | with_reducible refine aw_nil ?_
  | with_reducible refine aw_cons ?_
  | with_reducible refine rw_I0 ?_
  | ((with_reducible refine rw_I ?obc ?_); (case obc => walk_at "ob_side"))
  | with_reducible refine rw_isN ?_
  | with_reducible refine rw_notN ?_
  | ((with_reducible refine rw_eq ?obc ?_); (case obc => exact rfl))
  | ((with_reducible refine rw_ne ?obc ?_); (case obc => exact rfl))
  | with_reducible refine cw_max2 ?_
  | with_reducible refine cw_min2 ?_
  | with_reducible refine tw_test ?_
  | with_reducible refine tw_B ?_
  | with_reducible refine tw_not ?_
  | with_reducible refine tw_truB ?_
  | with_reducible refine tw_and ?_
  | with_reducible refine tw_or ?_
  | with_reducible refine ew_and ?_
  | (refine' Exists.intro _ (And.intro (show V.bl _ = V.bl _ from rfl) ?_))
  | (refine' Exists.intro _ (And.intro (show V.int _ = V.int _ from rfl) ?_))
  | ((with_reducible refine' rw_ixL (v := ?_) (xs := ?_) (by assumption) ?obl ?oba ?_); (case obl => walk_at "ob_sq"); (case oba => first | exact rfl | exact at_zero))
  | ((with_reducible refine' rw_ixT (v := ?_) (xs := ?_) (by assumption) ?obl ?oba ?_); (case obl => walk_at "ob_sq"); (case oba => first | exact rfl | exact at_zero))
  | ((with_reducible refine' ew_lst (by assumption) ?_))
  | ((with_reducible refine' ew_tup (by assumption) ?_)))
local macro_rules | `(tactic| walk_at "ob_len") => `(tactic| first | exact Nat.le_of_ble_eq_true rfl | (simp; done) | omega)
local macro_rules | `(tactic| walk_at "ob") => `(tactic| repeat walk_at "ob1")
/-! ### _law_alike of the same data -/
def tyD : PyData → String
  | .none => "NoneType"
  | .bool _ => "bool"
  | .int _ => "int"
  | .str _ => "str"
  | .list _ => "list"
  | .tuple _ => "tuple"
  | .dict _ => "dict"
theorem dp_ty {K : PySem.W.Frag} {H : Hp} {v : V} {d : PyData} (h : Dp K H v d) : TyX K H v (.type (tyD d)) := by
  cases h with
  | non => exact .base .non
  | bl b => exact .base (.bl b)
  | int i => exact .base (.int i)
  | str x => exact .base (.str x)
  | lst hs ha =>
    rcases hs with (h | ⟨o, h⟩) | ⟨o, its, n, h1, h2, _⟩
    · exact .base (.lst h)
    · exact .base (.frz h)
    · exact .kList h1 h2
  | tup hs ha =>
    rcases hs with (h | ⟨o, h⟩) | ⟨o, its, n, h1, h2, _⟩
    · exact .base (.tup h)
    · exact .fTuple h
    · exact .kTuple h1 h2
section
variable {S : Type} {J : S → Hp → Hp → Prop} {K : PySem.W.Frag} {s : S} {F : Hp} {R : V → S → Hp → Prop}
theorem cw_isi (hd : Hid J) {v : V} {d : PyData} {n : String} {b : Bool} (h : Dp K F v d) (e : kitB (tyD d) n = some b) (k : R (.bl b) s F) : CW J (rIsi K) [v, .ty n] s F R := fun H j Q q =>
  ⟨v, .ty n, _, _, b, rfl, .ty n, dp_ty (dp_ex (hd.ex j) h), kit_ty e, q _ _ _ _ j k⟩
theorem cw_isi2 (hd : Hid J) {v : V} {d : PyData} {n1 n2 : String} {b1 b2 : Bool} {tp : Addr} (ht : F tp = some (.tup [.ty n1, .ty n2])) (h : Dp K F v d) (e1 : kitB (tyD d) n1 = some b1) (e2 : kitB (tyD d) n2 = some b2) (k : R (.bl (b1 || b2)) s F) : CW J (rIsiT K) [v, .ref tp] s F R := fun H j Q q =>
  ⟨v, tp, [.ty n1, .ty n2], _, [.type n1, .type n2], b1 || b2, rfl, hd.ex j _ _ ht, .cons (.ty n1) (.cons (.ty n2) .nil), dp_ty (dp_ex (hd.ex j) h),
    kitAny_cons (kit_ty e1) (fun hb => by rw [hb]; exact kitAny_cons (kit_ty e2) (fun hb2 => by rw [hb2]; exact kitAny_nil) (fun hb2 => by rw [hb2]; rfl)) (fun hb => by rw [hb]; rfl), q _ _ _ _ j k⟩
theorem rw_ixD (hd : Hid J) {p : Addr} {xs : List V} {i : Nat} {v : V} (l : SqL K F p xs ∨ SqT K F p xs) (a : xs[i]? = some v) (h : R v s F) : RW J (rIx K) (.ref p) (.int (i : Int)) s F R := fun H j Q q => by
  rcases l with l | l
  · exact .inl ⟨p, xs, i, v, rfl, rfl, hd.sqL j l, atI_nat a, q _ _ _ _ j h⟩
  · exact .inr (.inl ⟨p, xs, i, v, rfl, rfl, hd.sqT j l, atI_nat a, q _ _ _ _ j h⟩)
end
/-- data of depth n at most, none longer than a thousand -/
def szD : Nat → PyData → Bool
  | _, .none => true
  | _, .bool _ => true
  | _, .int _ => true
  | _, .str x => PyData.strOk x
  | n + 1, .list ds => decide (ds.length ≤ 1000) && ds.all (szD n)
  | n + 1, .tuple ds => decide (ds.length ≤ 1000) && ds.all (szD n)
  | _, _ => false
/-- two that hold the same -/
def aAlike (K : PySem.W.Frag) : Nat → List V → Hp → VK → Prop
  | 0 => fun _ _ _ => False
  | n + 1 => fun vs F R => ∃ (x y : V) (d : PyData), vs = [x, y] ∧ Dp K F x d ∧ Dp K F y d ∧ szD n d = true ∧ ∀ F', Ex F F' → R (.bl true) F'
abbrev sAlike : Stmt := top 50
def N_alike : List Str := ["_law_found", "_law_due", "_law_k"]
theorem sc_alike : FnScope N_alike ["_law_found", "_law_due"] (defScope sAlike) := ⟨rfl, rfl, rfl, by decide +kernel, rfl, by decide +kernel, by decide +kernel⟩
section
variable {P : Program} {w : World} {K : PySem.W.Frag} {mg : Str → Option Value} {base : Heap}
theorem ok_alike {f : Addr} {fd : FuncData} (Fn : Fun K "_law_alike" "_law_alike" sAlike f fd) (B : Blt mg) (C_law_alike : Cal K mg "_law_alike" f fd ["_law_found", "_law_due"]) :
    ∀ n, FnOk P w K mg base CX0 n f fd ["_law_found", "_law_due"] (LS (aAlike K n))
  | 0 => ⟨fun _ _ _ _ ⟨_, _, _, _, _, h, _⟩ => h.elim, fun _ _ _ _ _ _ _ _ _ _ _ _ _ ⟨_, _, _, _, _, h, _⟩ => h.elim⟩
  | n + 1 => by
    have ih := ok_alike Fn B C_law_alike n
    refine Fn.ok sc_alike (fun vs H Q E h => ?_) (fun cdv A outer s H vs Q E hr h => ?_)
    · obtain ⟨J, F, R, hd, j, ⟨x, y, d, rfl, _⟩, _⟩ := h
      rfl
    have nd := sc_alike.nd
    obtain ⟨J, F, R, hd, j, ⟨x, y, d, rfl, hx, hy, hz, k⟩, q⟩ := h
    refine ⟨_, (pss_cons (ps_if (pt_val (pe_callB call_isiT (by rfl) B.isinstance (by decide +kernel) (pa_cons (pv 1) (pa_cons (pe_tup (pa_cons (pe_bltn (v := .ty "tuple") (by rfl) B.tuple (by decide +kernel) rfl) (pa_cons (pe_bltn (v := .ty "list") (by rfl) B.list (by decide +kernel) rfl) pa_nil))) pa_nil)))) (pss_cons (ps_if (PW.pt (pw_or (pt_not (pt_val (pe_callB call_isiT (by rfl) B.isinstance (by decide +kernel) (pa_cons (pv 0) (pa_cons (pe_tup (pa_cons (pe_bltn (v := .ty "tuple") (by rfl) B.tuple (by decide +kernel) rfl) (pa_cons (pe_bltn (v := .ty "list") (by rfl) B.list (by decide +kernel) rfl) pa_nil))) pa_nil))))) (pw_or1 (pt_cmpR op_ne (pe_callB call_isi (by rfl) B.isinstance (by decide +kernel) (pa_cons (pv 0) (pa_cons (pe_bltn (v := .ty "list") (by rfl) B.list (by decide +kernel) rfl) pa_nil))) (pe_callB call_isi (by rfl) B.isinstance (by decide +kernel) (pa_cons (pv 1) (pa_cons (pe_bltn (v := .ty "list") (by rfl) B.list (by decide +kernel) rfl) pa_nil))) (nomark _))))) (pss_one (ps_ret pe_bl)) pss_nil)
      (pss_cons (ps_if (pt_cmpR op_ne (pe_callB call_len_seq (by rfl) B.len (by decide +kernel) (pa_cons (pv 0) pa_nil)) (pe_callB call_len_seq (by rfl) B.len (by decide +kernel) (pa_cons (pv 1) pa_nil)) (nomark _)) (pss_one (ps_ret pe_bl)) pss_nil)
      (pss_one (ps_ret (pe_cmpR (op_eqD (by exact hr.units)) (pe_lc (own := [("_law_k", 2)]) (te := (tVar 2)) (tt := (tNot (tB (tCall (LS (aAlike K n)) [] E0 (tCons (tOp (rIx K) (tVar 0) (tVar 2)) (tCons (tOp (rIx K) (tVar 1) (tVar 2)) tNil)))))) (by rfl) nd (pi_range1 rfl B.range (pa_cons (pe_callB call_len_seq (by rfl) B.len (by decide +kernel) (pa_cons (pv 1) pa_nil)) pa_nil)) (blkOk_by (own := [("_law_k", 2)]) (N := N_alike) (sc := defScope sAlike) (by decide +kernel)) (fun _ _ _ _ _ => (pg_name (i := 2) nd rfl (Or.inl rfl))) (fun _ _ _ _ _ => pts_one (pt_not (pt_val (pe_call ih (by exact hr) (by rfl) C_law_alike.g C_law_alike.k C_law_alike.a .nil pass0 (pa_cons (pe_ix ix_seq (pv 0) (pv 2) (fun _ _ => rfl)) (pa_cons (pe_ix ix_seq (pv 1) (pv 2) (fun _ _ => rfl)) pa_nil)))))) (fun _ _ _ _ _ => (pv 2))) (pe_lst pa_nil) (nomark _)))))) pss_nil)
      (pss_cons (ps_if (PW.pt (pw_or (pt_cmpR op_isN (pv 1) pe_non (nomark _)) (pw_or1 (pt_val (pe_callB call_isi (by rfl) B.isinstance (by decide +kernel) (pa_cons (pv 1) (pa_cons (pe_bltn (v := .ty "str") (by rfl) B.str (by decide +kernel) rfl) pa_nil))))))) (pss_one (ps_ret (pe_and (pe_cmpR op_eq (pv 0) (pv 1) (nomark _)) (pe_one (pe_cmpR op_eq (pe_callB call_isi (by rfl) B.isinstance (by decide +kernel) (pa_cons (pv 0) (pa_cons (pe_bltn (v := .ty "str") (by rfl) B.str (by decide +kernel) rfl) pa_nil))) (pe_callB call_isi (by rfl) B.isinstance (by decide +kernel) (pa_cons (pv 1) (pa_cons (pe_bltn (v := .ty "str") (by rfl) B.str (by decide +kernel) rfl) pa_nil))) (nomark _)))))) pss_nil)
      (pss_one (ps_ret (pe_and (pe_callB call_isi (by rfl) B.isinstance (by decide +kernel) (pa_cons (pv 0) (pa_cons (pe_bltn (v := .ty "int") (by rfl) B.int (by decide +kernel) rfl) pa_nil))) (pe_and (pe_cmpR op_eq (pe_callB call_isi (by rfl) B.isinstance (by decide +kernel) (pa_cons (pv 0) (pa_cons (pe_bltn (v := .ty "bool") (by rfl) B.bool (by decide +kernel) rfl) pa_nil))) (pe_callB call_isi (by rfl) B.isinstance (by decide +kernel) (pa_cons (pv 1) (pa_cons (pe_bltn (v := .ty "bool") (by rfl) B.bool (by decide +kernel) rfl) pa_nil))) (nomark _)) (pe_one (pe_cmpR op_eq (pv 0) (pv 1) (nomark _))))))))), ?_⟩
    refine LS.body j q ?_
    walk_at "ob"
    refine ⟨by walk_at "ob_len", fun t1 ht1 => ?_⟩
    walk_at "ob"
    have g1 : Ex F (upd F t1 (.tup [.ty "tuple", .ty "list"])) := by walk_at "ob_ex"
    have fin : ∀ b, b = true → R (.bl b) (upd F t1 (.tup [.ty "tuple", .ty "list"])) := fun b e => by rw [e]; exact k _ g1
    cases d with
    | none =>
      cases dp_non hx
      refine cw_isi2 hd (b1 := false) (b2 := false) upd_same (dp_ex g1 hy) (by simp only [tyD]; decide +kernel) (by simp only [tyD]; decide +kernel) ?_
      walk_at "ob"
      refine ⟨(fun h => by cases h), fun _ => ?_⟩
      cases dp_non hy
      walk_at "ob"
      refine ⟨fun _ => ⟨fun _ => ?_, fun h => by cases h⟩, fun h => absurd h (by decide)⟩
      walk_at "ob"
      refine ⟨fun _ => ?_, fun h => absurd h (by decide)⟩
      walk_at "ob"
      refine cw_isi hd (n := "str") (b := false) (dp_ex g1 hx) (by simp only [tyD]; decide +kernel) ?_
      walk_at "ob"
      refine cw_isi hd (n := "str") (b := false) (dp_ex g1 hy) (by simp only [tyD]; decide +kernel) ?_
      walk_at "ob"
      exact fin _ (by decide)
    | str z =>
      cases dp_str hx
      refine cw_isi2 hd (b1 := false) (b2 := false) upd_same (dp_ex g1 hy) (by simp only [tyD]; decide +kernel) (by simp only [tyD]; decide +kernel) ?_
      walk_at "ob"
      refine ⟨(fun h => by cases h), fun _ => ?_⟩
      cases dp_str hy
      walk_at "ob"
      refine ⟨fun h => by simp at h, fun _ => ?_⟩
      walk_at "ob"
      refine cw_isi hd (n := "str") (b := true) (dp_ex g1 hy) (by simp only [tyD]; decide +kernel) ?_
      walk_at "ob"
      refine ⟨fun _ => ?_, (fun h => by cases h)⟩
      walk_at "ob"
      refine ⟨fun _ => ?_, fun h => by simp at h⟩
      walk_at "ob"
      refine cw_isi hd (n := "str") (b := true) (dp_ex g1 hx) (by simp only [tyD]; decide +kernel) ?_
      walk_at "ob"
      refine cw_isi hd (n := "str") (b := true) (dp_ex g1 hy) (by simp only [tyD]; decide +kernel) ?_
      walk_at "ob"
      exact fin _ (by decide)
    | bool b =>
      cases dp_bl hx
      refine cw_isi2 hd (b1 := false) (b2 := false) upd_same (dp_ex g1 hy) (by simp only [tyD]; decide +kernel) (by simp only [tyD]; decide +kernel) ?_
      walk_at "ob"
      refine ⟨(fun h => by cases h), fun _ => ?_⟩
      cases dp_bl hy
      walk_at "ob"
      refine ⟨fun h => by simp at h, fun _ => ?_⟩
      walk_at "ob"
      refine cw_isi hd (n := "str") (b := false) (dp_ex g1 hy) (by simp only [tyD]; decide +kernel) ?_
      walk_at "ob"
      refine ⟨(fun h => by cases h), fun _ => ?_⟩
      walk_at "ob"
      refine cw_isi hd (n := "int") (b := true) (dp_ex g1 hx) (by simp only [tyD]; decide +kernel) ?_
      walk_at "ob"
      refine ⟨fun _ => ?_, (fun h => by cases h)⟩
      walk_at "ob"
      refine cw_isi hd (n := "bool") (b := true) (dp_ex g1 hx) (by simp only [tyD]; decide +kernel) ?_
      walk_at "ob"
      refine cw_isi hd (n := "bool") (b := true) (dp_ex g1 hy) (by simp only [tyD]; decide +kernel) ?_
      walk_at "ob"
      refine ⟨fun _ => ?_, fun h => absurd h (by decide)⟩
      walk_at "ob"
      exact fin _ (by simp)
    | int i =>
      cases dp_int hx
      refine cw_isi2 hd (b1 := false) (b2 := false) upd_same (dp_ex g1 hy) (by simp only [tyD]; decide +kernel) (by simp only [tyD]; decide +kernel) ?_
      walk_at "ob"
      refine ⟨(fun h => by cases h), fun _ => ?_⟩
      cases dp_int hy
      walk_at "ob"
      refine ⟨fun h => by simp at h, fun _ => ?_⟩
      walk_at "ob"
      refine cw_isi hd (n := "str") (b := false) (dp_ex g1 hy) (by simp only [tyD]; decide +kernel) ?_
      walk_at "ob"
      refine ⟨(fun h => by cases h), fun _ => ?_⟩
      walk_at "ob"
      refine cw_isi hd (n := "int") (b := true) (dp_ex g1 hx) (by simp only [tyD]; decide +kernel) ?_
      walk_at "ob"
      refine ⟨fun _ => ?_, (fun h => by cases h)⟩
      walk_at "ob"
      refine cw_isi hd (n := "bool") (b := false) (dp_ex g1 hx) (by simp only [tyD]; decide +kernel) ?_
      walk_at "ob"
      refine cw_isi hd (n := "bool") (b := false) (dp_ex g1 hy) (by simp only [tyD]; decide +kernel) ?_
      walk_at "ob"
      refine ⟨fun _ => ?_, fun h => absurd h (by decide)⟩
      walk_at "ob"
      exact fin _ (by simp)
    | list ds =>
      have hz2 : ds.length ≤ 1000 ∧ ∃ n', n = n' + 1 ∧ ds.all (szD n') = true := by
        cases n with
        | zero => simp [szD] at hz
        | succ n' => simp only [szD, Bool.and_eq_true, decide_eq_true_eq] at hz; exact ⟨hz.1, n', rfl, hz.2⟩
      obtain ⟨hlen, n', rfl, hall⟩ := hz2
      refine cw_isi2 hd (b1 := false) (b2 := true) upd_same (dp_ex g1 hy) (by simp only [tyD]; decide +kernel) (by simp only [tyD]; decide +kernel) ?_
      walk_at "ob"
      refine ⟨fun _ => ?_, (fun h => by cases h)⟩
      walk_at "ob"
      refine ⟨by walk_at "ob_len", fun t2 ht2 => ?_⟩
      have g2 : Ex F (upd (upd F t1 (.tup [.ty "tuple", .ty "list"])) t2 (.tup [.ty "tuple", .ty "list"])) := by walk_at "ob_ex"
      walk_at "ob"
      refine cw_isi2 hd (b1 := false) (b2 := true) upd_same (dp_ex g2 hx) (by simp only [tyD]; decide +kernel) (by simp only [tyD]; decide +kernel) ?_
      walk_at "ob"
      refine ⟨(fun h => by cases h), fun _ => ?_⟩
      walk_at "ob"
      refine cw_isi hd (n := "list") (b := true) (dp_ex g2 hx) (by simp only [tyD]; decide +kernel) ?_
      walk_at "ob"
      refine cw_isi hd (n := "list") (b := true) (dp_ex g2 hy) (by simp only [tyD]; decide +kernel) ?_
      walk_at "ob"
      refine ⟨fun h => by simp at h, fun _ => ?_⟩
      obtain ⟨xa, xs, rfl, hxs, hxd⟩ := dp_lst hx
      obtain ⟨ya, ys, rfl, hys, hyd⟩ := dp_lst hy
      have lx : xs.length = ds.length := dps_len hxd
      have ly : ys.length = ds.length := dps_len hyd
      walk_at "ob"
      refine cw_lenS hd (ys := xs) (Or.inl (g2.sqL hxs)) ?_
      walk_at "ob"
      refine cw_lenS hd (ys := ys) (Or.inl (g2.sqL hys)) ?_
      rw [lx, ly]
      walk_at "ob"
      refine ⟨fun h => by simp at h, fun _ => ?_⟩
      walk_at "ob"
      refine ew_lcR hd ?_
      walk_at "ob"
      refine cw_lenS hd (ys := ys) (Or.inl (g2.sqL hys)) ?_
      rw [ly]
      walk_at "ob"
      refine ⟨(ds.length : Int), rfl, by omega, by omega, fun Dl hDl => ?_⟩
      refine ⟨fun i acc _ G => acc = [] ∧ Ex (upd (upd F t1 (.tup [.ty "tuple", .ty "list"])) t2 (.tup [.ty "tuple", .ty "list"])) G, ⟨rfl, .refl _⟩, ?_, ?_, ?_⟩
      · rintro i acc _ G hi hg ⟨rfl, g⟩
        exact Nat.zero_le _
      · rintro i acc _ G hi hg ⟨rfl, g⟩
        have hd' := hd.jd (D := Dl) (acc := [])
        have hil : i < ds.length := by omega
        obtain ⟨vx, ex1, dx⟩ := dps_get hxd (List.getElem?_eq_getElem hil)
        obtain ⟨vy, ey1, dy⟩ := dps_get hyd (List.getElem?_eq_getElem hil)
        have hgx := g2.trans g
        refine gw_name ⟨rfl, ?_⟩
        walk_at "ob"
        refine ew_call hd' ?_
        walk_at "ob"
        refine rw_ixD hd' (Or.inl (hgx.sqL hxs)) ex1 ?_
        walk_at "ob"
        refine rw_ixD hd' (Or.inl (hgx.sqL hys)) ey1 ?_
        walk_at "ob"
        refine ⟨vx, vy, ds[i], rfl, dp_ex hgx dx, dp_ex hgx dy, List.all_eq_true.mp hall _ (List.getElem_mem hil), fun G2 gG => ?_⟩
        walk_at "ob"
        exact ⟨(fun h => by cases h), fun _ => ⟨rfl, g.trans gG⟩⟩
      · rintro acc _ G hg ⟨rfl, g⟩
        walk_at "ob"
        refine ⟨by walk_at "ob_len", fun e1 he1 => ?_⟩
        refine rw_eqD hd (d := .list []) (e := .list []) (.lst (SqL.of (by walk_at "ob_at")) .nil) (.lst (SqL.of upd_same) .nil) (shaped_low (n := 1) rfl) (shaped_low (n := 1) rfl) ?_
        have he2 : G e1 = none := (Ex.out (F := G) (.refl _) hg).free he1
        exact k _ ((g2.trans g).trans (Ex.new (Ex.out (.refl _) hg) he1))
    | tuple ds =>
      have hz2 : ds.length ≤ 1000 ∧ ∃ n', n = n' + 1 ∧ ds.all (szD n') = true := by
        cases n with
        | zero => simp [szD] at hz
        | succ n' => simp only [szD, Bool.and_eq_true, decide_eq_true_eq] at hz; exact ⟨hz.1, n', rfl, hz.2⟩
      obtain ⟨hlen, n', rfl, hall⟩ := hz2
      refine cw_isi2 hd (b1 := true) (b2 := false) upd_same (dp_ex g1 hy) (by simp only [tyD]; decide +kernel) (by simp only [tyD]; decide +kernel) ?_
      walk_at "ob"
      refine ⟨fun _ => ?_, (fun h => by cases h)⟩
      walk_at "ob"
      refine ⟨by walk_at "ob_len", fun t2 ht2 => ?_⟩
      have g2 : Ex F (upd (upd F t1 (.tup [.ty "tuple", .ty "list"])) t2 (.tup [.ty "tuple", .ty "list"])) := by walk_at "ob_ex"
      walk_at "ob"
      refine cw_isi2 hd (b1 := true) (b2 := false) upd_same (dp_ex g2 hx) (by simp only [tyD]; decide +kernel) (by simp only [tyD]; decide +kernel) ?_
      walk_at "ob"
      refine ⟨(fun h => by cases h), fun _ => ?_⟩
      walk_at "ob"
      refine cw_isi hd (n := "list") (b := false) (dp_ex g2 hx) (by simp only [tyD]; decide +kernel) ?_
      walk_at "ob"
      refine cw_isi hd (n := "list") (b := false) (dp_ex g2 hy) (by simp only [tyD]; decide +kernel) ?_
      walk_at "ob"
      refine ⟨fun h => by simp at h, fun _ => ?_⟩
      obtain ⟨xa, xs, rfl, hxs, hxd⟩ := dp_tup hx
      obtain ⟨ya, ys, rfl, hys, hyd⟩ := dp_tup hy
      have lx : xs.length = ds.length := dps_len hxd
      have ly : ys.length = ds.length := dps_len hyd
      walk_at "ob"
      refine cw_lenS hd (ys := xs) (Or.inr (g2.sqT hxs)) ?_
      walk_at "ob"
      refine cw_lenS hd (ys := ys) (Or.inr (g2.sqT hys)) ?_
      rw [lx, ly]
      walk_at "ob"
      refine ⟨fun h => by simp at h, fun _ => ?_⟩
      walk_at "ob"
      refine ew_lcR hd ?_
      walk_at "ob"
      refine cw_lenS hd (ys := ys) (Or.inr (g2.sqT hys)) ?_
      rw [ly]
      walk_at "ob"
      refine ⟨(ds.length : Int), rfl, by omega, by omega, fun Dl hDl => ?_⟩
      refine ⟨fun i acc _ G => acc = [] ∧ Ex (upd (upd F t1 (.tup [.ty "tuple", .ty "list"])) t2 (.tup [.ty "tuple", .ty "list"])) G, ⟨rfl, .refl _⟩, ?_, ?_, ?_⟩
      · rintro i acc _ G hi hg ⟨rfl, g⟩
        exact Nat.zero_le _
      · rintro i acc _ G hi hg ⟨rfl, g⟩
        have hd' := hd.jd (D := Dl) (acc := [])
        have hil : i < ds.length := by omega
        obtain ⟨vx, ex1, dx⟩ := dps_get hxd (List.getElem?_eq_getElem hil)
        obtain ⟨vy, ey1, dy⟩ := dps_get hyd (List.getElem?_eq_getElem hil)
        have hgx := g2.trans g
        refine gw_name ⟨rfl, ?_⟩
        walk_at "ob"
        refine ew_call hd' ?_
        walk_at "ob"
        refine rw_ixD hd' (Or.inr (hgx.sqT hxs)) ex1 ?_
        walk_at "ob"
        refine rw_ixD hd' (Or.inr (hgx.sqT hys)) ey1 ?_
        walk_at "ob"
        refine ⟨vx, vy, ds[i], rfl, dp_ex hgx dx, dp_ex hgx dy, List.all_eq_true.mp hall _ (List.getElem_mem hil), fun G2 gG => ?_⟩
        walk_at "ob"
        exact ⟨(fun h => by cases h), fun _ => ⟨rfl, g.trans gG⟩⟩
      · rintro acc _ G hg ⟨rfl, g⟩
        walk_at "ob"
        refine ⟨by walk_at "ob_len", fun e1 he1 => ?_⟩
        refine rw_eqD hd (d := .list []) (e := .list []) (.lst (SqL.of (by walk_at "ob_at")) .nil) (.lst (SqL.of upd_same) .nil) (shaped_low (n := 1) rfl) (shaped_low (n := 1) rfl) ?_
        have he2 : G e1 = none := (Ex.out (F := G) (.refl _) hg).free he1
        exact k _ ((g2.trans g).trans (Ex.new (Ex.out (.refl _) hg) he1))
    | dict kv => cases hx
end
end Obr
namespace Obr
/-! ### what is there adds up (mathematics only) -/
/-- what machine k gives back at beat c -/
def pendM (c : Int) (ss : List Stp) (m : Mac) : Int := if m.over = c then (match ss[m.at_.toNat]? with | some st => st.back | none => 0) else 0
/-- what machine k gives back, whenever -/
def busyM (ss : List Stp) (m : Mac) : Int := if 0 ≤ m.over then (match ss[m.at_.toNat]? with | some st => st.back | none => 0) else 0
def sumM (f : List Stp → Mac → Int) : List (List Stp) → List Mac → Int
  | ss :: l, m :: ms => f ss m + sumM f l ms
  | _, _ => 0
def pend (w : Wld) (c : Int) (t : LSt) : Int := sumM (pendM c) w.ms t.ms
def busy (w : Wld) (t : LSt) : Int := sumM busyM w.ms t.ms
/-- what all steps that are over at the beat give back -/
structure Ends27 (w : Wld) (t x : LSt) : Prop where
  ok : LOk w x
  beat : x.beat = t.beat
  sum : x.level + pend w t.beat x = t.level + pend w t.beat t
  all : x.level + busy w x = t.level + busy w t
  later : ∀ c, t.beat < c → pend w c x = pend w c t
/-- the law's own going: (there, at, what ends when) -/
structure G27 where
  there : Int
  at_ : List Int
  eo : List (Int × Int)
def esum (E : List (Int × Int)) (c : Int) : Int := ((E.filter fun x => decide (x.1 = c)).map Prod.snd).sum
def atM (m : Mac) : Int := if 0 ≤ m.over then m.at_ + 1 else m.at_
/-- one that begins at the beat -/
inductive Go27 (w : Wld) (b : Int) : G27 → List Int → G27 → Prop
  | nil {g} : Go27 w b g [] g
  | cons {g : G27} {k : Nat} {ss : List Stp} {a : Int} {st : Stp} {l : List Int} {g' : G27} : w.ms[k]? = some ss → g.at_[k]? = some a → 0 ≤ a → ss[a.toNat]? = some st →
      Go27 w b ⟨g.there - st.draw, g.at_.set k (a + 1), g.eo ++ [(b + st.long, st.back)]⟩ l g' → Go27 w b g ((k : Int) :: l) g'
/-- the law's going and the machines, in the midst of the draws at beat b -/
structure R27 (w : Wld) (x : LSt) (g : G27) : Prop where
  there : g.there = x.level
  at_ : g.at_ = x.ms.map atM
  eo : ∀ c, x.beat < c → esum g.eo c = pend w c x
/-- the law's going and the machines, ahead of a beat -/
structure J27 (w : Wld) (t : LSt) (g : G27) : Prop where
  there : g.there = t.level
  at_ : g.at_ = t.ms.map atM
  eo : ∀ c, t.beat ≤ c → esum g.eo c = pend w c t
/-! the first beat -/
end Obr
namespace Obr
open PySem L2 PyProof.Rows
/-! ### what is alike goes on alike (mathematics only) -/
def MR (b b' : Int) (m m' : Mac) : Prop := m'.at_ = m.at_ ∧ ((m.over < 0 ∧ m'.over < 0) ∨ (0 ≤ m.over ∧ 0 ≤ m'.over ∧ m'.over - b' = m.over - b))
def LastR (a b : Int) : Prop := (a < 0 ∧ b < 0) ∨ a = b
def Wts (ss : List Stp) (m : Mac) : Prop := m.over < 0 ∧ m.at_ < ss.length
/-- those that wait stand in the same turn -/
def OrdR (w : Wld) (t t' : LSt) : Prop := ∀ (k j : Nat) (mk mj mk' mj' : Mac) (sk sj : List Stp), t.ms[k]? = some mk → t.ms[j]? = some mj → t'.ms[k]? = some mk' → t'.ms[j]? = some mj' → w.ms[k]? = some sk → w.ms[j]? = some sj → Wts sk mk → Wts sj mj → (mk.since < mj.since ↔ mk'.since < mj'.since)
structure Sam (w : Wld) (r : Rgt) (t t' : LSt) : Prop where
  lv : t'.level = t.level
  ms : ∀ (k : Nat) (m m' : Mac), t.ms[k]? = some m → t'.ms[k]? = some m' → MR t.beat t'.beat m m'
  la : r = .turns → LastR t.last t'.last
  wt : r = .wait → OrdR w t t'
structure Snc (t : LSt) : Prop where
  s : ∀ (k : Nat) (m : Mac), t.ms[k]? = some m → m.since < t.beat
/-- all, behind what ends and the refill -/
abbrev fe (w : Wld) (t : LSt) : LSt := lFill w (lEnds w true t w.ms.length)
/-- a claim, of the other state -/
def phc (t' : LSt) (c : Clm) : Clm := ⟨c.k, c.draw, match t'.ms[c.k.toNat]? with | some m => m.since | none => 0⟩
/-- two draws go on alike -/
structure DR (b b' : Int) (x y : LSt × List Int × Bool) : Prop where
  lv : y.1.level = x.1.level
  bg : y.2.1 = x.2.1
  op : y.2.2 = x.2.2
  bt : x.1.beat = b
  bt' : y.1.beat = b'
  len : y.1.ms.length = x.1.ms.length
  ms : ∀ (k : Nat) (m m' : Mac), x.1.ms[k]? = some m → y.1.ms[k]? = some m' → MR b b' m m'
/-! from the pictures -/
/-! tallies come round -/
end Obr
namespace Obr
open PySem L2 PyProof.Rows
/-! ### rounds by the law's own look; machines that are over once, or begin anew (mathematics only) -/
theorem endM_anew {b : Int} {ss : List Stp} {m : Mac} (h : MacOk ss m) (hb : 0 ≤ b) :
    (m.over = b ∧ m.at_ < ss.length ∧ endM true b ss m = { m with at_ := if m.at_ + 1 = ss.length then 0 else m.at_ + 1, over := -1, since := b, done := m.done + 1, ends := if m.at_ + 1 = ss.length then some b else m.ends }) ∨ (m.over ≠ b ∧ endM true b ss m = m) := by
  by_cases e : m.over = b
  · have hl := h.o (by omega)
    have h0 := h.a0
    refine Or.inl ⟨e, hl, ?_⟩
    have hst : ss[m.at_.toNat]? = some ss[m.at_.toNat] := List.getElem?_eq_getElem (by omega)
    unfold endM
    rw [if_pos e]
    simp only [hst]
    by_cases c : m.at_ + 1 = ss.length
    · rw [if_pos c, if_pos c, if_pos c]; rfl
    · rw [if_neg c, if_neg c, if_neg c]
  · refine Or.inr ⟨e, ?_⟩
    unfold endM
    rw [if_neg e]
structure RMac (b : Int) (ss : List Stp) (m : Mac) : Prop where
  ov : 0 ≤ m.over → b ≤ m.over
  lt : ss ≠ [] → m.at_ < ss.length
  dn : ∃ q : Int, 0 ≤ q ∧ m.done = q * ss.length + m.at_
theorem rmac_step {cap b : Int} {ss : List Stp} {m m' : Mac} {began : Prop} (h : MacOk ss m) (hb : 0 ≤ b) (hr : RMac b ss m) (hs : ∀ st ∈ ss, StpOk cap st) (k : MBeat true b ss m m' began) : RMac (b + 1) ss m' := by
  have hn : (0 ≤ (endM true b ss m).over → b + 1 ≤ (endM true b ss m).over) ∧ (ss ≠ [] → (endM true b ss m).at_ < ss.length) ∧ ∃ q : Int, 0 ≤ q ∧ (endM true b ss m).done = q * ss.length + (endM true b ss m).at_ := by
    have h0 := h.a0
    rcases endM_anew h hb with ⟨e1, e2, e3⟩ | ⟨e1, e3⟩
    · rw [e3]
      obtain ⟨q, q0, hq⟩ := hr.dn
      refine ⟨fun z => by simp only at z; omega, fun z => ?_, ?_⟩
      · show (if m.at_ + 1 = ss.length then (0 : Int) else m.at_ + 1) < _
        split <;> omega
      · by_cases c : m.at_ + 1 = ss.length
        · refine ⟨q + 1, by omega, ?_⟩
          show m.done + 1 = (q + 1) * ss.length + (if m.at_ + 1 = ss.length then (0 : Int) else m.at_ + 1)
          rw [if_pos c, hq, Int.add_mul]
          omega
        · refine ⟨q, q0, ?_⟩
          show m.done + 1 = q * ss.length + (if m.at_ + 1 = ss.length then (0 : Int) else m.at_ + 1)
          rw [if_neg c, hq]
          omega
    · rw [e3]
      exact ⟨fun z => by have := hr.ov z; omega, hr.lt, hr.dn⟩
  obtain ⟨n1, n2, n3⟩ := hn
  by_cases c : (endM true b ss m).over < 0 ∧ (endM true b ss m).at_ < ss.length
  · obtain ⟨st, hst, hd⟩ := k.yes c
    have := (hs st (List.mem_of_getElem? hst)).l0
    rcases hd with ⟨_, rfl⟩ | ⟨_, rfl⟩
    · exact ⟨fun _ => by show b + 1 ≤ b + st.long; omega, n2, n3⟩
    · exact ⟨n1, n2, n3⟩
  · rw [(k.no c).1]
    exact ⟨n1, n2, n3⟩
def RInv (w : Wld) (t : LSt) : Prop := ∀ (k : Nat) (m : Mac) (ss : List Stp), t.ms[k]? = some m → w.ms[k]? = some ss → RMac t.beat ss m
theorem begun_get {w : Wld} {k : Nat} {m : Mac} {ss : List Stp} (h : (lBegun w).ms[k]? = some m) (hs : w.ms[k]? = some ss) : m = ⟨0, -1, 0, 0, 0, if ss.isEmpty then some 0 else none⟩ := by
  unfold lBegun at h
  rw [List.getElem?_map, hs] at h
  exact (Option.some.inj h).symm
theorem RPath.rinv {w : Wld} (hw : WldOk w) {r : Rgt} {p : Bool} : ∀ {n t}, RPath w r p n t → RInv w t
  | _, _, .zero => fun k m ss h1 h2 => by
    rw [begun_get h1 h2]
    refine ⟨fun z => absurd z (by show ¬ (0 : Int) ≤ -1; decide), fun z => ?_, 0, by omega, by show (0 : Int) = 0 * _ + 0; omega⟩
    show (0 : Int) < ss.length
    have := List.length_pos_iff.mpr z
    omega
  | _, _, .succ h b => fun k m' ss h1 h2 => by
    have hi := h.rinv hw
    have ho := h.ok
    obtain ⟨hl, hbt, hst⟩ := beat_ms ho b
    obtain ⟨m, hm⟩ := ms_both' ho.len h2
    obtain ⟨m2, g1, g2⟩ := hst k m ss hm h2
    rw [h1] at g1
    cases g1
    rw [hbt]
    exact rmac_step (ho.m k m ss hm h2) ho.b (hi k m ss hm h2) (fun st hs => hw.st ss (List.mem_of_getElem? h2) st hs) g2
/-! what the law looks at -/
def wtsI (w : Wld) (t : LSt) (k : Nat) : List Int := match t.ms[k]?, w.ms[k]? with
  | some m, some ss => if m.over < t.beat ∧ ss ≠ [] then [m.since] else []
  | _, _ => []
def wts (w : Wld) (t : LSt) : Nat → List Int
  | 0 => []
  | n + 1 => wts w t n ++ wtsI w t n
theorem wts_claims {w : Wld} {t : LSt} (o : LOk w t) (hr : RInv w t) : ∀ n : Nat, (lClaims w t n).map Clm.since = wts w t n
  | 0 => rfl
  | n + 1 => by
    rw [lClaims, wts, List.map_append, wts_claims o hr n]
    congr 1
    unfold lClaim wtsI
    cases hm : t.ms[n]? with
    | none => rfl
    | some m =>
      cases hs : w.ms[n]? with
      | none => rfl
      | some ss =>
        simp only []
        have h1 := hr n m ss hm hs
        have h2 := o.m n m ss hm hs
        have hb := o.b
        by_cases c : m.over < 0 ∧ m.at_ < ss.length
        · have hlt : m.at_.toNat < ss.length := by have := h2.a0; have := c.2; omega
          have hst : ss[m.at_.toNat]? = some ss[m.at_.toNat] := List.getElem?_eq_getElem hlt
          have hne : ss ≠ [] := fun z => by have h0 := h2.a0; have h1 := c.2; rw [z] at h1; simp at h1; omega
          rw [if_pos c, hst, if_pos ⟨by omega, hne⟩]
          rfl
        · rw [if_neg c, if_neg]
          · rfl
          · rintro ⟨z1, z2⟩
            refine c ⟨?_, h1.lt z2⟩
            by_cases q : 0 ≤ m.over
            · have := h1.ov q; omega
            · omega
def leftI (m : Mac) (b : Int) : Int := if m.over - b > -1 then m.over - b else -1
def oldI (w : Wld) (t : LSt) (ss : List Stp) (m : Mac) : Int := if leftI m t.beat < 0 ∧ ss ≠ [] then (((wts w t w.ms.length).filter fun x => decide (x < m.since)).length : Nat) else 0
def rowN (w : Wld) (t : LSt) (x : Mac × List Stp) : NestedKey := .tup [.num x.1.at_, .num (leftI x.1 t.beat), .num (oldI w t x.2 x.1)]
def lawN (w : Wld) (t : LSt) : NestedKey := .tup [.num t.level, .num t.last, .tup ((t.ms.zip w.ms).map (rowN w t))]
theorem left_iff {b : Int} {ss : List Stp} {m : Mac} (hb : 0 ≤ b) (h : RMac b ss m) : (leftI m b < 0 ↔ m.over < 0) ∧ (0 ≤ m.over → leftI m b = m.over - b) := by
  unfold leftI
  have := h.ov
  refine ⟨⟨fun z => ?_, fun z => ?_⟩, fun z => ?_⟩
  · split at z
    · omega
    · by_cases q : 0 ≤ m.over
      · have := this q; omega
      · omega
  · rw [if_neg (by omega)]; decide
  · rw [if_pos (by have := this z; omega)]
theorem filter_map_len {α : Type} {f : α → Int} {x : Int} : ∀ l : List α, (l.filter fun c => decide (f c < x)).length = ((l.map f).filter fun y => decide (y < x)).length
  | [] => rfl
  | a :: l => by
    rw [List.map_cons, List.filter_cons, List.filter_cons]
    by_cases c : f a < x
    · rw [if_pos (decide_eq_true c), if_pos (decide_eq_true c), List.length_cons, List.length_cons, filter_map_len l]
    · rw [if_neg (by simp [c]), if_neg (by simp [c]), filter_map_len l]
/-! after, by the path -/
/-! over once, or anew: as long as none is at its end -/
def Going (w : Wld) (t : LSt) : Prop := ∀ (k : Nat) (m : Mac) (ss : List Stp), t.ms[k]? = some m → w.ms[k]? = some ss → m.at_ < ss.length
end Obr
namespace Obr
open PySem L2 PyProof.Rows
/-! ### rows of beats, as laws read them -/
theorem eqv_low {n : Nat} {d : PyData} (h : lowD n d = true) : PyData.eqv d d = true := SeqAt.eqv_refl d (lowD_ok n d h).1
def str4 : List V := [.str "rank", .str "turns", .str "wait", .str "least"]
def eoD (x : Int × Int) : PyData := .tuple [.int x.1, .int x.2]
end Obr
namespace Obr
open PySem L2 PyProof.Rows
/-! ### what flows in a round (mathematics only) -/
theorem Round.uniq {w : Wld} {r : Rgt} {p : Bool} {a b c d : Nat} (h : Round w r p a b) (k : Round w r p c d) : a = c ∧ b = d := by
  obtain ⟨t1, t2, p1, p2, e⟩ := h.same
  obtain ⟨u1, u2, q1, q2, e'⟩ := k.same
  have h1 := h.o
  have h2 := h.lt
  have k1 := k.o
  have k2 := k.lt
  have bd : b = d := by
    rcases Nat.lt_trichotomy b d with q | q | q
    · exact absurd e (k.first a b h1 h2 q t1 t2 p1 p2)
    · exact q
    · exact absurd e' (h.first c d k1 k2 q u1 u2 q1 q2)
  subst bd
  obtain rfl := p2.uniq q2
  refine ⟨?_, rfl⟩
  rcases Nat.lt_trichotomy a c with q | q | q
  · exact absurd (e.trans e'.symm) (h.first a c h1 q k2 t1 u1 p1 q1)
  · exact q
  · exact absurd (e'.trans e.symm) (h.first c a k1 q h2 u1 t1 q1 p1)
/-- by how much the tallies are more at the end of the round -/
theorem tal_gain {w : Wld} {r : Rgt} {p : Bool} {n1 n2 : Nat} {TS : List (List Int)} (hT : TalOk w r p n2 TS) (hlt : n1 < n2) {t1 t2 : LSt} (h1 : RPath w r p n1 t1) (h2 : RPath w r p n2 t2) : TS[n1]? = some (t1.ms.map Mac.done) ∧ TS[n2]? = some (t2.ms.map Mac.done) := ⟨hT.2 n1 t1 (by omega) h1, hT.2 n2 t2 (Nat.le_refl _) h2⟩
theorem zsub_get {a b : LSt} {w : Wld} (ha : a.ms.length = w.ms.length) (hb : b.ms.length = w.ms.length) {k : Nat} {m m' : Mac} (h1 : a.ms[k]? = some m) (h2 : b.ms[k]? = some m') : (zsub (a.ms.map Mac.done) (b.ms.map Mac.done))[k]? = some (m'.done - m.done) := by
  unfold zsub
  rw [List.getElem?_zipWith, List.getElem?_map, List.getElem?_map, h1, h2]
  rfl
theorem zsub_len {a b : LSt} {w : Wld} (ha : a.ms.length = w.ms.length) (hb : b.ms.length = w.ms.length) : (zsub (a.ms.map Mac.done) (b.ms.map Mac.done)).length = w.ms.length := by
  unfold zsub
  rw [List.length_zipWith, List.length_map, List.length_map, ha, hb, Nat.min_self]
/-! what a machine's steps use up -/
def snet (st : Stp) : Int := st.draw - st.back
def lostS (ss : List Stp) : Int := (ss.map snet).sum
def netA (ss : List Stp) (i : Nat) : Int := match ss[i]? with
  | some st => snet st
  | none => 0
def netN (ss : List Stp) : Nat → Int
  | 0 => 0
  | d + 1 => netN ss d + netA ss (d % ss.length)
def drawB (ss : List Stp) (m : Mac) : Int := if 0 ≤ m.over then (match ss[m.at_.toNat]? with | some st => st.draw | none => 0) else 0
def flowM (ss : List Stp) (m : Mac) : Int := netN ss m.done.toNat + drawB ss m
def flow (w : Wld) (t : LSt) : Int := sumM flowM w.ms t.ms
end Obr
namespace Obr
open PySem L2 PyProof.Rows
/-! ### a round's counts; draws all alike; a machine that draws nothing (mathematics only) -/
def usedK (w : Wld) (cs : List Int) (k : Nat) : Int := match w.ms[k]?, cs[k]? with
  | some ss, some c => if ss ≠ [] then c / (ss.length : Int) * lostS ss else 0
  | _, _ => 0
def usedTo (w : Wld) (cs : List Int) : Nat → Int
  | 0 => 0
  | n + 1 => usedTo w cs n + usedK w cs n
structure Ends22 (w : Wld) (r : Rgt) (p : Bool) (n1 n2 : Nat) (t1 t2 : LSt) : Prop where
  R : Round w r p n1 n2
  h1 : RPath w r p n1 t1
  h2 : RPath w r p n2 t2
/-! draws all alike -/
def AlkD (w : Wld) (d : Int) : Prop := ∀ ss ∈ w.ms, ∀ st ∈ ss, st.draw = d
/-! a machine that draws nothing -/
def fr (w : Wld) : Wld := ⟨w.cap, w.start, w.refill, w.ms ++ [[⟨0, 3, 0⟩]]⟩
structure FrM (n : Nat) (m : Mac) : Prop where
  at_ : m.at_ = 0
  z : n = 0 → m.over = -1 ∧ m.done = 0
  s : 1 ≤ n → m.over = 3 * (((n : Int) - 1) / 3) + 3 ∧ m.done = ((n : Int) - 1) / 3
end Obr
namespace Obr
open PySem L2 PyProof.Rows
local macro_rules | `(tactic| walk_at "ob_at") => `(tactic| first
  | assumption
  | exact upd_same
  | (refine Eq.trans (upd_ne ?obn) ?obr; (case obn => walk_at "ob_ne"); (case obr => walk_at "ob_at")))
local macro_rules | `(tactic| walk_at "ob_ne") => `(tactic| first
  | assumption
  | (refine Ne.symm ?obs; (case obs => assumption))
  | (refine' ne_of_none (H := ?_) ?obe ?obh; (case obh => assumption); (case obe => walk_at "ob_at"))
  | (refine Ne.symm ?obs; (case obs => (refine' ne_of_none (H := ?_) ?obe ?obh; (case obh => assumption); (case obe => walk_at "ob_at")))))
local macro_rules | `(tactic| walk_at "ob_fr") => `(tactic| first
  | assumption
  | (refine Eq.trans (upd_ne ?obn) ?obr; (case obn => walk_at "ob_ne"); (case obr => walk_at "ob_fr"))
  | (refine Ex.free (G := ?_) (by assumption) ?obh; (case obh => walk_at "ob_fr")))
local macro_rules | `(tactic| walk_at "ob_ex") => `(tactic| first
  | assumption
  | exact Ex.refl _
  | (refine Ex.out ?obg ?obh; (case obh => assumption); (case obg => walk_at "ob_ex"))
  | (refine Ex.new ?obg ?obh; (case obh => assumption); (case obg => walk_at "ob_ex"))
  | (refine Ex.new ?obg ?obh; (case obh => walk_at "ob_fr"); (case obg => walk_at "ob_ex")))
local macro_rules | `(tactic| walk_at "ob_sq") => `(tactic| first
  | assumption
  | (refine SqL.of ?oba; (case oba => walk_at "ob_at"))
  | (refine Ex.sqT (F := ?_) ?obg ?obh; (case obh => assumption); (case obg => walk_at "ob_ex"))
  | (refine Ex.sqL (F := ?_) ?obg ?obh; (case obh => assumption); (case obg => walk_at "ob_ex"))
  | (refine SqT.of ?oba; (case oba => walk_at "ob_at")))
local macro_rules | `(tactic| walk_at "ob_side") => `(tactic| first | exact rfl | assumption | decide | omega | exact ⟨by decide, by decide, by decide⟩ | exact Or.inr ⟨by decide, by decide⟩ | exact Or.inl ⟨by decide, by decide⟩ | exact wide_div (b := 60) (by first | decide | omega) (by first | decide | omega) (by decide) (by decide))
local macro_rules | `(tactic| walk_at "ob1") => `(tactic| first
  | with_reducible refine sw_seq ?_
  | with_reducible refine sw_asg ?_
  | with_reducible refine sw_ret ?_
  | with_reducible refine sw_par ?_
  | with_reducible refine ⟨_, _, rfl, ?_⟩
  | with_reducible refine sw_drop ?_
  | with_reducible refine sw_if ?_
  | with_reducible refine sw_next ?_
  | with_reducible refine gw_name ?_
  | with_reducible refine gw_subL (by assumption) ?_
  | with_reducible refine gsw_cons ?_
  | with_reducible refine gsw_nil ?_
  | with_reducible refine ew_c ?_
  | ((with_reducible refine' ew_var (v := ?_) ?obv ?_); (case obv => exact rfl))
  | ((with_reducible refine ew_next (by assumption) ?obv ?_); (case obv => exact rfl))
  | ((with_reducible refine ew_world (by assumption) ?obv ?_); (case obv => exact rfl))
  | ((with_reducible refine ew_rule (by assumption) ?obv ?_); (case obv => exact rfl))
  | with_reducible refine ew_op ?_
  | with_reducible refine ew_un ?_
  | with_reducible refine ew_dget (by assumption) ?_
  | with_reducible refine uw_I ?_
  | with_reducible refine ppw_nil ?_
  | with_reducible refine ppw_cons ?_
  | with_reducible refine sw_dput (by assumption) ?_
  | with_reducible refine ew_cb ?_
  | with_reducible refine ew_if ?_
  | with_reducible refine ew_slL (by assumption) ?_
  | with_reducible refine ow_some ?_
  | with_reducible refine ow_none ?_
  | with_reducible refine aw_nil ?_
  | with_reducible refine aw_cons ?_
  | with_reducible refine rw_I0 ?_
  | ((with_reducible refine rw_I ?obc ?_); (case obc => walk_at "ob_side"))
  | with_reducible refine rw_isN ?_
  | with_reducible refine rw_notN ?_
  | ((with_reducible refine rw_eq ?obc ?_); (case obc => exact rfl))
  | ((with_reducible refine rw_ne ?obc ?_); (case obc => exact rfl))
  | with_reducible refine cw_max2 ?_
  | with_reducible refine cw_min2 ?_
  | with_reducible refine tw_test ?_
  | with_reducible refine tw_B ?_
  | with_reducible refine tw_not ?_
  | with_reducible refine tw_truB ?_
  | with_reducible refine tw_and ?_
  | with_reducible refine tw_or ?_
  | with_reducible refine ew_and ?_
  | (refine' Exists.intro _ (And.intro (show V.bl _ = V.bl _ from rfl) ?_))
  | (refine' Exists.intro _ (And.intro (show V.int _ = V.int _ from rfl) ?_))
  | ((with_reducible refine' rw_ixL (v := ?_) (xs := ?_) (by assumption) ?obl ?oba ?_); (case obl => walk_at "ob_sq"); (case oba => first | exact rfl | exact at_zero))
  | ((with_reducible refine' rw_ixT (v := ?_) (xs := ?_) (by assumption) ?obl ?oba ?_); (case obl => walk_at "ob_sq"); (case oba => first | exact rfl | exact at_zero))
  | ((with_reducible refine' ew_lst (by assumption) ?_))
  | ((with_reducible refine' ew_tup (by assumption) ?_)))
local macro_rules | `(tactic| walk_at "ob_len") => `(tactic| first | exact Nat.le_of_ble_eq_true rfl | (simp; done) | omega)
local macro_rules | `(tactic| walk_at "ob") => `(tactic| repeat walk_at "ob1")

/-! ### period -/
def perD (n1 n2 : Nat) (t1 t2 : LSt) : PyData := .tuple [.int n1, .int ((n2 : Int) - n1), .tuple ((zsub (t1.ms.map Mac.done) (t2.ms.map Mac.done)).map PyData.int)]
def aPeriodP (K : PySem.W.Frag) : List V → Hp → VK → Prop := fun vs F R => ∃ (wv rv : V) (w : Wld) (r : Rgt) (p : Bool), vs = [wv, rv] ∧ Dp K F wv (wldD w) ∧ Dp K F rv (rulD r p) ∧ WldOk w ∧ (∃ n1 n2, Round w r p n1 n2) ∧
  ∀ (q : Addr) (F' : Hp) (n1 n2 : Nat) (t1 t2 : LSt), Ends22 w r p n1 n2 t1 t2 → Ex F F' → Dp K F' (.ref q) (perD n1 n2 t1 t2) → R (.ref q) F'
section
variable {P : Program} {w : World} {K : PySem.W.Frag} {mg : Str → Option Value} {base : Heap} {C M : Addr}

abbrev s_period : Stmt := top 40
def N_period : List Str := ["world", "rule", "run", "first", "tallies"]
theorem sc_period : FnScope N_period ["world", "rule"] (defScope s_period) := ⟨rfl, rfl, rfl, by decide +kernel, rfl, by decide +kernel, by decide +kernel⟩
theorem ok_period {f : Addr} {fd : FuncData} {f1 f3 f4 : Addr} {fd1 fd3 fd4 : FuncData} (Fn : Fun K "period" "period" s_period f fd) (B : Blt mg) (Cchecked_run : Cal K mg "checked_run" f1 fd1 ["world", "rule", "anew"]) (Gchecked_run : FnOk P w K mg base CX0 7 f1 fd1 ["world", "rule", "anew"] (LS (aChecked K C M))) (Ccome_round : Cal K mg "come_round" f3 fd3 ["run"]) (Gcome_round : FnOk P w K mg base CX0 6 f3 fd3 ["run"] (LS (aRound K C M))) (Cgained : Cal K mg "gained" f4 fd4 ["early", "late"]) (Ggained : FnOk P w K mg base CX0 1 f4 fd4 ["early", "late"] (LS (aGained K))) : FnOk P w K mg base CX0 8 f fd ["world", "rule"] (LS (aPeriodP K)) := by
  refine Fn.ok sc_period (fun vs H Q E h => ?_) (fun cdv A outer s H vs Q E hr h => ?_)
  · obtain ⟨J, F, R, hd, j, h, _⟩ := h
    obtain ⟨wv, rv, w, r, p, rfl, _⟩ := h
    rfl
  · have nd := sc_period.nd
    obtain ⟨J, F, R, hd, j, h, q⟩ := h
    obtain ⟨wv, rv, wd, r, p, rfl, dw, dr, hw, hex, k⟩ := h
    refine ⟨_, (pss_cons (ps_set (i := 2) nd rfl (Or.inl rfl) (pe_call Gchecked_run (by exact hr.mono (by decide)) (by rfl) Cchecked_run.g Cchecked_run.k Cchecked_run.a .nil pass0 (pa_cons (pv 0) (pa_cons (pv 1) (pa_cons pe_bl pa_nil)))))
      (pss_cons (ps_asg (pe_call Gcome_round (by exact hr.mono (by decide)) (by rfl) Ccome_round.g Ccome_round.k Ccome_round.a .nil pass0 (pa_cons (pv 2) pa_nil)) (pg_tup rfl (pgs_cons (pg_name (i := 3) nd rfl (Or.inl rfl)) (pgs_cons (pg_name (i := 4) nd rfl (Or.inl rfl)) pgs_nil))))
      (pss_one (ps_ret (pe_tup (pa_cons (pv 3) (pa_cons (pe_op op_sub (pe_op op_sub (pe_callB call_len_seq (by rfl) B.len (by decide +kernel) (pa_cons (pv 4) pa_nil)) pe_int) (pv 3)) (pa_cons (pe_callTy call_tuple_of (by rfl) B.tuple (by decide +kernel) (pa_cons (pe_call Ggained (by exact hr.mono (by decide)) (by rfl) Cgained.g Cgained.k Cgained.a .nil pass0 (pa_cons (pe_ix ix_list (pv 4) (pv 3) (fun _ _ => rfl)) (pa_cons (pe_ix ix_list (pv 4) (pe_un un_neg pe_int) (fun _ _ => rfl)) pa_nil))) pa_nil)) pa_nil)))))))), ?_⟩
    refine LS.body j q ?_
    refine sw_seq (sw_asg (ew_call hd ?_))
    walk_at "ob"
    refine ⟨wv, rv, wd, r, p, true, rfl, dw, dr, hw, fun F1 F0 A eC eM gF hX0 => gw_name ?_⟩
    subst eC eM
    refine sw_seq (sw_asg (ew_call hd ?_))
    walk_at "ob"
    refine ⟨F0, A, wd, r, p, rfl, rfl, rfl, hX0, hw, hex, fun q F2 n1 n2 TS hR hT g2 dq => ?_⟩
    have gF2 : Ex F F2 := gF.trans g2
    obtain ⟨qa, qxs, eq, lq, dqs⟩ := dp_tup dq
    cases eq
    obtain ⟨u1, u2, rfl, f1, f2⟩ := dps2 dqs
    cases dp_int f1
    obtain ⟨ta, tvs, rfl, lt, dts⟩ := dp_lst f2
    have htl : tvs.length = n2 + 1 := by have := dps_len dts; rw [List.length_map, hT.1] at this; exact this
    have h1 := hR.o
    have h2 := hR.lt
    have h3 := hR.most
    obtain ⟨t1, t2, p1, p2, pe⟩ := hR.same
    have tget : ∀ (i : Nat) (ti : LSt), i ≤ n2 → RPath wd r p i ti → ∃ tv : Addr, tvs[i]? = some (.ref tv) ∧ SqT K F2 tv ((ti.ms.map Mac.done).map V.int) := fun i ti hi pi => by
      have e := hT.2 i ti hi pi
      obtain ⟨v, hv, dv⟩ := dps_get dts (d := talD (ti.ms.map Mac.done)) (by rw [List.getElem?_map, e]; rfl)
      obtain ⟨b, bs, rfl, lb, dbs⟩ := dp_tup dv
      rw [dps_ints_iff dbs] at lb
      exact ⟨b, hv, lb⟩
    refine gw_tup hd ⟨q, _, rfl, lq, rfl, gsw_cons (gw_name (gsw_cons (gw_name (gsw_nil ?_))))⟩
    obtain ⟨tv1, a3, a4⟩ := tget n1 t1 (by omega) p1
    obtain ⟨tv2, b3, b4⟩ := tget n2 t2 (Nat.le_refl _) p2
    have hlast : atI tvs (-1) = some (V.ref tv2) := by
      have : tvs = tvs.take n2 ++ [V.ref tv2] := by
        have e := List.take_succ (l := tvs) (i := n2)
        rw [b3, List.take_of_length_le (by omega)] at e
        exact e
      rw [this]
      exact L2.atI_last _ _
    have m5 := hw.m
    have o1 := p1.ok.len
    have o2 := p2.ok.len
    refine sw_ret (ew_tup hd (aw_cons ?_))
    walk_at "ob"
    refine cw_lenS hd (Or.inl lt) ?_
    walk_at "ob"
    refine ew_call hd (aw_cons (ew_op ?_))
    walk_at "ob"
    refine rw_ixL hd lt (atI_nat a3) ?_
    refine aw_cons (ew_op ?_)
    walk_at "ob"
    refine rw_ixL hd lt hlast ?_
    refine aw_nil ⟨tv1, tv2, _, _, rfl, a4, b4, by rw [List.length_map, List.length_map, o1, o2], by rw [List.length_map, o1]; omega, fun qc F3 g3 hqc => ?_⟩
    refine aw_nil (cw_tuple hd (SqL.of hqc) fun pt hpt => aw_nil ⟨by walk_at "ob_len", fun pr hpr => ?_⟩)
    have gr : Ex F3 (upd (upd F3 pt (.tup ((zsub (t1.ms.map Mac.done) (t2.ms.map Mac.done)).map V.int))) pr (.tup [.int n1, .int ((tvs.length : Int) - 1 - n1), .ref pt])) := Ex.new (Ex.new (.refl _) hpt) hpr
    refine k pr _ n1 n2 t1 t2 ⟨hR, p1, p2⟩ ((gF2.trans g3).trans gr) ?_
    have el : (tvs.length : Int) - 1 - n1 = (n2 : Int) - n1 := by omega
    rw [el]
    exact .tup (SqT.of upd_same) (.cons (.int _) (.cons (.int _) (.cons (.tup ((Ex.new (.refl _) hpr).sqT (SqT.of upd_same)) dps_ints) .nil)))
end
end Obr
namespace Obr
open PySem L2 PyProof.Rows
/-! ### the law's own state (k04) tells as much as the program's picture -/
theorem pic_of {w : Wld} {r : Rgt} {t t' : LSt} (o : LOk w t) (o' : LOk w t') (hr : RInv w t) (hr' : RInv w t') (h1 : t.level = t'.level) (h2 : r = .turns → t.last = t'.last)
    (row : ∀ (k : Nat) (m m' : Mac) (ss : List Stp), t.ms[k]? = some m → t'.ms[k]? = some m' → w.ms[k]? = some ss → m.at_ = m'.at_ ∧ leftI m t.beat = leftI m' t'.beat ∧ (r = .wait → oldI w t ss m = oldI w t' ss m')) : picN w r t = picN w r t' := by
  have both : ∀ k : Nat, k < w.ms.length → ∃ m m', t.ms[k]? = some m ∧ t'.ms[k]? = some m' ∧ w.ms[k]? = some w.ms[k]! := fun k hk => by
    have hs : w.ms[k]? = some w.ms[k] := List.getElem?_eq_getElem hk
    obtain ⟨m, hm⟩ := ms_both' o.len hs
    obtain ⟨m', hm'⟩ := ms_both' o'.len hs
    exact ⟨m, m', hm, hm', by rw [hs]; congr 1; exact (getElem!_pos w.ms k hk).symm⟩
  have e2 : t.ms.map (doN t) = t'.ms.map (doN t') := by
    refine List.ext_getElem? fun k => ?_
    rw [List.getElem?_map, List.getElem?_map]
    by_cases hk : k < w.ms.length
    · obtain ⟨m, m', hm, hm', hs⟩ := both k hk
      rw [hm, hm']
      show some (doN t m) = some (doN t' m')
      obtain ⟨g1, g2, _⟩ := row k m m' _ hm hm' hs
      have L := left_iff o.b (hr k m _ hm hs)
      have L' := left_iff o'.b (hr' k m' _ hm' hs)
      unfold doN leftN
      rw [g1]
      by_cases c : 0 ≤ m.over
      · have c' : 0 ≤ m'.over := by
          by_cases q : 0 ≤ m'.over
          · exact q
          · have := L'.1.mpr (by omega)
            rw [← g2] at this
            have := L.1.mp this
            omega
        rw [if_pos c, if_pos c', ← L.2 c, ← L'.2 c', g2]
      · have c' : ¬ 0 ≤ m'.over := by
          have := L.1.mpr (by omega)
          rw [g2] at this
          have := L'.1.mp this
          omega
        rw [if_neg c, if_neg c']
    · rw [List.getElem?_eq_none (by rw [o.len]; omega), List.getElem?_eq_none (by rw [o'.len]; omega)]
      rfl
  have e3 : memN w r t = memN w r t' := by
    unfold memN
    cases r with
    | rank => rfl
    | least => rfl
    | turns => show lastN t = lastN t'; unfold lastN; rw [h2 rfl]
    | wait =>
      show NestedKey.tup _ = NestedKey.tup _
      congr 1
      refine List.ext_getElem? fun k => ?_
      rw [List.getElem?_map, List.getElem?_map]
      by_cases hk : k < w.ms.length
      · obtain ⟨m, m', hm, hm', hs⟩ := both k hk
        have z1 : (t.ms.zip w.ms)[k]? = some (m, w.ms[k]!) := List.getElem?_zip_eq_some.mpr ⟨hm, hs⟩
        have z2 : (t'.ms.zip w.ms)[k]? = some (m', w.ms[k]!) := List.getElem?_zip_eq_some.mpr ⟨hm', hs⟩
        rw [z1, z2]
        show some (placeN w t _ m) = some (placeN w t' _ m')
        obtain ⟨g1, g2, g3⟩ := row k m m' _ hm hm' hs
        have L := left_iff o.b (hr k m _ hm hs)
        have L' := left_iff o'.b (hr' k m' _ hm' hs)
        unfold placeN
        rw [g1]
        by_cases c : m.over < 0 ∧ m'.at_ ≠ (w.ms[k]!.length : Int)
        · have hl := L.1.mpr c.1
          have hl' : leftI m' t'.beat < 0 := by rw [← g2]; exact hl
          rw [if_pos c, if_pos ⟨L'.1.mp hl', c.2⟩]
          have hne : w.ms[k]! ≠ [] := fun z => by
            have q0 := (o.m k m _ hm hs).a0
            have q1 := (o.m k m _ hm hs).a1
            rw [z] at q1
            have c2 := c.2
            rw [z, ← g1] at c2
            simp at q1 c2
            omega
          have f1 : oldI w t w.ms[k]! m = ((older w t m : Nat) : Int) := by
            unfold oldI older
            have q := filter_map_len (f := Clm.since) (x := m.since) (lClaims w t w.ms.length)
            rw [wts_claims o hr] at q
            rw [if_pos ⟨hl, hne⟩, q]
          have f2 : oldI w t' w.ms[k]! m' = ((older w t' m' : Nat) : Int) := by
            unfold oldI older
            have q := filter_map_len (f := Clm.since) (x := m'.since) (lClaims w t' w.ms.length)
            rw [wts_claims o' hr'] at q
            rw [if_pos ⟨hl', hne⟩, q]
          rw [← f1, ← f2, g3 rfl]
        · rw [if_neg c, if_neg]
          rintro ⟨z1, z2⟩
          have := L'.1.mpr z1
          rw [← g2] at this
          exact c ⟨L.1.mp this, z2⟩
      · rw [List.getElem?_eq_none (by rw [List.length_zip, o.len]; omega), List.getElem?_eq_none (by rw [List.length_zip, o'.len]; omega)]
        rfl
  unfold picN
  rw [h1, e2, e3]
def oldS (w : Wld) (r : Rgt) (t : LSt) (ss : List Stp) (m : Mac) : Int := if r = .wait then oldI w t ss m else 0
def rowS (w : Wld) (r : Rgt) (t : LSt) (x : Mac × List Stp) : PyData := .tuple [.int x.1.at_, .int (leftI x.1 t.beat), .int (oldS w r t x.2 x.1)]
def lawS (w : Wld) (r : Rgt) (t : LSt) : PyData := .tuple [.int t.level, .int (if r = .turns then t.last else -1), .list ((t.ms.zip w.ms).map (rowS w r t))]
theorem lawS_pic {w : Wld} {r : Rgt} {t t' : LSt} (o : LOk w t) (o' : LOk w t') (hr : RInv w t) (hr' : RInv w t') (h : lawS w r t = lawS w r t') : picN w r t = picN w r t' := by
  unfold lawS at h
  simp only [PyData.tuple.injEq, List.cons.injEq, PyData.int.injEq, PyData.list.injEq, and_true] at h
  obtain ⟨h1, h2, h3⟩ := h
  refine pic_of o o' hr hr' h1 (fun e => by rw [if_pos e, if_pos e] at h2; exact h2) fun k m m' ss e e' es => ?_
  have q : ((t.ms.zip w.ms).map (rowS w r t))[k]? = ((t'.ms.zip w.ms).map (rowS w r t'))[k]? := by rw [h3]
  have z1 : (t.ms.zip w.ms)[k]? = some (m, ss) := List.getElem?_zip_eq_some.mpr ⟨e, es⟩
  have z2 : (t'.ms.zip w.ms)[k]? = some (m', ss) := List.getElem?_zip_eq_some.mpr ⟨e', es⟩
  rw [List.getElem?_map, List.getElem?_map, z1, z2] at q
  have q2 : rowS w r t (m, ss) = rowS w r t' (m', ss) := Option.some.inj q
  unfold rowS at q2
  simp only [PyData.tuple.injEq, List.cons.injEq, PyData.int.injEq, and_true] at q2
  refine ⟨q2.1, q2.2.1, fun er => ?_⟩
  have q3 := q2.2.2
  unfold oldS at q3
  rw [if_pos er, if_pos er] at q3
  exact q3
theorem pic_lawS {w : Wld} {r : Rgt} {t t' : LSt} (o : LOk w t) (o' : LOk w t') (hr : RInv w t) (hr' : RInv w t') (hl : -1 ≤ t.last) (hl' : -1 ≤ t'.last) (h : picN w r t = picN w r t') : lawS w r t = lawS w r t' := by
  unfold picN at h
  simp only [NestedKey.tup.injEq, List.cons.injEq, NestedKey.num.injEq, and_true] at h
  obtain ⟨h1, h2, h3⟩ := h
  have e2 : (if r = .turns then t.last else -1) = (if r = .turns then t'.last else -1) := by
    by_cases c : r = .turns
    · subst c
      rw [if_pos rfl, if_pos rfl]
      have h4 : lastN t = lastN t' := h3
      unfold lastN at h4
      split at h4
      · split at h4
        · omega
        · cases h4
      · split at h4
        · cases h4
        · simpa using h4
    · rw [if_neg c, if_neg c]
  have e3 : (t.ms.zip w.ms).map (rowS w r t) = (t'.ms.zip w.ms).map (rowS w r t') := by
    refine List.ext_getElem? fun k => ?_
    rw [List.getElem?_map, List.getElem?_map]
    by_cases hk : k < w.ms.length
    · have hs : w.ms[k]? = some w.ms[k] := List.getElem?_eq_getElem hk
      obtain ⟨m, hm⟩ := ms_both' o.len hs
      obtain ⟨m', hm'⟩ := ms_both' o'.len hs
      have z1 : (t.ms.zip w.ms)[k]? = some (m, w.ms[k]) := List.getElem?_zip_eq_some.mpr ⟨hm, hs⟩
      have z2 : (t'.ms.zip w.ms)[k]? = some (m', w.ms[k]) := List.getElem?_zip_eq_some.mpr ⟨hm', hs⟩
      rw [z1, z2]
      show some (rowS w r t (m, w.ms[k])) = some (rowS w r t' (m', w.ms[k]))
      have hdo : doN t m = doN t' m' := by
        have q : (t.ms.map (doN t))[k]? = (t'.ms.map (doN t'))[k]? := by rw [h2]
        rw [List.getElem?_map, List.getElem?_map, hm, hm'] at q
        exact Option.some.inj q
      unfold doN at hdo
      simp only [NestedKey.tup.injEq, List.cons.injEq, NestedKey.num.injEq, and_true] at hdo
      obtain ⟨g1, g2⟩ := hdo
      have L := left_iff o.b (hr k m _ hm hs)
      have L' := left_iff o'.b (hr' k m' _ hm' hs)
      have hlow : ∀ (x : Mac) (b : Int), leftI x b < 0 → leftI x b = -1 := fun x b z => by
        unfold leftI at z ⊢
        split at z
        · omega
        · rename_i c
          rw [if_neg c]
      have hleft : leftI m t.beat = leftI m' t'.beat ∧ (m.over < 0 ↔ m'.over < 0) := by
        unfold leftN at g2
        by_cases c : 0 ≤ m.over
        · rw [if_pos c] at g2
          by_cases c' : 0 ≤ m'.over
          · rw [if_pos c'] at g2
            have : m.over - t.beat = m'.over - t'.beat := by simpa using g2
            rw [L.2 c, L'.2 c', this]
            exact ⟨rfl, by omega⟩
          · rw [if_neg c'] at g2
            cases g2
        · rw [if_neg c] at g2
          by_cases c' : 0 ≤ m'.over
          · rw [if_pos c'] at g2
            cases g2
          · rw [hlow _ _ (L.1.mpr (by omega)), hlow _ _ (L'.1.mpr (by omega))]
            exact ⟨rfl, by omega⟩
      have hold : oldS w r t w.ms[k] m = oldS w r t' w.ms[k] m' := by
        unfold oldS
        by_cases cr : r = .wait
        · rw [if_pos cr, if_pos cr]
          subst cr
          have hmem : (NestedKey.tup ((t.ms.zip w.ms).map fun x => placeN w t x.2 x.1)) = .tup ((t'.ms.zip w.ms).map fun x => placeN w t' x.2 x.1) := h3
          simp only [NestedKey.tup.injEq] at hmem
          have q : ((t.ms.zip w.ms).map fun x => placeN w t x.2 x.1)[k]? = ((t'.ms.zip w.ms).map fun x => placeN w t' x.2 x.1)[k]? := by rw [hmem]
          rw [List.getElem?_map, List.getElem?_map, z1, z2] at q
          have q2 : placeN w t w.ms[k] m = placeN w t' w.ms[k] m' := Option.some.inj q
          unfold oldI
          by_cases cne : w.ms[k] ≠ []
          · by_cases cl : leftI m t.beat < 0
            · have cl' : leftI m' t'.beat < 0 := by rw [← hleft.1]; exact cl
              rw [if_pos ⟨cl, cne⟩, if_pos ⟨cl', cne⟩]
              have lt1 := (hr k m _ hm hs).lt cne
              have lt2 := (hr' k m' _ hm' hs).lt cne
              unfold placeN at q2
              rw [if_pos ⟨L.1.mp cl, by omega⟩, if_pos ⟨L'.1.mp cl', by omega⟩] at q2
              have q3 : (older w t m : Int) = older w t' m' := by simpa using q2
              unfold older at q3
              have f1 := filter_map_len (f := Clm.since) (x := m.since) (lClaims w t w.ms.length)
              have f2 := filter_map_len (f := Clm.since) (x := m'.since) (lClaims w t' w.ms.length)
              rw [wts_claims o hr] at f1
              rw [wts_claims o' hr'] at f2
              rw [← f1, ← f2]
              exact q3
            · have cl' : ¬ leftI m' t'.beat < 0 := by rw [← hleft.1]; exact cl
              rw [if_neg (fun z => cl z.1), if_neg (fun z => cl' z.1)]
          · rw [if_neg (fun z => cne z.2), if_neg (fun z => cne z.2)]
        · rw [if_neg cr, if_neg cr]
      unfold rowS
      simp only []
      rw [g1, hleft.1, hold]
    · rw [List.getElem?_eq_none (by rw [List.length_zip, o.len]; omega), List.getElem?_eq_none (by rw [List.length_zip, o'.len]; omega)]
      rfl
  unfold lawS
  rw [h1, e2, e3]
end Obr
namespace Obr
open PySem L2 PyProof.Rows
section
variable {S : Type} {J : S → Hp → Hp → Prop} {K : PySem.W.Frag} {σ : L2.St} {s : S} {F : Hp} {R : V → S → Hp → Prop} {tn : TE}
theorem cw_sortedI (hd : Hid J) {a : Addr} {ns : List Int} (l : SqL K F a (ns.map V.int)) (h : ∀ (ns' : List Int) (p : Addr), ns'.Perm ns → ns'.Pairwise (· ≤ ·) → F p = none → R (.ref p) s (upd F p (.lst (ns'.map V.int)))) : CW J (rSortedI K) [.ref a] s F R := fun H j Q q =>
  ⟨a, ns, rfl, hd.sqL j l, fun ns' p h1 h2 hp => q _ _ _ _ (hd.al j hp) (h ns' p h1 h2 (hd.fresh j hp))⟩
end
end Obr
namespace Obr
open PySem L2 PyProof.Rows
section
variable {S : Type} {J : S → Hp → Hp → Prop} {K : PySem.W.Frag} {s : S} {F : Hp} {R : V → S → Hp → Prop}
theorem srt_ix : ∀ {l : List Int} {x : Int}, l.Pairwise (· ≤ ·) → x ∈ l → l[(l.filter fun y => decide (y < x)).length]? = some x ∧ ∀ (m : Nat) (y : Int), m < (l.filter fun y => decide (y < x)).length → l[m]? = some y → y < x
  | [], _, _, h => by cases h
  | a :: l, x, hp, hx => by
    rw [List.pairwise_cons] at hp
    rw [List.filter_cons]
    by_cases c : a < x
    · rw [if_pos (decide_eq_true c), List.length_cons, List.getElem?_cons_succ]
      have hx2 : x ∈ l := by
        rcases List.mem_cons.mp hx with e | e
        · omega
        · exact e
      obtain ⟨h1, h2⟩ := srt_ix hp.2 hx2
      refine ⟨h1, fun m y hm hy => ?_⟩
      cases m with
      | zero => cases hy; exact c
      | succ m => exact h2 m y (by omega) (by simpa using hy)
    · have ea : a = x := by
        rcases List.mem_cons.mp hx with e | e
        · exact e.symm
        · have := hp.1 x e; omega
      have e0 : l.filter (fun y => decide (y < x)) = [] := by
        rw [List.filter_eq_nil_iff]
        intro y hy
        have := hp.1 y hy
        simp
        omega
      rw [if_neg (by simp [c]), e0]
      exact ⟨by rw [List.length_nil, List.getElem?_cons_zero, ea], fun m y hm => by simp at hm⟩
theorem mw_indexI (hd : Hid J) {a : Addr} {ns : List Int} {x : Int} (l : SqL K F a (ns.map V.int)) (hp : ns.Pairwise (· ≤ ·)) (hx : x ∈ ns) (h : R (.int ((ns.filter fun y => decide (y < x)).length : Nat)) s F) : MW J (rIndex K) (.ref a) [.int x] s F R := fun H j Q q =>
  ⟨a, ns.map V.int, .int x, _, .int x, rfl, rfl, hd.sqL j l, rfl, by rw [List.all_map, List.all_eq_true]; intro y _; rfl, by rw [List.getElem?_map, (srt_ix hp hx).1]; rfl, by simp [eqV], fun m z' hm hz => by
    rw [List.getElem?_map] at hz
    obtain ⟨y, hy, rfl⟩ := Option.map_eq_some_iff.mp hz
    have := (srt_ix hp hx).2 m y hm hy
    simp [eqV]
    omega, q _ _ _ _ j h⟩
end
/-! places -/
section
variable {K : PySem.W.Frag} {F0 F : Hp} {A : WAd} {t : LSt} {w : Wld} {r : Rgt} {p : Bool} {ex : List (Addr × HO)}
theorem WAt.geti (h : WAt K F0 F A t w r p ex) {i : Nat} {a : Addr} {o : HO} (e : ex[i]? = some (a, o)) : F a = some o := h.own.at_ (a, o) (List.mem_append_right _ (List.mem_of_getElem? e))
theorem WAt.seti (h : WAt K F0 F A t w r p ex) {i : Nat} {a : Addr} {o o' : HO} (e : ex[i]? = some (a, o)) : WAt K F0 (upd F a o') A t w r p (ex.set i (a, o')) := by
  have hs := h.own.set (i := (wown A t).length + i) (a := a) (o := o) (o' := o') (by
    rw [List.getElem?_append_right (by omega), Nat.add_sub_cancel_left]
    exact e)
  rw [List.set_append_right _ _ (by omega), Nat.add_sub_cancel_left] at hs
  exact ⟨hs, h.st, h.mc, h.ru, h.len⟩
end
/-- what the law has seen ahead of beats 1 to n -/
structure SeenL (w : Wld) (r : Rgt) (p : Bool) (n : Nat) (xs : NKs) : Prop where
  len : xs.length = n
  get : ∀ x ∈ xs, ∃ (i : Nat) (ti : LSt), 1 ≤ i ∧ i ≤ n ∧ RPath w r p i ti ∧ x.1 = lawN w ti
end Obr
namespace Obr
open PySem L2 PyProof.Rows
section
variable {S : Type} {J : S → Hp → Hp → Prop} {K : PySem.W.Frag} {s : S} {F : Hp} {R : V → S → Hp → Prop}
end
theorem eqv_nilE {ss : List Stp} : PyData.eqv (macD ss) (.tuple []) = decide (ss = []) := by
  cases ss with
  | nil => simp [macD, PyData.eqv, PyData.eqvAll]
  | cons a b => simp [macD, PyData.eqv, PyData.eqvAll]
theorem eqv_nilN {ss : List Stp} : (!PyData.eqv (macD ss) (.tuple [])) = decide (ss ≠ []) := by
  rw [eqv_nilE]
  by_cases c : ss = [] <;> simp [c]
end Obr
namespace Obr
open PySem L2 PyProof.Rows
local macro_rules | `(tactic| walk_at "ob_wat") => `(tactic| first
  | with_reducible refine WAt.g_store (by assumption) ?_
  | with_reducible refine WAt.g_machines (by assumption) ?_
  | with_reducible refine WAt.g_rule (by assumption) ?_
  | with_reducible refine WAt.g_level (by assumption) ?_
  | with_reducible refine WAt.g_at (by assumption) ?_
  | with_reducible refine WAt.g_over (by assumption) ?_
  | with_reducible refine WAt.g_since (by assumption) ?_
  | with_reducible refine WAt.g_last (by assumption) ?_
  | with_reducible refine WAt.g_beat (by assumption) ?_
  | with_reducible refine WAt.g_done (by assumption) ?_
  | with_reducible refine WAt.g_waits (by assumption) ?_
  | with_reducible refine WAt.g_ends (by assumption) ?_
  | ((with_reducible refine' WAt.r_at_ (t := ?_) (m := ?_) ?obw ?obd ?obm ?_); (case obw => assumption); (case obd => assumption); (case obm => assumption))
  | ((with_reducible refine' WAt.r_over (t := ?_) (m := ?_) ?obw ?obd ?obm ?_); (case obw => assumption); (case obd => assumption); (case obm => assumption))
  | ((with_reducible refine' WAt.r_since (t := ?_) (m := ?_) ?obw ?obd ?obm ?_); (case obw => assumption); (case obd => assumption); (case obm => assumption))
  | ((with_reducible refine' WAt.r_done (t := ?_) (m := ?_) ?obw ?obd ?obm ?_); (case obw => assumption); (case obd => assumption); (case obm => assumption))
  | ((with_reducible refine' WAt.r_waits (t := ?_) (m := ?_) ?obw ?obd ?obm ?_); (case obw => assumption); (case obd => assumption); (case obm => assumption))
  | ((with_reducible refine' WAt.r_right ?obw ?obd ?_); (case obw => assumption); (case obd => assumption))
  | ((with_reducible refine' WAt.r_pass ?obw ?obd ?_); (case obw => assumption); (case obd => assumption)))
local macro_rules | `(tactic| walk_at "ob_at") => `(tactic| first
  | assumption
  | exact upd_same
  | (refine Eq.trans (upd_ne ?obn) ?obr; (case obn => walk_at "ob_ne"); (case obr => walk_at "ob_at")))
local macro_rules | `(tactic| walk_at "ob_ne") => `(tactic| first
  | assumption
  | (refine Ne.symm ?obs; (case obs => assumption))
  | (refine' ne_of_none (H := ?_) ?obe ?obh; (case obh => assumption); (case obe => walk_at "ob_at"))
  | (refine Ne.symm ?obs; (case obs => (refine' ne_of_none (H := ?_) ?obe ?obh; (case obh => assumption); (case obe => walk_at "ob_at")))))
local macro_rules | `(tactic| walk_at "ob_fr") => `(tactic| first
  | assumption
  | (refine Eq.trans (upd_ne ?obn) ?obr; (case obn => walk_at "ob_ne"); (case obr => walk_at "ob_fr"))
  | (refine Ex.free (G := ?_) (by assumption) ?obh; (case obh => walk_at "ob_fr")))
local macro_rules | `(tactic| walk_at "ob_ex") => `(tactic| first
  | assumption
  | exact Ex.refl _
  | (refine Ex.out ?obg ?obh; (case obh => assumption); (case obg => walk_at "ob_ex"))
  | (refine Ex.new ?obg ?obh; (case obh => assumption); (case obg => walk_at "ob_ex"))
  | (refine Ex.new ?obg ?obh; (case obh => walk_at "ob_fr"); (case obg => walk_at "ob_ex")))
local macro_rules | `(tactic| walk_at "ob_sq") => `(tactic| first
  | assumption
  | (refine SqL.of ?oba; (case oba => walk_at "ob_at"))
  | (refine Ex.sqT (F := ?_) ?obg ?obh; (case obh => assumption); (case obg => walk_at "ob_ex"))
  | (refine Ex.sqL (F := ?_) ?obg ?obh; (case obh => assumption); (case obg => walk_at "ob_ex"))
  | (refine SqT.of ?oba; (case oba => walk_at "ob_at")))
local macro_rules | `(tactic| walk_at "ob_side") => `(tactic| first | exact rfl | assumption | decide | omega | exact ⟨by decide, by decide, by decide⟩ | exact Or.inr ⟨by decide, by decide⟩ | exact Or.inl ⟨by decide, by decide⟩ | exact wide_div (b := 60) (by first | decide | omega) (by first | decide | omega) (by decide) (by decide))
local macro_rules | `(tactic| walk_at "ob1") => `(tactic| first
  | walk_at "ob_wat"
  | with_reducible refine sw_seq ?_
  | with_reducible refine sw_asg ?_
  | with_reducible refine sw_ret ?_
  | with_reducible refine sw_par ?_
  | with_reducible refine ⟨_, _, rfl, ?_⟩
  | with_reducible refine sw_drop ?_
  | with_reducible refine sw_if ?_
  | with_reducible refine sw_next ?_
  | with_reducible refine gw_name ?_
  | with_reducible refine gw_subL (by assumption) ?_
  | with_reducible refine gsw_cons ?_
  | with_reducible refine gsw_nil ?_
  | with_reducible refine ew_c ?_
  | ((with_reducible refine' ew_var (v := ?_) ?obv ?_); (case obv => exact rfl))
  | ((with_reducible refine ew_next (by assumption) ?obv ?_); (case obv => exact rfl))
  | ((with_reducible refine ew_world (by assumption) ?obv ?_); (case obv => exact rfl))
  | ((with_reducible refine ew_rule (by assumption) ?obv ?_); (case obv => exact rfl))
  | with_reducible refine ew_op ?_
  | with_reducible refine ew_un ?_
  | with_reducible refine ew_dget (by assumption) ?_
  | with_reducible refine uw_I ?_
  | with_reducible refine ppw_nil ?_
  | with_reducible refine ppw_cons ?_
  | with_reducible refine sw_dput (by assumption) ?_
  | with_reducible refine ew_cb ?_
  | with_reducible refine ew_if ?_
  | with_reducible refine ew_slL (by assumption) ?_
  | with_reducible refine ow_some ?_
  | with_reducible refine ow_none ?_
  | with_reducible refine aw_nil ?_
  | with_reducible refine aw_cons ?_
  | with_reducible refine rw_I0 ?_
  | ((with_reducible refine rw_I ?obc ?_); (case obc => walk_at "ob_side"))
  | with_reducible refine rw_isN ?_
  | with_reducible refine rw_notN ?_
  | ((with_reducible refine rw_eq ?obc ?_); (case obc => exact rfl))
  | ((with_reducible refine rw_ne ?obc ?_); (case obc => exact rfl))
  | with_reducible refine cw_max2 ?_
  | with_reducible refine cw_min2 ?_
  | with_reducible refine tw_test ?_
  | with_reducible refine tw_B ?_
  | with_reducible refine tw_not ?_
  | with_reducible refine tw_truB ?_
  | with_reducible refine tw_and ?_
  | with_reducible refine tw_or ?_
  | with_reducible refine ew_and ?_
  | (refine' Exists.intro _ (And.intro (show V.bl _ = V.bl _ from rfl) ?_))
  | (refine' Exists.intro _ (And.intro (show V.int _ = V.int _ from rfl) ?_))
  | ((with_reducible refine' rw_ixL (v := ?_) (xs := ?_) (by assumption) ?obl ?oba ?_); (case obl => walk_at "ob_sq"); (case oba => first | exact rfl | exact at_zero))
  | ((with_reducible refine' rw_ixT (v := ?_) (xs := ?_) (by assumption) ?obl ?oba ?_); (case obl => walk_at "ob_sq"); (case oba => first | exact rfl | exact at_zero))
  | ((with_reducible refine' ew_lst (by assumption) ?_))
  | ((with_reducible refine' ew_tup (by assumption) ?_)))
local macro_rules | `(tactic| walk_at "ob_len") => `(tactic| first | exact Nat.le_of_ble_eq_true rfl | (simp; done) | omega)
local macro_rules | `(tactic| walk_at "ob") => `(tactic| repeat walk_at "ob1")

/-! ### _law_state -/
theorem left_neg {m : Mac} {b : Int} : leftI m b < 0 ↔ m.over < b := by
  unfold leftI
  split <;> omega
theorem left_val {m : Mac} {b : Int} (h : ¬ m.over < b) : leftI m b = m.over - b := by
  unfold leftI
  rw [if_pos (by omega)]
theorem left_one {m : Mac} {b : Int} (h : m.over < b) : leftI m b = -1 := by
  unfold leftI
  rw [if_neg (by omega)]
theorem rgt_wait {r : Rgt} (h : V.str (rgtS r) = V.str "wait") : r = .wait := by
  cases r <;> first | rfl | exact absurd h (by decide)
theorem rgt_turns {r : Rgt} (h : V.str (rgtS r) = V.str "turns") : r = .turns := by
  cases r <;> first | rfl | exact absurd h (by decide)
theorem inV_int {x : Int} {ns : List Int} : inV (.int x) (ns.map V.int) = true ↔ x ∈ ns := by
  unfold inV
  rw [List.any_eq_true]
  refine ⟨fun ⟨y, hy, e⟩ => ?_, fun h => ⟨.int x, List.mem_map_of_mem h, ?_⟩⟩
  · obtain ⟨z, hz, rfl⟩ := List.mem_map.mp hy
    have : z = x := by simpa [eqV] using e
    rw [← this]
    exact hz
  · simp [eqV]
theorem wts_mem {w : Wld} {t : LSt} {i : Nat} {m : Mac} {ss : List Stp} (hm : t.ms[i]? = some m) (hs : w.ms[i]? = some ss) (ho : m.over < t.beat) (hne : ss ≠ []) : ∀ {j : Nat}, i < j → m.since ∈ wts w t j
  | 0, h => by omega
  | j + 1, h => by
    rw [wts]
    by_cases e : i = j
    · subst e
      refine List.mem_append_right _ ?_
      unfold wtsI
      rw [hm, hs]
      simp only []
      rw [if_pos ⟨ho, hne⟩]
      exact List.mem_singleton.mpr rfl
    · exact List.mem_append_left _ (wts_mem hm hs ho hne (by omega))
theorem wts_len {w : Wld} {t : LSt} : ∀ j : Nat, (wts w t j).length ≤ j
  | 0 => Nat.le_refl _
  | j + 1 => by
    have ih := wts_len (w := w) (t := t) j
    rw [wts, List.length_append]
    have : (wtsI w t j).length ≤ 1 := by
      unfold wtsI
      split
      · split <;> simp
      · simp
    omega
def aState (K : PySem.W.Frag) : List V → Hp → VK → Prop := fun vs F R => ∃ (F0 : Hp) (A : WAd) (t : LSt) (w : Wld) (r : Rgt) (p : Bool) (ex : List (Addr × HO)), vs = [.ref A.w] ∧ WAt K F0 F A t w r p ex ∧ LOk w t ∧ RInv w t ∧ w.ms.length ≤ 5 ∧
  ∀ (F0' F' : Hp) (v : V), Ex F0 F0' → WAt K F0' F' A t w r p ex → Dp K F0' v (lawS w r t) → R v F'
section
variable {P : Program} {w : World} {K : PySem.W.Frag} {mg : Str → Option Value} {base : Heap}

abbrev s__law_state : Stmt := top 57
def N__law_state : List Str := ["_law_w", "_law_rows", "_law_waiting", "_law_k", "_law_is_waiting", "_law_old"]
theorem sc__law_state : FnScope N__law_state ["_law_w"] (defScope s__law_state) := ⟨rfl, rfl, rfl, by decide +kernel, rfl, by decide +kernel, by decide +kernel⟩
theorem ok__law_state {f : Addr} {fd : FuncData}  (Fn : Fun K "_law_state" "_law_state" s__law_state f fd) (B : Blt mg)  : FnOk P w K mg base CX0 1 f fd ["_law_w"] (LS (aState K)) := by
  refine Fn.ok sc__law_state (fun vs H Q E h => ?_) (fun cdv A outer s H vs Q E hr h => ?_)
  · obtain ⟨J, F, R, hd, j, h, _⟩ := h
    obtain ⟨F0, A, t, w, r, p, ex, rfl, _⟩ := h
    rfl
  · have nd := sc__law_state.nd
    obtain ⟨J, F, R, hd, j, h, q⟩ := h
    obtain ⟨F0, A, t, wd, r, p, ex, rfl, hX, hok, hr', hm5, k⟩ := h
    refine ⟨_, (pss_cons (ps_par (i := 1) (j := 2) rfl nd rfl rfl (by decide) rfl rfl (pa_cons (pe_lst pa_nil) (pa_cons (pe_lst pa_nil) pa_nil)) (by rfl))
      (pss_cons (ps_for PassesOwn.never rfl (pi_range1 rfl B.range (pa_cons (pe_callB call_len_seq (by rfl) B.len (by decide +kernel) (pa_cons (pe_dget (hu_of hr) (pv 0) pe_str (fun _ _ => rfl)) pa_nil)) pa_nil)) (pg_name (i := 3) nd rfl (Or.inl rfl)) (pss_one (ps_if (PW.pt (pw_and (pt_cmpR op_lt (pe_ix ix_list (pe_dget (hu_of hr) (pv 0) pe_str (fun _ _ => rfl)) (pv 3) (fun _ _ => rfl)) (pe_dget (hu_of hr) (pv 0) pe_str (fun _ _ => rfl)) (nomark _)) (pw_and1 (pt_cmpR op_lt (pe_ix ix_list (pe_dget (hu_of hr) (pv 0) pe_str (fun _ _ => rfl)) (pv 3) (fun _ _ => rfl)) (pe_callB call_len_seq (by rfl) B.len (by decide +kernel) (pa_cons (pe_ix ix_tup (pe_dget (hu_of hr) (pv 0) pe_str (fun _ _ => rfl)) (pv 3) (fun _ _ => rfl)) pa_nil)) (nomark _))))) (pss_one (ps_expr (pe_bm PySem.F.plainAttrs_list PySem.F.slot_list_append PySem.F.type_list_append mt_append (pv 2) (pa_cons (pe_ix ix_list (pe_dget (hu_of hr) (pv 0) pe_str (fun _ _ => rfl)) (pv 3) (fun _ _ => rfl)) pa_nil)))) pss_nil)))
      (pss_cons (ps_for PassesOwn.never rfl (pi_range1 rfl B.range (pa_cons (pe_callB call_len_seq (by rfl) B.len (by decide +kernel) (pa_cons (pe_dget (hu_of hr) (pv 0) pe_str (fun _ _ => rfl)) pa_nil)) pa_nil)) (pg_name (i := 3) nd rfl (Or.inl rfl)) (pss_cons (ps_set (i := 4) nd rfl (Or.inl rfl) (pe_cmpR op_lt (pe_ix ix_list (pe_dget (hu_of hr) (pv 0) pe_str (fun _ _ => rfl)) (pv 3) (fun _ _ => rfl)) (pe_dget (hu_of hr) (pv 0) pe_str (fun _ _ => rfl)) (nomark _)))
      (pss_cons (ps_set (i := 5) nd rfl (Or.inl rfl) (pe_ifExp (PW.pt (pw_and (pt_truth (pv 4) (by intro _; rfl)) (pw_and1 (pt_cmpR op_in_seq (pe_ix ix_list (pe_dget (hu_of hr) (pv 0) pe_str (fun _ _ => rfl)) (pv 3) (fun _ _ => rfl)) (pv 2) (by rfl))))) (pe_bm PySem.F.plainAttrs_list PySem.F.slot_list_index PySem.F.type_list_index mt_index (pe_callB cr_sortedI (by rfl) B.sorted (by decide +kernel) (pa_cons (pv 2) pa_nil)) (pa_cons (pe_ix ix_list (pe_dget (hu_of hr) (pv 0) pe_str (fun _ _ => rfl)) (pv 3) (fun _ _ => rfl)) pa_nil)) pe_int))
      (pss_cons (ps_set (i := 5) nd rfl (Or.inl rfl) (pe_ifExp (PW.pt (pw_and (pt_cmpR op_eq (pe_ix ix_tup (pe_dget (hu_of hr) (pv 0) pe_str (fun _ _ => rfl)) pe_int (fun _ _ => rfl)) pe_str (nomark _)) (pw_and1 (pt_cmpR (op_neD (by exact hr.units)) (pe_ix ix_tup (pe_dget (hu_of hr) (pv 0) pe_str (fun _ _ => rfl)) (pv 3) (fun _ _ => rfl)) (pe_tup pa_nil) (nomark _))))) (pv 5) pe_int))
      (pss_one (ps_expr (pe_bm PySem.F.plainAttrs_list PySem.F.slot_list_append PySem.F.type_list_append mt_append (pv 1) (pa_cons (pe_tup (pa_cons (pe_ix ix_list (pe_dget (hu_of hr) (pv 0) pe_str (fun _ _ => rfl)) (pv 3) (fun _ _ => rfl)) (pa_cons (pe_ifExp (pt_truth (pv 4) (by intro _; rfl)) (pe_un un_neg pe_int) (pe_op op_sub (pe_ix ix_list (pe_dget (hu_of hr) (pv 0) pe_str (fun _ _ => rfl)) (pv 3) (fun _ _ => rfl)) (pe_dget (hu_of hr) (pv 0) pe_str (fun _ _ => rfl)))) (pa_cons (pv 5) pa_nil)))) pa_nil))))))))
      (pss_one (ps_ret (pe_tup (pa_cons (pe_dget (hu_of hr) (pv 0) pe_str (fun _ _ => rfl)) (pa_cons (pe_ifExp (pt_cmpR op_eq (pe_ix ix_tup (pe_dget (hu_of hr) (pv 0) pe_str (fun _ _ => rfl)) pe_int (fun _ _ => rfl)) pe_str (nomark _)) (pe_dget (hu_of hr) (pv 0) pe_str (fun _ _ => rfl)) (pe_un un_neg pe_int)) (pa_cons (pv 1) pa_nil))))))))), ?_⟩
    refine LS.body j q ?_
    refine sw_seq (sw_par (aw_cons (ew_lst hd ?_)))
    walk_at "ob"
    refine ⟨by walk_at "ob_len", fun p1 hp1 => ?_⟩
    have hX2 := hX.more (o := .lst []) hp1
    walk_at "ob"
    refine ⟨by walk_at "ob_len", fun p2 hp2 => ?_⟩
    have hX3 := hX2.more (o := .lst []) hp2
    walk_at "ob"
    refine sw_mid (fun σ _ G => ∃ x4 x5 : Option V, ∃ x3 : Option V, σ = [some (.ref A.w), some (.ref p1), some (.ref p2), x3, x4, x5] ∧ ∃ Fk, Ex F0 Fk ∧ WAt K Fk G A t wd r p ((p2, .lst ((wts wd t wd.ms.length).map V.int)) :: (p1, .lst []) :: ex)) ?_ ?_
    · refine sw_forR1 ?_
      walk_at "ob"
      have hG := hX3
      walk_at "ob"
      refine cw_lenS hd (Or.inl (SqL.of (hG.own.get (i := 1) rfl))) ?_
      rw [List.length_map, hG.len]
      walk_at "ob"
      refine ⟨(wd.ms.length : Int), fun i σ _ G => ∃ x4 x5 : Option V, ∃ x3 : Option V, σ = [some (.ref A.w), some (.ref p1), some (.ref p2), x3, x4, x5] ∧ ∃ Fk, Ex F0 Fk ∧ WAt K Fk G A t wd r p ((p2, .lst ((wts wd t i).map V.int)) :: (p1, .lst []) :: ex), rfl, by omega, by omega, ⟨none, none, none, rfl, F0, .refl _, hX3⟩, ?_, ?_⟩
      · rintro i σ _ G hi ⟨x4, x5, y3, rfl, Fk, gk, hG⟩
        have hlt : i < wd.ms.length := by omega
        obtain ⟨ss, hs⟩ : ∃ ss, wd.ms[i]? = some ss := ⟨_, List.getElem?_eq_getElem hlt⟩
        obtain ⟨m, hm⟩ := ms_both' hok.len hs
        refine gw_name ?_
        refine sw_if (tw_and (tw_test (ew_op ?_)))
        walk_at "ob"
        have hb0 := hok.b
        have rm := hr' i m ss hm hs
        have ma0 := (hok.m i m ss hm hs).a0
        have wN : ∀ l : List Int, wtsI wd t i = l → (wts wd t (i + 1)).map V.int = (wts wd t i).map V.int ++ l.map V.int := fun l e => by rw [wts, List.map_append, e]
        have wI : wtsI wd t i = if m.over < t.beat ∧ ss ≠ [] then [m.since] else [] := by unfold wtsI; rw [hm, hs]
        refine ⟨fun hb => ?_, fun hb => ⟨(fun z => by cases z), fun _ => sw_next ⟨_, _, _, rfl, Fk, gk, ?_⟩⟩⟩
        · have hov : m.over < t.beat := of_decide_eq_true hb
          refine tw_test (ew_op ?_)
          walk_at "ob"
          refine hG.r_mac hd hs fun v dv => ?_
          obtain ⟨za, zxs, rfl, lz, dz⟩ := dp_tup dv
          have hzl : zxs.length = ss.length := by have := dps_len dz; simpa using this
          refine aw_nil (cw_lenS hd (Or.inr (hG.own.ex.sqT lz)) ?_)
          walk_at "ob"
          refine ⟨fun hb2 => ?_, fun hb2 => ?_⟩
          · have hat : m.at_ < (zxs.length : Int) := of_decide_eq_true hb2
            have hne : ss ≠ [] := fun z => by rw [z] at hzl; rw [hzl] at hat; simp at hat; omega
            refine sw_drop (ew_bmL hd ?_)
            walk_at "ob"
            refine ⟨p2, _, rfl, SqL.of hG.ex0, ?_⟩
            walk_at "ob"
            have hl5 : (wts wd t i).length ≤ i := wts_len i
            refine mw_append hd hG.ex0 (by rw [List.length_map]; omega) ?_
            have hG3 := hG.exset (o' := .lst ((wts wd t i).map V.int ++ [V.int m.since]))
            refine ⟨_, _, _, rfl, Fk, gk, ?_⟩
            rw [wN _ (wI.trans (if_pos ⟨hov, hne⟩))]
            exact hG3
          · have hat : ¬ m.at_ < (zxs.length : Int) := of_decide_eq_false hb2
            have hne : ¬ ss ≠ [] := fun z => by have := rm.lt z; omega
            refine sw_next ⟨_, _, _, rfl, Fk, gk, ?_⟩
            rw [wN _ (wI.trans (if_neg fun z => hne z.2)), List.map_nil, List.append_nil]
            exact hG
        · have hov : ¬ m.over < t.beat := of_decide_eq_false hb
          rw [wN _ (wI.trans (if_neg fun z => hov z.1)), List.map_nil, List.append_nil]
          exact hG
      · rintro σ _ G ⟨x4, x5, y3, rfl, h⟩
        exact ⟨_, _, _, rfl, h⟩
    · rintro σ _ G2 ⟨x4, x5, y3, rfl, Fk, gk, hY⟩
      refine sw_seq (sw_mid (fun σ _ G => ∃ (x3 x4 x5 : Option V) (Fr : Hp) (rvs : List V), σ = [some (.ref A.w), some (.ref p1), some (.ref p2), x3, x4, x5] ∧ Ex F0 Fr ∧ DpAll K Fr rvs ((t.ms.zip wd.ms).map (rowS wd r t)) ∧ WAt K Fr G A t wd r p ((p2, .lst ((wts wd t wd.ms.length).map V.int)) :: (p1, .lst rvs) :: ex)) ?_ ?_)
      · refine sw_forR1 ?_
        walk_at "ob"
        refine cw_lenS hd (Or.inl (SqL.of (hY.own.get (i := 1) rfl))) ?_
        rw [List.length_map, hY.len]
        walk_at "ob"
        refine ⟨(wd.ms.length : Int), fun i σ _ G => ∃ (x3 x4 x5 : Option V) (Fr : Hp) (rvs : List V), σ = [some (.ref A.w), some (.ref p1), some (.ref p2), x3, x4, x5] ∧ Ex F0 Fr ∧ DpAll K Fr rvs (((t.ms.zip wd.ms).take i).map (rowS wd r t)) ∧ WAt K Fr G A t wd r p ((p2, .lst ((wts wd t wd.ms.length).map V.int)) :: (p1, .lst rvs) :: ex), rfl, by omega, by omega, ⟨y3, x4, x5, Fk, [], rfl, gk, .nil, hY⟩, ?_, ?_⟩
        · rintro i σ _ G hi ⟨z3, z4, z5, Fr, rvs, rfl, gr, hD, hG⟩
          have hlt : i < wd.ms.length := by omega
          obtain ⟨ss, hs⟩ : ∃ ss, wd.ms[i]? = some ss := ⟨_, List.getElem?_eq_getElem hlt⟩
          obtain ⟨m, hm⟩ := ms_both' hok.len hs
          have hz : (t.ms.zip wd.ms)[i]? = some (m, ss) := List.getElem?_zip_eq_some.mpr ⟨hm, hs⟩
          have rm := hr' i m ss hm hs
          have hb0 := hok.b
          have hrl : rvs.length = i := by
            have := dps_len hD
            rw [List.length_map, List.length_take, List.length_zip, hok.len] at this
            omega
          refine gw_name ?_
          refine sw_seq (sw_mid (fun σ _ G' => σ = [some (.ref A.w), some (.ref p1), some (.ref p2), some (.int (i : Int)), some (.bl (decide (m.over < t.beat))), z5] ∧ G' = G) ?_ ?_)
          · walk_at "ob"
            exact ⟨rfl, rfl⟩
          rintro σ _ G' ⟨rfl, rfl⟩
          refine sw_seq (sw_mid (fun σ _ G2 => ∃ od : Int, (ss ≠ [] → od = oldI wd t ss m) ∧ σ = [some (.ref A.w), some (.ref p1), some (.ref p2), some (.int (i : Int)), some (.bl (decide (m.over < t.beat))), some (.int od)] ∧ WAt K Fr G2 A t wd r p ((p2, .lst ((wts wd t wd.ms.length).map V.int)) :: (p1, .lst rvs) :: ex)) ?_ ?_)
          · walk_at "ob"
            refine ⟨fun hb => ?_, fun hb => ⟨(fun z => by cases z), fun _ => ?_⟩⟩
            · have hov : m.over < t.beat := of_decide_eq_true hb
              refine tw_test (ew_op ?_)
              walk_at "ob"
              refine rw_in hd (Or.inl (SqL.of hG.ex0)) rfl (by rw [List.all_eq_true]; intro x hx; obtain ⟨y, _, rfl⟩ := List.mem_map.mp hx; rfl) ?_
              refine ⟨_, rfl, fun hb2 => ?_, fun hb2 => ?_⟩
              · have hmem : m.since ∈ wts wd t wd.ms.length := inV_int.mp hb2
                refine ew_bmL hd (ew_cb (aw_cons ?_))
                walk_at "ob"
                refine cw_sortedI hd (SqL.of hG.ex0) fun ns' ps hpm hpw hps => ?_
                have hG3 := hG.new' (o := .lst (ns'.map V.int)) hps
                refine ⟨ps, _, rfl, SqL.of upd_same, ?_⟩
                walk_at "ob"
                refine mw_indexI hd (SqL.of upd_same) hpw (hpm.mem_iff.mpr hmem) ?_
                refine gw_name ⟨_, fun hne => by unfold oldI; rw [if_pos ⟨left_neg.mpr hov, hne⟩, (hpm.filter _).length_eq], rfl, hG3⟩
              · walk_at "ob"
                refine ⟨0, fun hne => absurd (inV_int.mpr (wts_mem hm hs hov hne hlt)) (by simpa using hb2), rfl, hG⟩
            · have hov : ¬ m.over < t.beat := of_decide_eq_false hb
              walk_at "ob"
              exact ⟨0, fun _ => by unfold oldI; rw [if_neg (fun z => hov (left_neg.mp z.1))], rfl, hG⟩
          rintro σ _ G3 ⟨od, hod, rfl, hG2⟩
          have hG := hG2
          refine sw_seq (sw_mid (fun σ _ G2 => σ = [some (.ref A.w), some (.ref p1), some (.ref p2), some (.int (i : Int)), some (.bl (decide (m.over < t.beat))), some (.int (oldS wd r t ss m))] ∧ WAt K Fr G2 A t wd r p ((p2, .lst ((wts wd t wd.ms.length).map V.int)) :: (p1, .lst rvs) :: ex)) ?_ ?_)
          · walk_at "ob"
            refine ⟨fun hb => ?_, fun hb => ⟨(fun z => by cases z), fun _ => ?_⟩⟩
            · have hrw : r = .wait := rgt_wait (of_decide_eq_true hb)
              refine tw_test (ew_op ?_)
              walk_at "ob"
              refine hG.r_mac hd hs fun v dv => ?_
              refine ew_tup hd ?_
              walk_at "ob"
              refine ⟨by walk_at "ob_len", fun pe hpe => ?_⟩
              have hGe := hG.new' (o := .tup []) hpe
              refine rw_neD hd (d := macD ss) (e := .tuple []) (dp_ex hGe.own.ex dv) (.tup (SqT.of upd_same) .nil) (shaped_low (macD_low ss)) (shaped_low (n := 1) rfl) ?_
              rw [eqv_nilN]
              refine ⟨_, rfl, fun hb2 => ?_, fun hb2 => ?_⟩
              · have hne : ss ≠ [] := of_decide_eq_true hb2
                have eo : oldS wd r t ss m = od := by rw [hod hne]; exact if_pos hrw
                rw [eo]
                walk_at "ob"
                exact ⟨rfl, hGe⟩
              · have hne : ¬ ss ≠ [] := of_decide_eq_false hb2
                have eo : oldS wd r t ss m = 0 := (if_pos hrw).trans (if_neg fun z => hne z.2)
                rw [eo]
                walk_at "ob"
                exact ⟨rfl, hGe⟩
            · have hrw : r ≠ .wait := fun z => by subst z; exact absurd hb (by decide)
              have eo : oldS wd r t ss m = 0 := if_neg hrw
              rw [eo]
              walk_at "ob"
              exact ⟨rfl, hG⟩
          rintro σ _ G4 ⟨rfl, hG4⟩
          have hG := hG4
          refine sw_drop (ew_bmL hd ?_)
          walk_at "ob"
          refine ⟨p1, _, rfl, SqL.of (hG4.geti (i := 1) rfl), ?_⟩
          walk_at "ob"
          refine ⟨fun hb => ?_, fun hb => ?_⟩
          · have hov : m.over < t.beat := of_decide_eq_true hb
            have e1 := left_one hov
            · skip
              walk_at "ob"
              refine ⟨by walk_at "ob_len", fun pt hpt => ?_⟩
              have hG5 := hG4.new (o := .tup [V.int m.at_, V.int (-1), V.int (oldS wd r t ss m)]) hpt
              refine aw_nil (mw_append hd (hG5.geti (i := 1) rfl) (by omega) ?_)
              have hG6 := hG5.seti (i := 1) (a := p1) (o' := .lst (rvs ++ [V.ref pt])) rfl
              have gp : Ex Fr (upd Fr pt (.tup [V.int m.at_, V.int (-1), V.int (oldS wd r t ss m)])) := Ex.new (.refl _) (hG4.own.ex.free hpt)
              refine ⟨_, _, _, _, _, rfl, gr.trans gp, ?_, hG6⟩
              rw [List.take_succ, hz, List.map_append]
              refine dps_snoc (dps_ex gp hD) ?_
              show Dp K _ _ (rowS wd r t (m, ss))
              rw [rowS, left_one hov]
              exact .tup (SqT.of upd_same) (.cons (.int _) (.cons (.int _) (.cons (.int _) .nil)))
          · have hov : ¬ m.over < t.beat := of_decide_eq_false hb
            · skip
              walk_at "ob"
              refine ⟨by walk_at "ob_len", fun pt hpt => ?_⟩
              have hG5 := hG4.new (o := .tup [V.int m.at_, V.int (m.over - t.beat), V.int (oldS wd r t ss m)]) hpt
              refine aw_nil (mw_append hd (hG5.geti (i := 1) rfl) (by omega) ?_)
              have hG6 := hG5.seti (i := 1) (a := p1) (o' := .lst (rvs ++ [V.ref pt])) rfl
              have gp : Ex Fr (upd Fr pt (.tup [V.int m.at_, V.int (m.over - t.beat), V.int (oldS wd r t ss m)])) := Ex.new (.refl _) (hG4.own.ex.free hpt)
              refine ⟨_, _, _, _, _, rfl, gr.trans gp, ?_, hG6⟩
              rw [List.take_succ, hz, List.map_append]
              refine dps_snoc (dps_ex gp hD) ?_
              show Dp K _ _ (rowS wd r t (m, ss))
              rw [rowS, left_val hov]
              exact .tup (SqT.of upd_same) (.cons (.int _) (.cons (.int _) (.cons (.int _) .nil)))
        · rintro σ _ G ⟨z3, z4, z5, Fr, rvs, rfl, gr, hD, hG⟩
          rw [List.take_of_length_le (by rw [List.length_zip]; omega)] at hD
          exact ⟨_, _, _, Fr, rvs, rfl, gr, hD, hG⟩
      · rintro σ _ G ⟨z3, z4, z5, Fr, rvs, rfl, gr, hD, hG⟩
        show SW J _ _ _ _ _
        refine sw_ret (ew_tup hd ?_)
        walk_at "ob"
        refine ⟨fun hb => ?_, fun hb => ?_⟩
        · have hrt : r = .turns := rgt_turns (of_decide_eq_true hb)
          walk_at "ob"
          refine ⟨by walk_at "ob_len", fun pr hpr => ?_⟩
          have hH := hG.drop.freeze.new (o := .tup [V.int t.level, V.int t.last, V.ref p1]) hpr
          have g1 : Ex Fr (upd Fr p1 (.lst rvs)) := Ex.new (.refl _) (hG.drop.own.out (p1, .lst rvs) (List.mem_append_right _ (List.mem_cons_self ..)))
          have g2 : Ex (upd Fr p1 (.lst rvs)) (upd (upd Fr p1 (.lst rvs)) pr (.tup [V.int t.level, V.int t.last, V.ref p1])) := Ex.new (.refl _) (hG.drop.freeze.own.ex.free hpr)
          refine k _ _ _ (gr.trans (g1.trans g2)) hH ?_
          rw [lawS, if_pos hrt]
          exact .tup (SqT.of upd_same) (.cons (.int _) (.cons (.int _) (.cons (.lst (g2.sqL (SqL.of upd_same)) (dps_ex (g1.trans g2) hD)) .nil)))
        · have hrt : r ≠ .turns := fun z => by subst z; exact absurd hb (by decide)
          walk_at "ob"
          refine ⟨by walk_at "ob_len", fun pr hpr => ?_⟩
          have hH := hG.drop.freeze.new (o := .tup [V.int t.level, V.int (-1), V.ref p1]) hpr
          have g1 : Ex Fr (upd Fr p1 (.lst rvs)) := Ex.new (.refl _) (hG.drop.own.out (p1, .lst rvs) (List.mem_append_right _ (List.mem_cons_self ..)))
          have g2 : Ex (upd Fr p1 (.lst rvs)) (upd (upd Fr p1 (.lst rvs)) pr (.tup [V.int t.level, V.int (-1), V.ref p1])) := Ex.new (.refl _) (hG.drop.freeze.own.ex.free hpr)
          refine k _ _ _ (gr.trans (g1.trans g2)) hH ?_
          rw [lawS, if_neg hrt]
          exact .tup (SqT.of upd_same) (.cons (.int _) (.cons (.int _) (.cons (.lst (g2.sqL (SqL.of upd_same)) (dps_ex (g1.trans g2) hD)) .nil)))

end
end Obr
namespace Obr
open PySem L2 PyProof.Rows
/-! ### data of ints, lists and tuples: == is = -/
mutual
def plainD : PyData → Bool
  | .int _ => true
  | .list l => plainDs l
  | .tuple l => plainDs l
  | _ => false
def plainDs : List PyData → Bool
  | [] => true
  | d :: l => plainD d && plainDs l
end
mutual
theorem eqv_plain : ∀ (d e : PyData), plainD d = true → plainD e = true → (PyData.eqv d e = true ↔ d = e)
  | .int a, .int b, _, _ => by simp [PyData.eqv]
  | .int a, .list l, _, _ => by simp [PyData.eqv]
  | .int a, .tuple l, _, _ => by simp [PyData.eqv]
  | .list k, .int b, _, _ => by simp [PyData.eqv]
  | .list k, .list l, h1, h2 => by
    rw [plainD] at h1 h2
    simp only [PyData.eqv, PyData.list.injEq]
    exact eqv_plains k l h1 h2
  | .list k, .tuple l, _, _ => by simp [PyData.eqv]
  | .tuple k, .int b, _, _ => by simp [PyData.eqv]
  | .tuple k, .list l, _, _ => by simp [PyData.eqv]
  | .tuple k, .tuple l, h1, h2 => by
    rw [plainD] at h1 h2
    simp only [PyData.eqv, PyData.tuple.injEq]
    exact eqv_plains k l h1 h2
  | .none, _, h, _ => by simp [plainD] at h
  | .bool _, _, h, _ => by simp [plainD] at h
  | .str _, _, h, _ => by simp [plainD] at h
  | .dict _, _, h, _ => by simp [plainD] at h
  | _, .none, _, h => by simp [plainD] at h
  | _, .bool _, _, h => by simp [plainD] at h
  | _, .str _, _, h => by simp [plainD] at h
  | _, .dict _, _, h => by simp [plainD] at h
theorem eqv_plains : ∀ (k l : List PyData), plainDs k = true → plainDs l = true → (PyData.eqvAll k l = true ↔ k = l)
  | [], [], _, _ => by simp [PyData.eqvAll]
  | [], _ :: _, _, _ => by simp [PyData.eqvAll]
  | _ :: _, [], _, _ => by simp [PyData.eqvAll]
  | d :: k, e :: l, h1, h2 => by
    rw [plainDs, Bool.and_eq_true] at h1 h2
    simp only [PyData.eqvAll, Bool.and_eq_true, List.cons.injEq]
    rw [eqv_plain d e h1.1 h2.1, eqv_plains k l h1.2 h2.2]
end
theorem plain_map {α : Type} {f : α → PyData} (h : ∀ x, plainD (f x) = true) : ∀ l : List α, plainDs (l.map f) = true
  | [] => rfl
  | a :: l => by rw [List.map_cons, plainDs, h, plain_map h l]; rfl
theorem plain_lawS {w : Wld} {r : Rgt} {t : LSt} : plainD (lawS w r t) = true := by
  unfold lawS
  rw [plainD, plainDs, plainDs, plainDs, plainDs, plainD, plainD, plainD, plain_map (fun x => by unfold rowS; rw [plainD, plainDs, plainDs, plainDs, plainDs, plainD, plainD, plainD]; rfl)]
  rfl
/-- the states and the counts that the law keeps -/
structure Sts (w : Wld) (r : Rgt) (p : Bool) (n : Nat) (sds cds : List PyData) : Prop where
  ls : sds.length = n
  lc : cds.length = n
  at_ : ∀ i, i < n → ∃ ti, RPath w r p i ti ∧ sds[i]? = some (lawS w r ti) ∧ cds[i]? = some (talD (ti.ms.map Mac.done))
  apart : ∀ i j, 1 ≤ i → i < j → j < n → sds[i]? ≠ sds[j]?
theorem sts_zero {w : Wld} {r : Rgt} {p : Bool} : Sts w r p 0 [] [] := ⟨rfl, rfl, fun i h => by omega, fun i j _ _ h => by omega⟩
theorem Sts.snoc {w : Wld} {r : Rgt} {p : Bool} {n : Nat} {sds cds : List PyData} {t : LSt} (h : Sts w r p n sds cds) (hp : RPath w r p n t) (hn : ∀ i, 1 ≤ i → i < n → sds[i]? ≠ some (lawS w r t)) : Sts w r p (n + 1) (sds ++ [lawS w r t]) (cds ++ [talD (t.ms.map Mac.done)]) := by
  have l1 := h.ls
  have l2 := h.lc
  refine ⟨by rw [List.length_append, l1]; rfl, by rw [List.length_append, l2]; rfl, fun i hi => ?_, fun i j h1 h2 h3 => ?_⟩
  · by_cases e : i < n
    · obtain ⟨ti, a, b, c⟩ := h.at_ i e
      exact ⟨ti, a, by rw [List.getElem?_append_left (by omega)]; exact b, by rw [List.getElem?_append_left (by omega)]; exact c⟩
    · have : i = n := by omega
      subst this
      exact ⟨t, hp, by rw [List.getElem?_append_right (by omega), l1, Nat.sub_self]; rfl, by rw [List.getElem?_append_right (by omega), l2, Nat.sub_self]; rfl⟩
  · rw [List.getElem?_append_left (by omega : i < sds.length)]
    by_cases e : j < n
    · rw [List.getElem?_append_left (by omega)]
      exact h.apart i j h1 h2 e
    · have : j = n := by omega
      subst this
      rw [List.getElem?_append_right (by omega), l1, Nat.sub_self]
      exact hn i h1 (by omega)
theorem draws_ks {w : Wld} {p : Bool} : ∀ (ts : List Clm) (x : LSt × List Int × Bool), (∀ k ∈ x.2.1, (0 : Int) ≤ k) → (∀ c ∈ ts, 0 ≤ c.k) → ∀ k ∈ (ts.foldl (lDraw w p) x).2.1, (0 : Int) ≤ k
  | [], x, h, _ => h
  | c :: ts, x, h, hc => by
    rw [List.foldl_cons]
    refine draws_ks ts _ (fun k hk => ?_) fun a ha => hc a (List.mem_cons_of_mem _ ha)
    unfold lDraw at hk
    have h0 := hc c (List.mem_cons_self ..)
    split at hk
    · split at hk
      · split at hk
        · rcases List.mem_append.mp hk with z | z
          · exact h k z
          · rw [List.mem_singleton.mp z]; exact h0
        · exact h k hk
      · exact h k hk
    · exact h k hk
theorem beat_last {w : Wld} {r : Rgt} {p anew : Bool} {t t' : LSt} {lv : Int} {bg : List Int} (h : LBeat w r p anew t t' lv bg) (hl : -1 ≤ t.last) : -1 ≤ t'.last := by
  obtain ⟨ts, hts, e1, e2, _⟩ := h.ex
  have hk : ∀ k ∈ bg, (0 : Int) ≤ k := by
    rw [e1]
    exact draws_ks ts _ (fun k hk => by cases hk) fun c hc => (lClaims_k0 (hts.perm.mem_iff.mp hc)).1
  rw [e2]
  unfold lLast
  show -1 ≤ (if bg.isEmpty then _ else bg.getLastD 0)
  split
  · show -1 ≤ (lDraws w p ts (lFill w (lEnds w anew t w.ms.length))).1.last
    unfold lDraws
    rw [(lDraws_beat ts).2, lFill_last, lEnds_last]
    exact hl
  · have : bg.getLastD 0 ∈ bg ∨ bg.getLastD 0 = 0 := by
      cases bg with
      | nil => exact Or.inr rfl
      | cons a l => exact Or.inl (by rw [List.getLastD_cons]; exact List.getLastD_mem_cons ..)
    rcases this with z | z
    · have := hk _ z; omega
    · omega
theorem RPath.last {w : Wld} {r : Rgt} {p : Bool} : ∀ {n t}, RPath w r p n t → -1 ≤ t.last
  | _, _, .zero => by show (-1 : Int) ≤ -1; decide
  | _, _, .succ h b => beat_last b h.last
theorem Sts.round {w : Wld} (hw : WldOk w) {r : Rgt} {p : Bool} {n j : Nat} {sds cds : List PyData} {t : LSt} (h : Sts w r p n sds cds) (hp : RPath w r p n t) (h1 : 1 ≤ j) (h2 : j < n) (h3 : sds[j]? = some (lawS w r t)) (hn : n ≤ 5000) : Round w r p j n := by
  refine ⟨h1, h2, hn, ?_, fun i k a b c ti tk pi pk e => ?_⟩
  · obtain ⟨tj, pj, e1, _⟩ := h.at_ j h2
    rw [h3] at e1
    exact ⟨tj, t, pj, hp, lawS_pic pj.ok hp.ok (pj.rinv hw) (hp.rinv hw) (Option.some.inj e1).symm⟩
  · obtain ⟨ui, qi, e1, _⟩ := h.at_ i (by omega)
    obtain ⟨uk, qk, e2, _⟩ := h.at_ k c
    obtain rfl := pi.uniq qi
    obtain rfl := pk.uniq qk
    refine h.apart i k a b c ?_
    rw [e1, e2, pic_lawS pi.ok pk.ok (pi.rinv hw) (pk.rinv hw) pi.last pk.last e]
end Obr
namespace Obr
open PySem L2 PyProof.Rows
section
variable {S : Type} {J : S → Hp → Hp → Prop} {K : PySem.W.Frag} {s : S} {F : Hp} {R : V → S → Hp → Prop}
theorem rw_inD (hd : Hid J) {x y : V} {d : PyData} {ds : List PyData} (h1 : Dp K F x d) (h2 : Dp K F y (.list ds)) (s1 : SeqAt.shaped d = true) (s2 : SeqAt.shaped (.list ds) = true) (h : R (.bl (ds.any fun z => PyData.eqv z d)) s F) : RW J (rInD K) x y s F R := fun H j Q q =>
  ⟨d, ds, dp_ex (hd.ex j) h1, dp_ex (hd.ex j) h2, s1, s2, q _ _ _ _ j h⟩
theorem mw_indexD (hd : Hid J) {a : Addr} {y : V} {d : PyData} {ds : List PyData} {i : Nat} {z : PyData} (h1 : Dp K F (.ref a) (.list ds)) (h2 : Dp K F y d) (s1 : SeqAt.shaped (.list ds) = true) (s2 : SeqAt.shaped d = true) (e1 : ds[i]? = some z) (e2 : PyData.eqv z d = true) (e3 : ∀ (m : Nat) (z' : PyData), m < i → ds[m]? = some z' → PyData.eqv z' d = false) (h : R (.int (i : Nat)) s F) : MW J (rIndexD K) (.ref a) [y] s F R := fun H j Q q =>
  ⟨a, y, d, ds, i, z, rfl, rfl, dp_ex (hd.ex j) h1, dp_ex (hd.ex j) h2, s1, s2, e1, e2, e3, q _ _ _ _ j h⟩
end
theorem cutV_tail {xs : List V} : cutV xs (some 1) none = xs.drop 1 := by
  cases xs with
  | nil => rfl
  | cons a l => exact cutV_one a l
theorem dps_drop1 {K : PySem.W.Frag} {F : Hp} {vs : List V} {ds : List PyData} (h : DpAll K F vs ds) : DpAll K F (vs.drop 1) (ds.drop 1) := by
  cases h with
  | nil => exact .nil
  | cons a b => exact b
theorem low_lawS {w : Wld} {r : Rgt} {t : LSt} : lowD 3 (lawS w r t) = true := by
  have h1 : lowD 2 (.list ((t.ms.zip w.ms).map (rowS w r t))) = true := by
    show (((t.ms.zip w.ms).map (rowS w r t)).all (lowD 1)) = true
    rw [List.all_eq_true]
    intro d hd
    obtain ⟨x, _, rfl⟩ := List.mem_map.mp hd
    rfl
  show ([PyData.int t.level, .int (if r = .turns then t.last else -1), .list ((t.ms.zip w.ms).map (rowS w r t))].all (lowD 2)) = true
  rw [List.all_cons, List.all_cons, List.all_cons, h1]
  rfl
theorem Sts.isS {w : Wld} {r : Rgt} {p : Bool} {n : Nat} {sds cds : List PyData} (h : Sts w r p n sds cds) : ∀ d ∈ sds, ∃ t, d = lawS w r t := fun d hd => by
  obtain ⟨i, hi⟩ := List.mem_iff_getElem?.mp hd
  have hlt : i < n := by rw [← h.ls]; exact (List.getElem?_eq_some_iff.mp hi).1
  obtain ⟨t, _, e, _⟩ := h.at_ i hlt
  rw [hi] at e
  exact ⟨t, Option.some.inj e⟩
theorem Sts.low {w : Wld} {r : Rgt} {p : Bool} {n : Nat} {sds cds : List PyData} (h : Sts w r p n sds cds) : lowD 4 (.list (sds.drop 1)) = true := by
  show ((sds.drop 1).all (lowD 3)) = true
  rw [List.all_eq_true]
  intro d hd
  obtain ⟨t, rfl⟩ := h.isS d (List.mem_of_mem_drop hd)
  exact low_lawS
/-- here in states[1:], and where -/
theorem Sts.seen {w : Wld} {r : Rgt} {p : Bool} {n : Nat} {sds cds : List PyData} (h : Sts w r p n sds cds) {t : LSt} (hb : ((sds.drop 1).any fun z => PyData.eqv z (lawS w r t)) = true) :
    ∃ i : Nat, (sds.drop 1)[i]? = some (lawS w r t) ∧ (∀ (m : Nat) (z' : PyData), m < i → (sds.drop 1)[m]? = some z' → PyData.eqv z' (lawS w r t) = false) ∧ i + 1 < n ∧ sds[i + 1]? = some (lawS w r t) := by
  rw [List.any_eq_true] at hb
  obtain ⟨z, hz, he⟩ := hb
  obtain ⟨tz, rfl⟩ := h.isS z (List.mem_of_mem_drop hz)
  have ez := (eqv_plain _ _ plain_lawS plain_lawS).mp he
  rw [ez] at hz
  obtain ⟨i, hi, hm⟩ := @first_ix PyData (fun a b => Classical.propDecidable _) _ _ hz
  have e1 : sds[i + 1]? = some (lawS w r t) := by rw [List.getElem?_drop] at hi; rw [Nat.add_comm]; exact hi
  refine ⟨i, hi, fun m z' hlt hz' => ?_, ?_, e1⟩
  · obtain ⟨t', rfl⟩ := h.isS z' (List.mem_of_mem_drop (List.mem_of_getElem? hz'))
    cases c : PyData.eqv (lawS w r t') (lawS w r t) with
    | false => rfl
    | true => exact absurd ((eqv_plain _ _ plain_lawS plain_lawS).mp c) (hm m _ hlt hz')
  · rw [← h.ls]
    exact (List.getElem?_eq_some_iff.mp e1).1
theorem Sts.unseen {w : Wld} {r : Rgt} {p : Bool} {n : Nat} {sds cds : List PyData} (_ : Sts w r p n sds cds) {t : LSt} (hb : ((sds.drop 1).any fun z => PyData.eqv z (lawS w r t)) = false) : ∀ i, 1 ≤ i → i < n → sds[i]? ≠ some (lawS w r t) := fun i h1 _ e => by
  have hm : lawS w r t ∈ sds.drop 1 := by
    refine List.mem_of_getElem? (i := i - 1) ?_
    rw [List.getElem?_drop, show 1 + (i - 1) = i from by omega]
    exact e
  have : ((sds.drop 1).any fun z => PyData.eqv z (lawS w r t)) = true := by
    rw [List.any_eq_true]
    exact ⟨_, hm, (eqv_plain _ _ plain_lawS plain_lawS).mpr rfl⟩
  rw [this] at hb
  cases hb
end Obr
namespace Obr
open PySem L2 PyProof.Rows
/-! ### the counts that the law keeps are the tallies -/
theorem Sts.tal {w : Wld} {r : Rgt} {p : Bool} {n : Nat} {sds cds : List PyData} {t : LSt} (h : Sts w r p n sds cds) (hp : RPath w r p n t) : ∃ TS : List (List Int), cds ++ [talD (t.ms.map Mac.done)] = TS.map talD ∧ TalOk w r p n TS := by
  have step : ∀ (m : Nat) (TS : List (List Int)) (tm : LSt), TS.length = m → (∀ i ti, i < m → RPath w r p i ti → TS[i]? = some (ti.ms.map Mac.done)) → RPath w r p m tm → ∀ i ti, i < m + 1 → RPath w r p i ti → (TS ++ [tm.ms.map Mac.done])[i]? = some (ti.ms.map Mac.done) := fun m TS tm hl hT pm i ti hi pi => by
    by_cases e : i < m
    · rw [List.getElem?_append_left (by omega)]
      exact hT i ti e pi
    · have : i = m := by omega
      subst this
      obtain rfl := pi.uniq pm
      rw [List.getElem?_append_right (by omega), hl, Nat.sub_self]
      rfl
  have all : ∀ m, m ≤ n → ∃ TS : List (List Int), TS.length = m ∧ cds.take m = TS.map talD ∧ ∀ i ti, i < m → RPath w r p i ti → TS[i]? = some (ti.ms.map Mac.done) := fun m => by
    induction m with
    | zero => exact fun _ => ⟨[], rfl, rfl, fun i _ z => by omega⟩
    | succ m ih =>
      intro hm
      obtain ⟨TS, e1, e2, e3⟩ := ih (by omega)
      obtain ⟨tm, pm, _, e⟩ := h.at_ m (by omega)
      refine ⟨TS ++ [tm.ms.map Mac.done], by rw [List.length_append, e1]; rfl, by rw [List.take_succ, e, e2, List.map_append]; rfl, step m TS tm e1 e3 pm⟩
  obtain ⟨TS, e1, e2, e3⟩ := all n (Nat.le_refl _)
  refine ⟨TS ++ [t.ms.map Mac.done], ?_, by rw [List.length_append, e1]; rfl, fun i ti hi => step n TS t e1 e3 hp i ti (by omega)⟩
  rw [← List.take_of_length_le (Nat.le_of_eq h.lc), e2, List.map_append]
  rfl
theorem tal_uniq {w : Wld} {r : Rgt} {p : Bool} {n : Nat} {t : LSt} (hp : RPath w r p n t) {TS TS' : List (List Int)} (h : TalOk w r p n TS) (h' : TalOk w r p n TS') : TS = TS' := by
  refine List.ext_getElem? fun i => ?_
  by_cases e : i ≤ n
  · obtain ⟨ti, pi⟩ := hp.back i e
    rw [h.2 i ti e pi, h'.2 i ti e pi]
  · rw [List.getElem?_eq_none (by rw [h.1]; omega), List.getElem?_eq_none (by rw [h'.1]; omega)]
theorem zip_zero : ∀ (xs ys : List Int), xs.length = ys.length → List.zipWith (fun x y => x + 0 * y) xs ys = xs
  | [], [], _ => rfl
  | x :: xs, y :: ys, h => by
    rw [List.zipWith_cons_cons, zip_zero xs ys (by simpa using h), Int.zero_mul, Int.add_zero]
  | [], _ :: _, h => by simp at h
  | _ :: _, [], h => by simp at h
/-- the law's own sum is what after tells -/
theorem aft_law {w : Wld} {r : Rgt} {p : Bool} {n j : Nat} {t tj : LSt} {TS : List (List Int)} (hP : RPath w r p n t) (hT : TalOk w r p n TS) (pj : RPath w r p j tj) (jn : j < n) {many at_ : Nat} (hat : (many ≤ n ∧ at_ = many) ∨ (n < many ∧ at_ = j + (many - j) % (n - j))) :
    ∃ ta, RPath w r p at_ ta ∧ at_ ≤ n ∧ TS[at_]? = some (ta.ms.map Mac.done) ∧ aft TS j n many = some (zadd (((many : Int) - at_) / ((n : Int) - j)) (ta.ms.map Mac.done) (zsub (tj.ms.map Mac.done) (t.ms.map Mac.done))) := by
  have hmod : (many - j) % (n - j) < n - j := Nat.mod_lt _ (by omega)
  have hle : at_ ≤ n := by omega
  obtain ⟨ta, pa⟩ := hP.back at_ hle
  refine ⟨ta, pa, hle, hT.2 _ _ hle pa, ?_⟩
  rcases hat with ⟨h1, rfl⟩ | ⟨h1, e⟩
  · unfold aft
    rw [if_pos h1, hT.2 _ _ hle pa, Int.sub_self, Int.zero_ediv]
    unfold zadd
    rw [zip_zero _ _ (by rw [zsub_len pj.ok.len hP.ok.len, List.length_map, pa.ok.len])]
  · unfold aft
    rw [if_neg (by omega), hT.2 _ _ (by omega) pj, hT.2 _ _ (Nat.le_refl _) hP, ← e, hT.2 _ _ hle pa]
    simp only []
    have hdm := Nat.div_add_mod (many - j) (n - j)
    have eq1 : (many : Int) - at_ = ((n : Int) - j) * (((many - j) / (n - j) : Nat) : Int) := by
      have e2 : (many - j : Nat) = (n - j) * ((many - j) / (n - j)) + (at_ - j) := by omega
      have e3 : ((many - j : Nat) : Int) = ((n - j : Nat) : Int) * (((many - j) / (n - j) : Nat) : Int) + ((at_ - j : Nat) : Int) := by exact_mod_cast e2
      have e4 : ((n - j : Nat) : Int) = (n : Int) - j := by omega
      rw [e4] at e3
      omega
    rw [eq1, Int.mul_ediv_cancel_left _ (by omega)]
theorem zadd_get {m x y : Int} {xs ys : List Int} {k : Nat} (h1 : xs[k]? = some x) (h2 : ys[k]? = some y) : (zadd m xs ys)[k]? = some (x + m * y) := by
  unfold zadd
  rw [List.getElem?_zipWith, h1, h2]
theorem zadd_len {m : Int} {xs ys : List Int} (h : xs.length = ys.length) : (zadd m xs ys).length = ys.length := by
  unfold zadd
  rw [List.length_zipWith, h, Nat.min_self]
end Obr
namespace Obr
open PySem PySem.Spec L2 LamX NdefX PyProof.Rows
local macro_rules | `(tactic| walk_at "ob_wat") => `(tactic| first
  | with_reducible refine WAt.g_store (by assumption) ?_
  | with_reducible refine WAt.g_machines (by assumption) ?_
  | with_reducible refine WAt.g_rule (by assumption) ?_
  | with_reducible refine WAt.g_level (by assumption) ?_
  | with_reducible refine WAt.g_at (by assumption) ?_
  | with_reducible refine WAt.g_over (by assumption) ?_
  | with_reducible refine WAt.g_since (by assumption) ?_
  | with_reducible refine WAt.g_last (by assumption) ?_
  | with_reducible refine WAt.g_beat (by assumption) ?_
  | with_reducible refine WAt.g_done (by assumption) ?_
  | with_reducible refine WAt.g_waits (by assumption) ?_
  | with_reducible refine WAt.g_ends (by assumption) ?_
  | ((with_reducible refine' WAt.r_at_ (t := ?_) (m := ?_) ?obw ?obd ?obm ?_); (case obw => assumption); (case obd => assumption); (case obm => assumption))
  | ((with_reducible refine' WAt.r_over (t := ?_) (m := ?_) ?obw ?obd ?obm ?_); (case obw => assumption); (case obd => assumption); (case obm => assumption))
  | ((with_reducible refine' WAt.r_since (t := ?_) (m := ?_) ?obw ?obd ?obm ?_); (case obw => assumption); (case obd => assumption); (case obm => assumption))
  | ((with_reducible refine' WAt.r_done (t := ?_) (m := ?_) ?obw ?obd ?obm ?_); (case obw => assumption); (case obd => assumption); (case obm => assumption))
  | ((with_reducible refine' WAt.r_waits (t := ?_) (m := ?_) ?obw ?obd ?obm ?_); (case obw => assumption); (case obd => assumption); (case obm => assumption))
  | ((with_reducible refine' WAt.r_right ?obw ?obd ?_); (case obw => assumption); (case obd => assumption))
  | ((with_reducible refine' WAt.r_pass ?obw ?obd ?_); (case obw => assumption); (case obd => assumption)))
local macro_rules | `(tactic| walk_at "ob_at") => `(tactic| first
  | assumption
  | exact upd_same
  | (refine Eq.trans (upd_ne ?obn) ?obr; (case obn => walk_at "ob_ne"); (case obr => walk_at "ob_at")))
local macro_rules | `(tactic| walk_at "ob_ne") => `(tactic| first
  | assumption
  | (refine Ne.symm ?obs; (case obs => assumption))
  | (refine' ne_of_none (H := ?_) ?obe ?obh; (case obh => assumption); (case obe => walk_at "ob_at"))
  | (refine Ne.symm ?obs; (case obs => (refine' ne_of_none (H := ?_) ?obe ?obh; (case obh => assumption); (case obe => walk_at "ob_at")))))
local macro_rules | `(tactic| walk_at "ob_fr") => `(tactic| first
  | assumption
  | (refine Eq.trans (upd_ne ?obn) ?obr; (case obn => walk_at "ob_ne"); (case obr => walk_at "ob_fr"))
  | (refine Ex.free (G := ?_) (by assumption) ?obh; (case obh => walk_at "ob_fr")))
local macro_rules | `(tactic| walk_at "ob_ex") => `(tactic| first
  | assumption
  | exact Ex.refl _
  | (refine Ex.out ?obg ?obh; (case obh => assumption); (case obg => walk_at "ob_ex"))
  | (refine Ex.new ?obg ?obh; (case obh => assumption); (case obg => walk_at "ob_ex"))
  | (refine Ex.new ?obg ?obh; (case obh => walk_at "ob_fr"); (case obg => walk_at "ob_ex")))
local macro_rules | `(tactic| walk_at "ob_sq") => `(tactic| first
  | assumption
  | (refine SqL.of ?oba; (case oba => walk_at "ob_at"))
  | (refine Ex.sqT (F := ?_) ?obg ?obh; (case obh => assumption); (case obg => walk_at "ob_ex"))
  | (refine Ex.sqL (F := ?_) ?obg ?obh; (case obh => assumption); (case obg => walk_at "ob_ex"))
  | (refine SqT.of ?oba; (case oba => walk_at "ob_at")))
local macro_rules | `(tactic| walk_at "ob_side") => `(tactic| first | exact rfl | assumption | decide | omega | exact ⟨by decide, by decide, by decide⟩ | exact Or.inr ⟨by decide, by decide⟩ | exact Or.inl ⟨by decide, by decide⟩ | exact wide_div (b := 60) (by first | decide | omega) (by first | decide | omega) (by decide) (by decide))
local macro_rules | `(tactic| walk_at "ob1") => `(tactic| first
  | walk_at "ob_wat"
  | with_reducible refine sw_seq ?_
  | with_reducible refine sw_asg ?_
  | with_reducible refine sw_ret ?_
  | with_reducible refine sw_par ?_
  | with_reducible refine ⟨_, _, rfl, ?_⟩
  | with_reducible refine sw_drop ?_
  | with_reducible refine sw_if ?_
  | with_reducible refine sw_next ?_
  | with_reducible refine gw_name ?_
  | with_reducible refine gw_subL (by assumption) ?_
  | with_reducible refine gsw_cons ?_
  | with_reducible refine gsw_nil ?_
  | with_reducible refine ew_c ?_
  | ((with_reducible refine' ew_var (v := ?_) ?obv ?_); (case obv => exact rfl))
  | ((with_reducible refine ew_next (by assumption) ?obv ?_); (case obv => exact rfl))
  | ((with_reducible refine ew_world (by assumption) ?obv ?_); (case obv => exact rfl))
  | ((with_reducible refine ew_rule (by assumption) ?obv ?_); (case obv => exact rfl))
  | with_reducible refine ew_op ?_
  | with_reducible refine ew_un ?_
  | with_reducible refine ew_dget (by assumption) ?_
  | with_reducible refine uw_I ?_
  | with_reducible refine ppw_nil ?_
  | with_reducible refine ppw_cons ?_
  | with_reducible refine sw_dput (by assumption) ?_
  | with_reducible refine ew_cb ?_
  | with_reducible refine ew_if ?_
  | with_reducible refine ew_slL (by assumption) ?_
  | with_reducible refine ow_some ?_
  | with_reducible refine ow_none ?_
  | with_reducible refine aw_nil ?_
  | with_reducible refine aw_cons ?_
  | with_reducible refine rw_I0 ?_
  | ((with_reducible refine rw_I ?obc ?_); (case obc => walk_at "ob_side"))
  | with_reducible refine rw_isN ?_
  | with_reducible refine rw_notN ?_
  | ((with_reducible refine rw_eq ?obc ?_); (case obc => exact rfl))
  | ((with_reducible refine rw_ne ?obc ?_); (case obc => exact rfl))
  | with_reducible refine cw_max2 ?_
  | with_reducible refine cw_min2 ?_
  | with_reducible refine tw_test ?_
  | with_reducible refine tw_B ?_
  | with_reducible refine tw_not ?_
  | with_reducible refine tw_truB ?_
  | with_reducible refine tw_and ?_
  | with_reducible refine tw_or ?_
  | with_reducible refine ew_and ?_
  | (refine' Exists.intro _ (And.intro (show V.bl _ = V.bl _ from rfl) ?_))
  | (refine' Exists.intro _ (And.intro (show V.int _ = V.int _ from rfl) ?_))
  | ((with_reducible refine' rw_ixL (v := ?_) (xs := ?_) (by assumption) ?obl ?oba ?_); (case obl => walk_at "ob_sq"); (case oba => first | exact rfl | exact at_zero))
  | ((with_reducible refine' rw_ixT (v := ?_) (xs := ?_) (by assumption) ?obl ?oba ?_); (case obl => walk_at "ob_sq"); (case oba => first | exact rfl | exact at_zero))
  | ((with_reducible refine' ew_lst (by assumption) ?_))
  | ((with_reducible refine' ew_tup (by assumption) ?_)))
local macro_rules | `(tactic| walk_at "ob_len") => `(tactic| first | exact Nat.le_of_ble_eq_true rfl | (simp; done) | omega)
local macro_rules | `(tactic| walk_at "ob") => `(tactic| repeat walk_at "ob1")

/-! ### the law -/
def aLaw (K : PySem.W.Frag) (Pt : Addr) : List V → Hp → VK → Prop := fun vs F R => ∃ (a : Addr) (ns : List Int), vs = [.ref a] ∧ SqL K F a (ns.map V.int) ∧ ns.length ≤ 63 ∧ F Pt = some (.tbl #[]) ∧ ∀ F', R (.bl true) F'
section
variable {P : Program} {w : World} {K : PySem.W.Frag} {mg : Str → Option Value} {base : Heap}

def N_law : List Str := ["_law_script", "_law_h", "_law_turn_here", "_law_world_here", "_law_rule_here", "_law_w", "_law_states", "_law_counts", "_law_met_at", "_law_here", "_law_size", "_law_due", "_law_time", "_law_many", "_law_at", "_law_times", "_law_found", "_law_far", "_law_works", "_law_k", "_law_call"]
theorem sc_law : FnScope N_law ["_law_script"] (defScope s_law) := ⟨rfl, rfl, rfl, by decide +kernel, rfl, by decide +kernel, by decide +kernel⟩
theorem ok_law {f : Addr} {fd : FuncData} {f1 f2 f3 f4 f5 f6 f7 f8 f9 f10 f11 : Addr} {fd1 fd2 fd3 fd4 fd5 fd6 fd7 fd8 fd9 fd10 fd11 : FuncData} {cBadCount cLaw Pt : Addr} (Fn : Fun K "law" "law" s_law f fd) (B : Blt mg) (C_law_mix : Cal K mg "_law_mix" f1 fd1 ["_law_script", "_law_seed"]) (G_law_mix : FnOk P w K mg base CX0 1 f1 fd1 ["_law_script", "_law_seed"] (LS (aMix K))) (C_law_world : Cal K mg "_law_world" f2 fd2 ["_law_h", "_law_most", "_law_cap"]) (G_law_world : FnOk P w K mg base CX0 2 f2 fd2 ["_law_h", "_law_most", "_law_cap"] (LN (aWorld K))) (C_law_next : Cal K mg "_law_next" f3 fd3 ["_law_h", "_law_many"]) (G_law_next : FnOk P w K mg base CX0 1 f3 fd3 ["_law_h", "_law_many"] (LN aNext)) (C_law_rule : Cal K mg "_law_rule" f4 fd4 ["_law_h"]) (G_law_rule : FnOk P w K mg base CX0 2 f4 fd4 ["_law_h"] (LN (aRule K))) (C_law_begun : Cal K mg "_law_begun" f5 fd5 ["_law_world_here", "_law_rule_here"]) (G_law_begun : FnOk P w K mg base CX0 1 f5 fd5 ["_law_world_here", "_law_rule_here"] (LS (aBegun K))) (C_law_beat : Cal K mg "_law_beat" f6 fd6 ["_law_w", "_law_anew"]) (G_law_beat : FnOk P w K mg base CX0 2 f6 fd6 ["_law_w", "_law_anew"] (LS (aBeat K))) (C_law_alike : Cal K mg "_law_alike" f7 fd7 ["_law_found", "_law_due"]) (G_law_alike : FnOk P w K mg base CX0 4 f7 fd7 ["_law_found", "_law_due"] (LS (aAlike K 4))) (Cafter : Cal K mg "after" f8 fd8 ["world", "rule", "many"]) (Gafter : FnOk P w K mg base CX0 8 f8 fd8 ["world", "rule", "many"] (LS (aAfterP K))) (Cperiod : Cal K mg "period" f9 fd9 ["world", "rule"]) (Gperiod : FnOk P w K mg base CX0 8 f9 fd9 ["world", "rule"] (LS (aPeriodP K))) (C_law_state : Cal K mg "_law_state" f10 fd10 ["_law_w"]) (G_law_state : FnOk P w K mg base CX0 1 f10 fd10 ["_law_w"] (LS (aState K))) (GafterX : FnOk P w K mg base (L2.CX P w) 8 f8 fd8 ["world", "rule", "many"] (LX (aAfterBad K cBadCount))) (C_law_kind : Cal K mg "_law_kind" f11 fd11 ["_law_call"]) (G_law_kind : GOk P w K mg base C8.CX0 (L2.CX P w) 10 9 f11 (kindT cBadCount)) (TB : TabB base mg cLaw Pt) (hcd : fd.code = .ref cLaw) : FnOk P w K mg base CX0 11 f fd ["_law_script"] (LS (aLaw K Pt)) := by
  refine Fun.okC Fn sc_law (fun vs H Q E h => ?_) (fun cdv hcdv A outer s H vs Q E hr h => ?_)
  · obtain ⟨J, F, R, hd, j, h, _⟩ := h
    obtain ⟨a, ns, rfl, _⟩ := h
    rfl
  · have nd := sc_law.nd
    obtain ⟨J, F, R, hd, j, h, q⟩ := h
    obtain ⟨a, ns, rfl, hl, hn, hPt, k⟩ := h
    have hcode0 : cdv = .ref cLaw := hcdv.symm.trans hcd
    subst hcode0
    have hcode : (cxOf CX0 P w K mg base N_law "law" (defScope s_law) f (.ref cLaw) A outer s H E).nox.env.code = .ref cLaw := rfl
    refine ⟨_, (pss_cons (ps_set (i := 1) nd rfl (Or.inl rfl) (pe_call G_law_mix (by exact hr.mono (by decide)) (by rfl) C_law_mix.g C_law_mix.k C_law_mix.a .nil pass0 (pa_cons (pv 0) (pa_cons pe_int pa_nil))))
      (pss_cons (ps_for PassesOwn.never rfl (pi_range1 rfl B.range (pa_cons pe_int pa_nil)) (pg_name (i := 2) nd rfl (Or.inl rfl)) (pss_cons (ps_asg (pe_tup (pa_cons (pe_call G_law_world (by exact hr.mono (by decide)) (by rfl) C_law_world.g C_law_world.k C_law_world.a .nil pass0 (pa_cons (pv 1) (pa_cons pe_int (pa_cons (pe_ix ix_list (pe_lst (pa_cons pe_int (pa_cons pe_int pa_nil))) (pe_call G_law_next (by exact hr.mono (by decide)) (by rfl) C_law_next.g C_law_next.k C_law_next.a .nil pass0 (pa_cons (pv 1) (pa_cons pe_int pa_nil))) (fun _ _ => rfl)) pa_nil)))) (pa_cons (pe_call G_law_rule (by exact hr.mono (by decide)) (by rfl) C_law_rule.g C_law_rule.k C_law_rule.a .nil pass0 (pa_cons (pv 1) pa_nil)) pa_nil))) (pg_tup rfl (pgs_cons (pg_name (i := 3) nd rfl (Or.inr rfl)) (pgs_cons (pg_name (i := 4) nd rfl (Or.inr rfl)) pgs_nil))))
      (pss_cons (ps_asg (pe_tup (pa_cons (pe_call G_law_begun (by exact hr.mono (by decide)) (by rfl) C_law_begun.g C_law_begun.k C_law_begun.a .nil pass0 (pa_cons (pv 3) (pa_cons (pv 4) pa_nil))) (pa_cons (pe_lst pa_nil) (pa_cons (pe_lst pa_nil) pa_nil)))) (pg_tup rfl (pgs_cons (pg_name (i := 5) nd rfl (Or.inl rfl)) (pgs_cons (pg_name (i := 6) nd rfl (Or.inl rfl)) (pgs_cons (pg_name (i := 7) nd rfl (Or.inr rfl)) pgs_nil)))))
      (pss_cons (ps_set (i := 8) nd rfl (Or.inr rfl) pe_non)
      (pss_cons (ps_while PassesOwn.never (PW.pt (pw_and (pt_cmpR op_isN (pv 8) pe_non (nomark _)) (pw_and1 (pt_cmpR op_lt (pe_callB call_len_seq (by rfl) B.len (by decide +kernel) (pa_cons (pv 6) pa_nil)) pe_int (nomark _))))) (pss_cons (ps_expr (pe_bm PySem.F.plainAttrs_list PySem.F.slot_list_append PySem.F.type_list_append mt_append (pv 6) (pa_cons (pe_call G_law_state (by exact hr.mono (by decide)) (by rfl) C_law_state.g C_law_state.k C_law_state.a .nil pass0 (pa_cons (pv 5) pa_nil)) pa_nil)))
      (pss_cons (ps_expr (pe_bm PySem.F.plainAttrs_list PySem.F.slot_list_append PySem.F.type_list_append mt_append (pv 7) (pa_cons (pe_callTy call_tuple_of (by rfl) B.tuple (by decide +kernel) (pa_cons (pe_dget (hu_of hr) (pv 5) pe_str (fun _ _ => rfl)) pa_nil)) pa_nil)))
      (pss_cons (ps_expr (pe_call G_law_beat (by exact hr.mono (by decide)) (by rfl) C_law_beat.g C_law_beat.k C_law_beat.a .nil pass0 (pa_cons (pv 5) (pa_cons pe_bl pa_nil))))
      (pss_cons (ps_set (i := 9) nd rfl (Or.inl rfl) (pe_call G_law_state (by exact hr.mono (by decide)) (by rfl) C_law_state.g C_law_state.k C_law_state.a .nil pass0 (pa_cons (pv 5) pa_nil)))
      (pss_one (ps_set (i := 8) nd rfl (Or.inr rfl) (pe_ifExp (pt_cmpR (op_inD (by exact hr.u65)) (pv 9) (pe_slice sl_list (pv 6) (po_some pe_int) po_none) (by rfl)) (pe_op op_add (pe_bm PySem.F.plainAttrs_list PySem.F.slot_list_index PySem.F.type_list_index (mt_indexD (by exact hr.u65)) (pe_slice sl_list (pv 6) (po_some pe_int) po_none) (pa_cons (pv 9) pa_nil)) pe_int) pe_non))))))))
      (pss_cons (ps_if (pt_cmpR op_notN (pv 8) pe_non (nomark _)) (pss_cons (ps_expr (pe_bm PySem.F.plainAttrs_list PySem.F.slot_list_append PySem.F.type_list_append mt_append (pv 7) (pa_cons (pe_callTy call_tuple_of (by rfl) B.tuple (by decide +kernel) (pa_cons (pe_dget (hu_of hr) (pv 5) pe_str (fun _ _ => rfl)) pa_nil)) pa_nil)))
      (pss_cons (ps_set (i := 10) nd rfl (Or.inl rfl) (pe_op op_sub (pe_callB call_len_seq (by rfl) B.len (by decide +kernel) (pa_cons (pv 6) pa_nil)) (pv 8)))
      (pss_cons (ps_set (i := 11) nd rfl (Or.inr rfl) (pe_callTy call_tuple_of (by rfl) B.tuple (by decide +kernel) (pa_cons (pe_lc (own := [("_law_k", 19)]) (te := (tOp (rI0 fun i j => .int (i - j)) (tOp (rIxT K) (tOp (rIxL K) (tVar 7) (tUn (rU fun i => V.int (-i)) (tC (.int 1)))) (tVar 19)) (tOp (rIxT K) (tOp (rIxL K) (tVar 7) (tVar 8)) (tVar 19)))) (tt := tYes) (by rfl) nd (pi_range1 rfl B.range (pa_cons (pe_callB call_len_seq (by rfl) B.len (by decide +kernel) (pa_cons (pe_ix ix_tup (pv 3) pe_int (fun _ _ => rfl)) pa_nil)) pa_nil)) (blkOk_by (own := [("_law_k", 19)]) (N := N_law) (sc := defScope s_law) (by decide +kernel)) (fun _ _ _ _ _ => (pg_name (i := 19) nd rfl (Or.inl rfl))) (fun _ _ _ _ _ => pts_nil) (fun _ _ _ _ _ => (pe_op op_sub (pe_ix ix_tup (pe_ix ix_list (pv 7) (pe_un un_neg pe_int) (fun _ _ => rfl)) (pv 19) (fun _ _ => rfl)) (pe_ix ix_tup (pe_ix ix_list (pv 7) (pv 8) (fun _ _ => rfl)) (pv 19) (fun _ _ => rfl))))) pa_nil)))
      (pss_cons (ps_if (pt_not (pt_val (pe_call G_law_alike (by exact hr.mono (by decide)) (by rfl) C_law_alike.g C_law_alike.k C_law_alike.a .nil pass0 (pa_cons (pe_call Gperiod (by exact hr.mono (by decide)) (by rfl) Cperiod.g Cperiod.k Cperiod.a .nil pass0 (pa_cons (pv 3) (pa_cons (pv 4) pa_nil))) (pa_cons (pe_tup (pa_cons (pv 8) (pa_cons (pv 10) (pa_cons (pv 11) pa_nil)))) pa_nil))))) (pss_one (ps_ret pe_bl)) pss_nil)
      (pss_one (ps_for PassesOwn.never rfl (pi_range1 rfl B.range (pa_cons pe_int pa_nil)) (pg_name (i := 12) nd rfl (Or.inl rfl)) (pss_cons (ps_set (i := 13) nd rfl (Or.inl rfl) (pe_ix ix_list (pe_lst (pa_cons (pe_call G_law_next (by exact hr.mono (by decide)) (by rfl) C_law_next.g C_law_next.k C_law_next.a .nil pass0 (pa_cons (pv 1) (pa_cons (pe_op op_add (pe_callB call_len_seq (by rfl) B.len (by decide +kernel) (pa_cons (pv 7) pa_nil)) pe_int) pa_nil))) (pa_cons (pe_call G_law_next (by exact hr.mono (by decide)) (by rfl) C_law_next.g C_law_next.k C_law_next.a .nil pass0 (pa_cons (pv 1) (pa_cons (pe_op op_add (pe_op op_pow pe_int pe_int) pe_int) pa_nil))) (pa_cons (pe_op op_pow pe_int pe_int) pa_nil)))) (pe_call G_law_next (by exact hr.mono (by decide)) (by rfl) C_law_next.g C_law_next.k C_law_next.a .nil pass0 (pa_cons (pv 1) (pa_cons pe_int pa_nil))) (fun _ _ => rfl)))
      (pss_cons (ps_set (i := 14) nd rfl (Or.inr rfl) (pe_ifExp (pt_cmpR op_lt (pv 13) (pe_callB call_len_seq (by rfl) B.len (by decide +kernel) (pa_cons (pv 7) pa_nil)) (nomark _)) (pv 13) (pe_op op_add (pv 8) (pe_op op_mod (pe_op op_sub (pv 13) (pv 8)) (pv 10)))))
      (pss_cons (ps_set (i := 15) nd rfl (Or.inr rfl) (pe_op op_fdiv (pe_op op_sub (pv 13) (pv 14)) (pv 10)))
      (pss_cons (ps_setLc (i := 16) rfl nd rfl rfl (sw_true rfl rfl rfl (by decide +kernel)) (own := [("_law_k", 19)]) (te := (tOp (rI0 fun i j => .int (i + j)) (tOp (rIxT K) (tOp (rIxL K) (tVar 7) (tVar 14)) (tVar 19)) (tOp (rI CMul fun i j => .int (i * j)) (tVar 15) (tOp (rIxT K) (tVar 11) (tVar 19))))) (tt := tYes) (pi_range1 rfl B.range (pa_cons (pe_callB call_len_seq (by rfl) B.len (by decide +kernel) (pa_cons (pv 11) pa_nil)) pa_nil)) (blkOk_by (own := [("_law_k", 19)]) (N := N_law) (sc := defScope s_law) (by decide +kernel)) (fun _ _ _ _ _ => (pg_name (i := 19) nd rfl (Or.inl rfl))) (fun _ _ _ _ _ => pts_nil) (fun _ _ _ _ _ => (pe_op op_add (pe_ix ix_tup (pe_ix ix_list (pv 7) (pv 14) (fun _ _ => rfl)) (pv 19) (fun _ _ => rfl)) (pe_op op_mul (pv 15) (pe_ix ix_tup (pv 11) (pv 19) (fun _ _ => rfl))))))
      (pss_one (ps_if (pt_not (pt_val (pe_call G_law_alike (by exact hr.mono (by decide)) (by rfl) C_law_alike.g C_law_alike.k C_law_alike.a .nil pass0 (pa_cons (pe_call Gafter (by exact hr.mono (by decide)) (by rfl) Cafter.g Cafter.k Cafter.a .nil pass0 (pa_cons (pv 3) (pa_cons (pv 4) (pa_cons (pv 13) pa_nil)))) (pa_cons (pv 16) pa_nil))))) (pss_one (ps_ret pe_bl)) pss_nil)))))))))))) pss_nil)
      (pss_cons (ps_set (i := 17) nd rfl (Or.inr rfl) (pe_call G_law_next (by exact hr.mono (by decide)) (by rfl) C_law_next.g C_law_next.k C_law_next.a .nil pass0 (pa_cons (pv 1) (pa_cons (pe_ix ix_list (pe_lst (pa_cons pe_int (pa_cons (pe_op op_pow pe_int pe_int) pa_nil))) (pe_call G_law_next (by exact hr.mono (by decide)) (by rfl) C_law_next.g C_law_next.k C_law_next.a .nil pass0 (pa_cons (pv 1) (pa_cons pe_int pa_nil))) (fun _ _ => rfl)) pa_nil))))
      (pss_cons (ps_set (i := 18) nd rfl (Or.inl rfl) (pe_lst (pa_cons (pe_lamb (T := lamT Pt) (nm := fun _ _ => lamQ) TB hcode (List.mem_singleton_self _) (by rfl) (fun p hp hq => by rw [List.mem_singleton.mp hp]) (ndef_free (nsc := lamScope lam1) (sc := defScope s_law) (fr := ["_law_world_here", "_law_rule_here", "_law_far"]) (by decide +kernel)) (by rfl)) (pa_cons (pe_lambD (T := lamT Pt) (nm := fun _ _ => lamQ) TB hcode (List.mem_singleton_self _) (by rfl) (fun p hp hq => by rw [List.mem_singleton.mp hp]) (ndef_free (nsc := lamScope lam2) (sc := defScope s_law) (fr := ["_law_world_here", "_law_rule_here", "_law_far"]) (by decide +kernel)) (by rfl) (by rfl) pe_int) pa_nil))))
      (pss_one (ps_if (pt_cmpR (op_neD (by exact hr.units)) (pe_kcomp rfl (pv 18) (by decide +kernel) (by rfl) (by decide +kernel) (nofree (by decide +kernel)) (by rfl) (by rfl) C_law_kind.g C_law_kind.k G_law_kind hr (Nat.le_refl _)) (pe_op op_rep (pe_lst (pa_cons (pe_tup (pa_cons pe_str (pa_cons pe_int pa_nil))) pa_nil)) pe_int) (nomark _)) (pss_one (ps_ret pe_bl)) pss_nil))))))))))
      (pss_one (ps_ret pe_bl)))), ?_⟩
    refine LS.body j q ?_
    refine sw_seq (sw_asg (ew_call hd ?_))
    walk_at "ob"
    refine ⟨a, ns, 11, rfl, hl, by decide, by decide, fun m c hh m0 m1 hc hh0 hne => gw_name ?_⟩
    refine sw_hide hc hh0 hne m0 m1 hn (fun _ F => k F) ?_
    have hdj := hd.hj (h := hh) (c := c)
    have hT0 : TabsN (lamT Pt) F := fun p hp => by rw [List.mem_singleton.mp hp]; exact TabN.nil hPt
    refine sw_seq ?_
    refine sw_mid (fun σ _ G => (∃ (x2 x3 x4 x5 x6 x7 x8 x9 x10 x11 x12 x13 x14 x15 x16 x17 x18 x19 x20 : Option V), σ = [some (.ref a), some (.ref hh), x2, x3, x4, x5, x6, x7, x8, x9, x10, x11, x12, x13, x14, x15, x16, x17, x18, x19, x20]) ∧ TabsN (lamT Pt) G) ?_ ?_
    · refine sw_forR1 ?_
      walk_at "ob"
      refine ⟨3, fun i σ _ G => (∃ (x2 x3 x4 x5 x6 x7 x8 x9 x10 x11 x12 x13 x14 x15 x16 x17 x18 x19 x20 : Option V), σ = [some (.ref a), some (.ref hh), x2, x3, x4, x5, x6, x7, x8, x9, x10, x11, x12, x13, x14, x15, x16, x17, x18, x19, x20]) ∧ TabsN (lamT Pt) G, rfl, by decide, by decide, ⟨⟨_, _, _, _, _, _, _, _, _, _, _, _, _, _, _, _, _, _, _, rfl⟩, hT0⟩, ?_, ?_⟩
      · rintro i σ _ F2 hi ⟨⟨x2, x3, x4, x5, x6, x7, x8, x9, x10, x11, x12, x13, x14, x15, x16, x17, x18, x19, x20, rfl⟩, hT⟩
        refine gw_name ?_
        refine sw_seq (sw_asg (ew_tup hdj ?_))
        walk_at "ob"
        refine ⟨by decide, by decide, ?_⟩
        refine ew_op (ew_lst hdj ?_)
        walk_at "ob"
        refine ⟨by walk_at "ob_len", fun p0 hp0 => ?_⟩
        walk_at "ob"
        refine ⟨by decide, by decide, fun rr r0 r1 => ?_⟩
        obtain ⟨cap, hcap, c0, c1⟩ : ∃ cap : Int, atI [V.int 6, V.int 20] rr = some (V.int cap) ∧ 1 ≤ cap ∧ cap ≤ 99 := by
          have : rr = 0 ∨ rr = 1 := by omega
          rcases this with rfl | rfl
          · exact ⟨6, rfl, by decide, by decide⟩
          · exact ⟨20, rfl, by decide, by decide⟩
        have gp0 := Ex.new (.refl F2) hp0 (u := .lst [V.int 6, V.int 20])
        refine rw_ixL hdj (SqL.of upd_same) hcap ?_
        refine ⟨cap, rfl, c0, c1, fun wv F3 wd g1 dw hw hwc hwn hws => ?_⟩
        walk_at "ob"
        refine fun rv F4 r p g2 dr => ?_
        walk_at "ob"
        refine ⟨by walk_at "ob_len", fun pt hpt => ?_⟩
        have gpt := Ex.new (.refl F4) hpt (u := .tup [wv, rv])
        refine gw_tup hdj ⟨pt, _, rfl, SqT.of upd_same, rfl, gsw_cons (gw_name (gsw_cons (gw_name (gsw_nil ?_))))⟩
        have g24 : Ex F2 (upd F4 pt (.tup [wv, rv])) := gp0.trans (g1.trans (g2.trans gpt))
        have dW : Dp K (upd F4 pt (.tup [wv, rv])) wv (wldD wd) := dp_ex (g2.trans gpt) dw
        have dR : Dp K (upd F4 pt (.tup [wv, rv])) rv (rulD r p) := dp_ex gpt dr
        generalize (upd F4 pt (.tup [wv, rv])) = F5 at g24 dW dR ⊢
        have hm5 := hw.m
        refine sw_seq (sw_asg (ew_tup hdj (aw_cons (ew_call hdj ?_))))
        walk_at "ob"
        refine ⟨wv, rv, wd, r, p, rfl, dW, dR, by omega, fun ss h => by have := hws ss h; omega, fun F0 F6 A g3 hG => ?_⟩
        refine aw_cons (ew_lst hdj ?_)
        walk_at "ob"
        refine ⟨by walk_at "ob_len", fun sl hsl => ?_⟩
        have hG1 := hG.more (o := .lst []) hsl
        walk_at "ob"
        refine ⟨by walk_at "ob_len", fun cl hcl => ?_⟩
        have hG2 := hG1.more (o := .lst []) hcl
        walk_at "ob"
        refine ⟨by walk_at "ob_len", fun pu hpu => ?_⟩
        have hG3 := hG2.new' (o := .tup [V.ref A.w, .ref sl, .ref cl]) hpu
        refine gw_tup hdj ⟨pu, _, rfl, SqT.of upd_same, rfl, gsw_cons (gw_name (gsw_cons (gw_name (gsw_cons (gw_name (gsw_nil ?_))))))⟩
        refine sw_seq (sw_asg ?_)
        walk_at "ob"
        refine sw_mid (fun σ _ G => ∃ (n : Nat) (t : LSt) (sds cds : List PyData) (sv cv : List V) (mv : V) (Fk : Hp) (y9 : Option V), σ = [some (.ref a), some (.ref hh), some (.int i), some wv, some rv, some (.ref A.w), some (.ref sl), some (.ref cl), some mv, y9, x10, x11, x12, x13, x14, x15, x16, x17, x18, x19, x20] ∧ RPath wd r p n t ∧ Sts wd r p n sds cds ∧ n ≤ 900 ∧ Ex F0 Fk ∧ DpAll K Fk sv sds ∧ DpAll K Fk cv cds ∧ WAt K Fk G A t wd r p [(cl, .lst cv), (sl, .lst sv)] ∧ ((mv = .non ∧ ∀ i, 1 ≤ i → i < n → sds[i]? ≠ some (lawS wd r t)) ∨ ∃ j : Nat, mv = .int j ∧ 1 ≤ j ∧ j < n ∧ sds[j]? = some (lawS wd r t))) ?_ ?_
        · refine (sw_while (fun mm σ _ G => ∃ (n : Nat) (t : LSt) (sds cds : List PyData) (sv cv : List V) (mv : V) (Fk : Hp) (y9 : Option V), σ = [some (.ref a), some (.ref hh), some (.int i), some wv, some rv, some (.ref A.w), some (.ref sl), some (.ref cl), some mv, y9, x10, x11, x12, x13, x14, x15, x16, x17, x18, x19, x20] ∧ RPath wd r p n t ∧ Sts wd r p n sds cds ∧ n ≤ 900 ∧ Ex F0 Fk ∧ DpAll K Fk sv sds ∧ DpAll K Fk cv cds ∧ WAt K Fk G A t wd r p [(cl, .lst cv), (sl, .lst sv)] ∧ ((mv = .non ∧ ∀ i, 1 ≤ i → i < n → sds[i]? ≠ some (lawS wd r t)) ∨ ∃ j : Nat, mv = .int j ∧ 1 ≤ j ∧ j < n ∧ sds[j]? = some (lawS wd r t)) ∧ mm = 900 - n) _ ⟨0, lBegun wd, [], [], [], [], .non, F0, x9, rfl, .zero, sts_zero, by omega, .refl _, .nil, .nil, hG3, Or.inl ⟨rfl, fun i _ h => by omega⟩, rfl⟩ ?_)
          rintro mm σ _ G ⟨n, t, sds, cds, sv, cv, mv, Fk, y9, rfl, hP, hS, hn9, gk, dS, dC, hX, hmet, rfl⟩
          refine tw_and (tw_test ?_)
          walk_at "ob"
          have lsv : sv.length = n := (dps_len dS).trans hS.ls
          have lcv : cv.length = n := (dps_len dC).trans hS.lc
          refine ⟨fun hb => ?_, fun hb => ?_⟩
          · refine tw_test (ew_op ?_)
            walk_at "ob"
            refine cw_lenS hdj (Or.inl (SqL.of (hX.geti (i := 1) rfl))) ?_
            walk_at "ob"
            refine ⟨fun hb2 => ?_, fun hb2 => ?_⟩
            · have hn : n < 900 := by have := of_decide_eq_true hb2; omega
              have hun : ∀ i, 1 ≤ i → i < n → sds[i]? ≠ some (lawS wd r t) := by
                rcases hmet with ⟨_, z⟩ | ⟨j, e, _⟩
                · exact z
                · rw [e] at hb; simp at hb
              refine sw_seq (sw_drop (ew_bmL hdj ?_))
              walk_at "ob"
              refine ⟨sl, sv, rfl, SqL.of (hX.geti (i := 1) rfl), aw_cons (ew_call hdj ?_)⟩
              walk_at "ob"
              refine ⟨Fk, A, t, wd, r, p, _, rfl, hX, hP.ok, hP.rinv hw, hm5, fun Fk1 G1 v1 gk1 hX1 d1 => aw_nil ?_⟩
              refine mw_append hdj (hX1.geti (i := 1) rfl) (by omega) ?_
              have hX2 := hX1.seti (i := 1) (a := sl) (o' := .lst (sv ++ [v1])) rfl
              refine sw_seq (sw_drop (ew_bmL hdj ?_))
              walk_at "ob"
              refine ⟨cl, cv, rfl, SqL.of (hX2.geti (i := 0) rfl), aw_cons (ew_cb (aw_cons ?_))⟩
              walk_at "ob"
              refine cw_tuple hdj (SqL.of (hX2.own.get (i := 4) rfl)) fun pt2 hpt2 => aw_nil ?_
              have hX3 := hX2.new (o := .tup (t.ms.map fun m => .int m.done)) hpt2
              have gk2 : Ex Fk1 (upd Fk1 pt2 (.tup (t.ms.map fun m => .int m.done))) := Ex.new (.refl _) (hX2.own.ex.free hpt2)
              have dpt : Dp K (upd Fk1 pt2 (.tup (t.ms.map fun m => .int m.done))) (.ref pt2) (talD (t.ms.map Mac.done)) := .tup (SqT.of upd_same) (by rw [show (t.ms.map fun m => V.int m.done) = (t.ms.map Mac.done).map V.int from by rw [List.map_map]; rfl]; exact dps_ints)
              refine mw_append hdj (hX3.geti (i := 0) rfl) (by omega) ?_
              have hX4 := hX3.seti (i := 0) (a := cl) (o' := .lst (cv ++ [V.ref pt2])) rfl
              have dS2 := dps_snoc (dps_ex (gk1.trans gk2) dS) (dp_ex gk2 d1)
              have dC2 := dps_snoc (dps_ex (gk1.trans gk2) dC) dpt
              have gkA := gk.trans (gk1.trans gk2)
              generalize (upd Fk1 pt2 (.tup (t.ms.map fun m => .int m.done))) = Fk2 at hX3 hX4 gk2 dpt dS2 dC2 gkA
              refine sw_seq (sw_drop (ew_call hdj ?_))
              walk_at "ob"
              refine ⟨Fk2, A, t, wd, r, p, true, _, rfl, hX4, hP.ok, hm5, fun Fk3 G3 v3 t' lv bg gk3 hX5 hB hok' _ => ?_⟩
              have hP' := RPath.succ hP hB
              have hS' := hS.snoc hP hun
              refine sw_seq (sw_asg (ew_call hdj ?_))
              walk_at "ob"
              refine ⟨Fk3, A, t', wd, r, p, _, rfl, hX5, hP'.ok, hP'.rinv hw, hm5, fun Fk4 G4 v4 gk4 hX6 d4 => gw_name ?_⟩
              have dS4 := dps_ex (gk3.trans gk4) dS2
              have dC4 := dps_ex (gk3.trans gk4) dC2
              have gkB := gkA.trans (gk3.trans gk4)
              have dH : ∀ (G : Hp) (ps : Addr), Ex Fk4 G → Dp K (upd G ps (.lst (cutV (sv ++ [v1]) (some 1) none))) (.ref ps) (.list ((sds ++ [lawS wd r t]).drop 1)) ∨ G ps ≠ none := fun G ps g => by
                by_cases e : G ps = none
                · refine Or.inl (.lst (SqL.of upd_same) ?_)
                  rw [cutV_tail]
                  exact dps_drop1 (dps_ex (g.trans (Ex.new (.refl _) e)) dS4)
                · exact Or.inr e
              refine sw_asg (ew_if (tw_test (ew_op ?_)))
              walk_at "ob"
              refine ⟨sl, _, rfl, SqL.of (hX6.geti (i := 1) rfl), fun ps hps => ?_⟩
              have hX7 := hX6.new' (o := .lst (cutV (sv ++ [v1]) (some 1) none)) hps
              refine rw_inD hdj (d := lawS wd r t') (ds := (sds ++ [lawS wd r t]).drop 1) (dp_ex hX7.own.ex d4) ((dH _ ps hX6.own.ex).resolve_right fun z => z hps) (shaped_low low_lawS) (shaped_low hS'.low) ?_
              refine ⟨_, rfl, fun hb3 => ?_, fun hb3 => ?_⟩
              · obtain ⟨ix, e1, e2, e3, e4⟩ := hS'.seen hb3
                refine ew_op (ew_bmL hdj (ew_slL hdj ?_))
                walk_at "ob"
                refine ⟨sl, _, rfl, SqL.of (hX7.geti (i := 1) rfl), fun ps2 hps2 => ?_⟩
                have hX8 := hX7.new' (o := .lst (cutV (sv ++ [v1]) (some 1) none)) hps2
                refine ⟨ps2, _, rfl, SqL.of upd_same, ?_⟩
                walk_at "ob"
                refine mw_indexD hdj ((dH _ ps2 hX7.own.ex).resolve_right fun z => z hps2) (dp_ex hX8.own.ex d4) (shaped_low hS'.low) (shaped_low low_lawS) e1 ((eqv_plain _ _ plain_lawS plain_lawS).mpr rfl) e2 ?_
                walk_at "ob"
                exact ⟨_, by omega, n + 1, t', _, _, _, _, .int ((ix + 1 : Nat) : Int), Fk4, some v4, rfl, hP', hS', by omega, gkB, dS4, dC4, hX8, Or.inr ⟨ix + 1, rfl, by omega, e3, e4⟩, rfl⟩
              · walk_at "ob"
                exact ⟨_, by omega, n + 1, t', _, _, _, _, .non, Fk4, some v4, rfl, hP', hS', by omega, gkB, dS4, dC4, hX7, Or.inl ⟨rfl, hS'.unseen hb3⟩, rfl⟩
            · exact ⟨n, t, sds, cds, sv, cv, mv, Fk, y9, rfl, hP, hS, hn9, gk, dS, dC, hX, hmet⟩
          · exact ⟨(fun z => by cases z), fun _ => ⟨n, t, sds, cds, sv, cv, mv, Fk, y9, rfl, hP, hS, hn9, gk, dS, dC, hX, hmet⟩⟩
        · rintro σ _ G ⟨n, t, sds, cds, sv, cv, mv, Fk, y9, rfl, hP, hS, hn9, gk, dS, dC, hX, hmet⟩
          refine sw_seq ?_
          refine sw_mid (fun σ _ G => (∃ (y5 y6 y7 y8 y9 y10 y11 y12 y13 y14 y15 y16 y17 y18 y19 y20 : Option V), σ = [some (.ref a), some (.ref hh), some (.int i), some wv, some rv, y5, y6, y7, y8, y9, y10, y11, y12, y13, y14, y15, y16, y17, y18, y19, y20]) ∧ Ex F5 G) ?_ ?_
          · have hbt := hP.beat
            have g5G : Ex F5 G := g3.trans (gk.trans hX.own.ex)
            have lsv : sv.length = n := (dps_len dS).trans hS.ls
            have lcv : cv.length = n := (dps_len dC).trans hS.lc
            rcases hmet with ⟨rfl, _⟩ | ⟨j, rfl, j1, jn, hj⟩
            · refine sw_if (tw_test (ew_op ?_))
              walk_at "ob"
              exact ⟨(fun z => by cases z), fun _ => sw_next ⟨⟨_, _, _, _, _, _, _, _, _, _, _, _, _, _, _, _, rfl⟩, g5G⟩⟩
            have hR := hS.round hw hP j1 jn hj (by omega)
            obtain ⟨TS, eTS, hT0⟩ := hS.tal hP
            refine sw_if (tw_test (ew_op ?_))
            walk_at "ob"
            refine ⟨fun _ => ?_, (fun z => by cases z)⟩
            refine sw_seq (sw_drop (ew_bmL hdj ?_))
            walk_at "ob"
            refine ⟨cl, cv, rfl, SqL.of (hX.geti (i := 0) rfl), aw_cons (ew_cb (aw_cons ?_))⟩
            walk_at "ob"
            refine cw_tuple hdj (SqL.of (hX.own.get (i := 4) rfl)) fun pt2 hpt2 => aw_nil ?_
            have hX3 := hX.new (o := .tup (t.ms.map fun m => .int m.done)) hpt2
            have gk2 : Ex Fk (upd Fk pt2 (.tup (t.ms.map fun m => .int m.done))) := Ex.new (.refl _) (hX.own.ex.free hpt2)
            have dpt : Dp K (upd Fk pt2 (.tup (t.ms.map fun m => .int m.done))) (.ref pt2) (talD (t.ms.map Mac.done)) := .tup (SqT.of upd_same) (by rw [show (t.ms.map fun m => V.int m.done) = (t.ms.map Mac.done).map V.int from by rw [List.map_map]; rfl]; exact dps_ints)
            refine mw_append hdj (hX3.geti (i := 0) rfl) (by omega) ?_
            have hX4 := hX3.seti (i := 0) (a := cl) (o' := .lst (cv ++ [V.ref pt2])) rfl
            have dC2 := dps_snoc (dps_ex gk2 dC) dpt
            have gkA := gk.trans gk2
            generalize (upd Fk pt2 (.tup (t.ms.map fun m => .int m.done))) = Fk2 at hX3 hX4 gk2 dpt dC2 gkA
            rw [eTS] at dC2
            have lC : SqL K _ cl (cv ++ [V.ref pt2]) := SqL.of (hX4.geti (i := 0) rfl)
            have lcv2 : (cv ++ [V.ref pt2]).length = n + 1 := by rw [List.length_append, lcv]; rfl
            have dC3 := dps_ex hX4.own.ex dC2
            have lS3 : SqL K _ sl sv := SqL.of (hX4.geti (i := 1) rfl)
            have g5H := g3.trans (gkA.trans hX4.own.ex)
            clear hX3 hX gk2 dpt gk
            generalize (upd (upd G pt2 _) cl _) = G1 at lC dC3 lS3 g5H hX4 ⊢
            refine sw_seq (sw_asg (ew_op ?_))
            walk_at "ob"
            refine cw_lenS hdj (Or.inl lS3) ?_
            walk_at "ob"
            rw [lsv]
            obtain ⟨tj, pj, _, _⟩ := hS.at_ j jn
            have hE : Ends22 wd r p j n tj t := ⟨hR, pj, hP⟩
            obtain ⟨eTj, eTn⟩ := tal_gain hT0 jn pj hP
            have oj := pj.ok.len
            have ot := hP.ok.len
            obtain ⟨vj, gvj, dvj⟩ := dps_get dC3 (d := talD (tj.ms.map Mac.done)) (by rw [List.getElem?_map, eTj]; rfl)
            obtain ⟨vn, gvn, dvn⟩ := dps_get dC3 (d := talD (t.ms.map Mac.done)) (by rw [List.getElem?_map, eTn]; rfl)
            have evn : vn = .ref pt2 := by
              rw [List.getElem?_append_right (by omega), lcv, Nat.sub_self] at gvn
              exact (Option.some.inj gvn).symm
            subst evn
            obtain ⟨aj, xj, rfl, lj, daj⟩ := dp_tup dvj
            obtain ⟨an, xn, ean, ln, dan⟩ := dp_tup dvn
            cases ean
            obtain rfl := dps_ints_iff daj
            obtain rfl := dps_ints_iff dan
            obtain ⟨wa, wxs, rfl, lx, dxs⟩ := dp_tup dW
            obtain ⟨sv0, mv0, rfl, dsv, dmv⟩ := dps2 dxs
            obtain ⟨ma, zs, rfl, lz, dzs⟩ := dp_tup dmv
            have hzl : zs.length = wd.ms.length := by have := dps_len dzs; simpa using this
            refine ew_lcR hdj ?_
            walk_at "ob"
            refine cw_lenS hdj (Or.inr (g5H.sqT lz)) ?_
            walk_at "ob"
            refine ⟨(wd.ms.length : Int), by rw [hzl], by omega, by omega, fun Dl hDl => ?_⟩
            refine ⟨fun k acc _ G => G = G1 ∧ acc = ((zsub (tj.ms.map Mac.done) (t.ms.map Mac.done)).take k).map V.int, ⟨rfl, rfl⟩, ?_, ?_, ?_⟩
            · rintro k acc _ G hk hg ⟨rfl, rfl⟩
              rw [List.length_map, List.length_take]
              omega
            · rintro k acc _ G hk hg ⟨rfl, rfl⟩
              have hd' := hdj.jd (D := Dl) (acc := ((zsub (tj.ms.map Mac.done) (t.ms.map Mac.done)).take k).map V.int)
              have hkl : k < wd.ms.length := by omega
              obtain ⟨mj, hmj⟩ := ms_both' oj (List.getElem?_eq_getElem hkl)
              obtain ⟨mt, hmt⟩ := ms_both' ot (List.getElem?_eq_getElem hkl)
              refine gw_name ⟨rfl, ?_⟩
              refine tw_yes ⟨fun _ => ?_, (fun z => by cases z)⟩
              refine ew_op (ew_op (ew_op ?_))
              walk_at "ob"
              refine rw_ixL hd' lC (L2.atI_last _ _) ?_
              walk_at "ob"
              refine rw_ixT hd' ln (atI_nat (by rw [List.getElem?_map, List.getElem?_map, hmt]; rfl)) ?_
              refine ew_op (ew_op ?_)
              walk_at "ob"
              refine rw_ixL hd' lC (atI_nat gvj) ?_
              walk_at "ob"
              refine rw_ixT hd' lj (atI_nat (by rw [List.getElem?_map, List.getElem?_map, hmj]; rfl)) ?_
              walk_at "ob"
              refine ⟨rfl, ?_⟩
              rw [List.take_succ, zsub_get oj ot hmj hmt, List.map_append]
              rfl
            rintro acc _ G hg ⟨rfl, rfl⟩
            have hzs := zsub_len oj ot
            rw [Int.toNat_natCast, List.take_of_length_le (Nat.le_of_eq hzs)]
            refine aw_nil (cw_tuple hdj (SqL.of upd_same) fun pd hpd => gw_name ?_)
            have gDl := (Ex.new (.refl G) hDl (u := .lst ((zsub (tj.ms.map Mac.done) (t.ms.map Mac.done)).map V.int)))
            have gpd := Ex.new (.refl _) hpd (u := .tup ((zsub (tj.ms.map Mac.done) (t.ms.map Mac.done)).map V.int))
            have gGH := gDl.trans gpd
            have lD : SqT K (upd (upd G Dl (.lst ((zsub (tj.ms.map Mac.done) (t.ms.map Mac.done)).map V.int))) pd (.tup ((zsub (tj.ms.map Mac.done) (t.ms.map Mac.done)).map V.int))) pd ((zsub (tj.ms.map Mac.done) (t.ms.map Mac.done)).map V.int) := SqT.of upd_same
            have g5I := g5H.trans gGH
            generalize (upd (upd G Dl _) pd _) = G2 at gGH lD g5I ⊢
            clear gpd
            refine sw_seq (sw_if (tw_not (tw_test (ew_call hdj ?_))))
            walk_at "ob"
            refine ew_call hdj ?_
            walk_at "ob"
            refine ⟨.ref wa, rv, wd, r, p, rfl, dp_ex g5I dW, dp_ex g5I dR, hw, ⟨j, n, hR⟩, fun qp F12 n1 n2 u1 u2 hE1 g12 dq => ?_⟩
            obtain ⟨z1, z2⟩ := hR.uniq hE1.R
            subst z1 z2
            have z3 := pj.uniq hE1.h1
            have z4 := hP.uniq hE1.h2
            subst z3 z4
            walk_at "ob"
            refine ⟨by walk_at "ob_len", fun p3 hp3 => ?_⟩
            have gp3 := Ex.new (.refl F12) hp3 (u := .tup [.int (j : Int), .int ((n : Int) - (j : Int)), .ref pd])
            have dper : Dp K (upd F12 p3 (.tup [.int (j : Int), .int ((n : Int) - (j : Int)), .ref pd])) (.ref p3) (perD j n tj t) := .tup (SqT.of upd_same) (.cons (.int _) (.cons (.int _) (.cons (.tup ((g12.trans gp3).sqT lD) dps_ints) .nil)))
            walk_at "ob"
            have hsz : szD 3 (perD j n tj t) = true := by
              have h1 : szD 2 (.tuple ((zsub (tj.ms.map Mac.done) (t.ms.map Mac.done)).map PyData.int)) = true := by
                show (decide (((zsub (tj.ms.map Mac.done) (t.ms.map Mac.done)).map PyData.int).length ≤ 1000) && ((zsub (tj.ms.map Mac.done) (t.ms.map Mac.done)).map PyData.int).all (szD 1)) = true
                rw [Bool.and_eq_true, decide_eq_true_iff, List.length_map]
                refine ⟨by omega, ?_⟩
                rw [List.all_eq_true]
                intro d hd1
                obtain ⟨y, _, rfl⟩ := List.mem_map.mp hd1
                rfl
              show (decide (([PyData.int (j : Int), .int ((n : Int) - j), .tuple ((zsub (tj.ms.map Mac.done) (t.ms.map Mac.done)).map PyData.int)]).length ≤ 1000) && ([PyData.int (j : Int), .int ((n : Int) - j), .tuple ((zsub (tj.ms.map Mac.done) (t.ms.map Mac.done)).map PyData.int)]).all (szD 2)) = true
              rw [List.all_cons, List.all_cons, List.all_cons, h1]
              rfl
            refine ⟨.ref qp, .ref p3, perD j n tj t, rfl, dp_ex gp3 dq, dper, hsz, fun F13 g13 => ⟨_, rfl, (fun z => by cases z), fun _ => sw_next ?_⟩⟩
            have gIJ := g12.trans (gp3.trans g13)
            have g5J := g5I.trans gIJ
            have lC5 := (gGH.trans gIJ).sqL lC
            have dC5 := dps_ex (gGH.trans gIJ) dC3
            have lD5 := gIJ.sqT lD
            clear lC dC3 lD lS3 dper
            refine sw_forR1 ?_
            walk_at "ob"
            refine ⟨4, fun q σ _ G => ∃ (z12 z13 z14 z15 z16 z17 z18 z19 z20 : Option V), σ = [some (.ref a), some (.ref hh), some (.int i), some (.ref wa), some rv, some (.ref A.w), some (.ref sl), some (.ref cl), some (.int (j : Int)), y9, some (.int ((n : Int) - (j : Int))), some (.ref pd), z12, z13, z14, z15, z16, z17, z18, z19, z20] ∧ Ex F13 G, rfl, by decide, by decide, ⟨_, _, _, _, _, _, _, _, _, rfl, .refl _⟩, ?_, ?_⟩
            · rintro q σ _ G hq ⟨z12, z13, z14, z15, z16, z17, z18, z19, z20, rfl, gq⟩
              refine gw_name ?_
              refine sw_seq (sw_asg (ew_op (ew_lst hdj ?_)))
              walk_at "ob"
              refine cw_lenS hdj (Or.inl (gq.sqL lC5)) ?_
              walk_at "ob"
              rw [lcv2]
              refine ⟨by omega, by omega, fun ra ra0 ra1 => ?_⟩
              walk_at "ob"
              refine ⟨by decide, by decide, fun rb rb0 rb1 => ?_⟩
              walk_at "ob"
              refine ⟨by walk_at "ob_len", fun pm hpm => ?_⟩
              walk_at "ob"
              refine ⟨by decide, by decide, fun rc rc0 rc1 => ?_⟩
              have e12 : ((10 : Int) ^ (12 : Int).toNat) = 1000000000000 := rfl
              obtain ⟨many, hmany, m1⟩ : ∃ many : Nat, atI [V.int ra, V.int rb, V.int (10 ^ Int.toNat 12)] rc = some (V.int (many : Int)) ∧ many ≤ 1000000000000 := by
                have : rc = 0 ∨ rc = 1 ∨ rc = 2 := by omega
                rcases this with rfl | rfl | rfl
                · exact ⟨ra.toNat, by rw [Int.toNat_of_nonneg ra0]; rfl, by omega⟩
                · exact ⟨rb.toNat, by rw [Int.toNat_of_nonneg rb0]; rfl, by omega⟩
                · exact ⟨1000000000000, rfl, Nat.le_refl _⟩
              refine rw_ixL hdj (SqL.of upd_same) hmany ?_
              have gqm := gq.trans (Ex.new (.refl G) hpm (u := .lst [V.int ra, V.int rb, V.int (10 ^ Int.toNat 12)]))
              generalize (upd G pm (.lst [V.int ra, V.int rb, V.int (10 ^ Int.toNat 12)])) = G3 at gqm ⊢
              clear gq hpm
              refine gw_name ?_
              refine sw_seq ?_
              refine sw_mid (fun σ _ G => ∃ at_ : Nat, σ = [some (.ref a), some (.ref hh), some (.int i), some (.ref wa), some rv, some (.ref A.w), some (.ref sl), some (.ref cl), some (.int (j : Int)), y9, some (.int ((n : Int) - (j : Int))), some (.ref pd), some (.int (q : Int)), some (.int (many : Int)), some (.int (at_ : Int)), z15, z16, z17, z18, z19, z20] ∧ Ex F13 G ∧ ((many ≤ n ∧ at_ = many) ∨ (n < many ∧ at_ = j + (many - j) % (n - j)))) ?_ ?_
              · refine sw_asg (ew_if (tw_test (ew_op ?_)))
                walk_at "ob"
                refine cw_lenS hdj (Or.inl (gqm.sqL lC5)) ?_
                walk_at "ob"
                rw [lcv2]
                refine ⟨fun hb => ?_, fun hb => ?_⟩
                · walk_at "ob"
                  have := of_decide_eq_true hb
                  exact ⟨many, rfl, gqm, Or.inl ⟨by omega, rfl⟩⟩
                · have := of_decide_eq_false hb
                  walk_at "ob"
                  have q1 : ((many - j : Nat) : Int) = (many : Int) - j := by omega
                  have q2 : ((n - j : Nat) : Int) = (n : Int) - j := by omega
                  have eat : ((j + (many - j) % (n - j) : Nat) : Int) = (j : Int) + ((many : Int) - j) % ((n : Int) - j) := by
                    rw [Int.natCast_add, Int.natCast_emod, q1, q2]
                  refine ⟨j + (many - j) % (n - j), ?_, gqm, Or.inr ⟨by omega, rfl⟩⟩
                  rw [eat]
                  rfl
              · rintro σ _ G4 ⟨at_, rfl, gr, hat⟩
                obtain ⟨ta, pa, hle, eTa, eaft⟩ := aft_law hP hT0 pj jn hat
                refine sw_seq (sw_asg (ew_op (ew_op ?_)))
                walk_at "ob"
                have td0 : 0 ≤ ((many : Int) - at_) / ((n : Int) - j) := Int.ediv_nonneg (by omega) (by omega)
                have td1 : ((many : Int) - at_) / ((n : Int) - j) ≤ (many : Int) - at_ := Int.ediv_le_self _ (by omega)
                refine rw_I ⟨by omega, by omega⟩ ?_
                generalize ((many : Int) - at_) / ((n : Int) - j) = tm at eaft td0 td1 ⊢
                refine gw_name ?_
                have oa := pa.ok.len
                have hzl2 : (zadd tm (ta.ms.map Mac.done) (zsub (tj.ms.map Mac.done) (t.ms.map Mac.done))).length = wd.ms.length := by rw [zadd_len (by rw [hzs, List.length_map, oa]), hzs]
                obtain ⟨va, gva, dva⟩ := dps_get dC5 (d := talD (ta.ms.map Mac.done)) (by rw [List.getElem?_map, eTa]; rfl)
                obtain ⟨aa, xa, rfl, la, daa⟩ := dp_tup dva
                obtain rfl := dps_ints_iff daa
                refine sw_seq (sw_asg (ew_lcR hdj ?_))
                walk_at "ob"
                refine cw_lenS hdj (Or.inr (gr.sqT lD5)) ?_
                walk_at "ob"
                refine ⟨(wd.ms.length : Int), by rw [List.length_map, hzs], by omega, by omega, fun Dl2 hDl2 => ?_⟩
                refine ⟨fun k acc _ G => G = G4 ∧ acc = ((zadd tm (ta.ms.map Mac.done) (zsub (tj.ms.map Mac.done) (t.ms.map Mac.done))).take k).map V.int, ⟨rfl, rfl⟩, ?_, ?_, ?_⟩
                · rintro k acc _ G hk hg ⟨rfl, rfl⟩
                  rw [List.length_map, List.length_take]
                  omega
                · rintro k acc _ G hk hg ⟨rfl, rfl⟩
                  have hd2 := hdj.jd (D := Dl2) (acc := ((zadd tm (ta.ms.map Mac.done) (zsub (tj.ms.map Mac.done) (t.ms.map Mac.done))).take k).map V.int)
                  have hkl : k < wd.ms.length := by omega
                  obtain ⟨mj, hmj⟩ := ms_both' oj (List.getElem?_eq_getElem hkl)
                  obtain ⟨mt, hmt⟩ := ms_both' ot (List.getElem?_eq_getElem hkl)
                  obtain ⟨ma', hma⟩ := ms_both' oa (List.getElem?_eq_getElem hkl)
                  refine gw_name ⟨rfl, ?_⟩
                  refine tw_yes ⟨fun _ => ?_, (fun z => by cases z)⟩
                  refine ew_op (ew_op (ew_op ?_))
                  walk_at "ob"
                  refine rw_ixL hd2 (gr.sqL lC5) (atI_nat gva) ?_
                  walk_at "ob"
                  refine rw_ixT hd2 (gr.sqT la) (atI_nat (by rw [List.getElem?_map, List.getElem?_map, hma]; rfl)) ?_
                  refine ew_op ?_
                  walk_at "ob"
                  refine rw_ixT hd2 (gr.sqT lD5) (atI_nat (by rw [List.getElem?_map, zsub_get oj ot hmj hmt]; rfl)) ?_
                  refine rw_I (Or.inl ⟨by omega, by omega⟩) ?_
                  walk_at "ob"
                  refine ⟨rfl, ?_⟩
                  rw [List.take_succ, zadd_get (by rw [List.getElem?_map, hma]; rfl) (zsub_get oj ot hmj hmt), List.map_append]
                  rfl
                rintro acc _ G hg ⟨rfl, rfl⟩
                rw [Int.toNat_natCast, List.take_of_length_le (Nat.le_of_eq hzl2)]
                generalize zadd tm (ta.ms.map Mac.done) (zsub (tj.ms.map Mac.done) (t.ms.map Mac.done)) = fl at eaft hzl2 ⊢
                refine gw_name ?_
                have gf := Ex.new (.refl G) hg (u := .lst (fl.map V.int))
                have lF : (upd G Dl2 (.lst (fl.map V.int))) Dl2 = some (.lst (fl.map V.int)) := upd_same
                generalize (upd G Dl2 (.lst (fl.map V.int))) = G5 at gf lF ⊢
                have g5K := g5J.trans (gr.trans gf)
                refine sw_if (tw_not (tw_test (ew_call hdj ?_)))
                walk_at "ob"
                refine ew_call hdj ?_
                walk_at "ob"
                refine ⟨.ref wa, rv, wd, r, p, many, rfl, dp_ex g5K dW, dp_ex g5K dR, hw, m1, ⟨j, n, hR⟩, fun qa F14 n1 n2 TS' l hR' hT' ha g14 eqa => ?_⟩
                obtain ⟨z1, z2⟩ := hR.uniq hR'
                subst z1 z2
                have eTT := tal_uniq hP hT0 hT'
                subst eTT
                rw [eaft] at ha
                cases ha
                walk_at "ob"
                have hsz2 : szD 3 (.list (fl.map PyData.int)) = true := by
                  show (decide ((fl.map PyData.int).length ≤ 1000) && (fl.map PyData.int).all (szD 2)) = true
                  rw [Bool.and_eq_true, decide_eq_true_iff, List.length_map]
                  refine ⟨by omega, ?_⟩
                  rw [List.all_eq_true]
                  intro d hd1
                  obtain ⟨y, _, rfl⟩ := List.mem_map.mp hd1
                  rfl
                refine ⟨.ref qa, .ref Dl2, .list (fl.map PyData.int), rfl, .lst (SqL.of eqa) dps_ints, .lst (SqL.of (g14 _ _ lF)) dps_ints, hsz2, fun F15 g15 => ⟨_, rfl, (fun z => by cases z), fun _ => sw_next ⟨_, _, _, _, _, _, _, _, _, rfl, (gr.trans gf).trans (g14.trans g15)⟩⟩⟩
            · rintro σ _ G ⟨z12, z13, z14, z15, z16, z17, z18, z19, z20, rfl, gq⟩
              exact ⟨⟨_, _, _, _, _, _, _, _, _, _, _, _, _, _, _, _, rfl⟩, g5J.trans gq⟩
          · rintro σ _ F9 ⟨⟨y5, y6, y7, y8, y9, y10, y11, y12, y13, y14, y15, y16, y17, y18, y19, y20, rfl⟩, g59⟩
            have g29 : Ex F2 F9 := g24.trans g59
            have hT9 : TabsN (lamT Pt) F9 := hT.ext fun b o e => g29 b o e
            refine sw_seq (sw_asg ?_)
            walk_at "ob"
            refine ⟨by walk_at "ob_len", fun p3 hp3 => ?_⟩
            walk_at "ob"
            refine ⟨by decide, by decide, fun rr2 rr20 rr21 => ?_⟩
            obtain ⟨mf, hmf, mf0, mf1⟩ : ∃ mf : Int, atI [V.int 1, V.int (10 ^ Int.toNat 6)] rr2 = some (V.int mf) ∧ 0 < mf ∧ mf ≤ 1000000 := by
              have : rr2 = 0 ∨ rr2 = 1 := by omega
              rcases this with rfl | rfl
              · exact ⟨1, rfl, by decide, by decide⟩
              · exact ⟨1000000, rfl, by decide, by decide⟩
            refine rw_ixL hdj (SqL.of upd_same) hmf ?_
            refine ⟨mf, rfl, mf0, by omega, fun far far0 far1 => gw_name ?_⟩
            have gp3 := Ex.new (.refl F9) hp3 (u := .lst [V.int 1, V.int (10 ^ Int.toNat 6)])
            generalize (upd F9 p3 (.lst [V.int 1, V.int (10 ^ Int.toNat 6)])) = F10 at gp3 ⊢
            have hT10 : TabsN (lamT Pt) F10 := hT9.ext fun b o e => gp3 b o e
            obtain ⟨tb0, hPt10, _, _⟩ := (show TabN F10 Pt (fun _ _ => lamQ) from hT10 _ (List.mem_singleton_self _))
            have dW10 : Dp K F10 wv (wldD wd) := dp_ex (g59.trans gp3) dW
            have dR10 : Dp K F10 rv (rulD r p) := dp_ex (g59.trans gp3) dR
            refine sw_seq (sw_asg (ew_lst hdj (aw_cons (ew_lamb hdj hT10 hPt10 fun fa ca F11 st1 => ?_))))
            have hnm : ∀ q ∈ lamT Pt, q.1 = Pt → q.2 = fun _ _ => lamQ := fun q hq _ => by rw [List.mem_singleton.mp hq]
            obtain ⟨eN1, hT11, nf1, lf1, lc1⟩ := st1.facts (T := lamT Pt) (nm := fun _ _ => lamQ) (List.mem_singleton_self _) rfl hnm hT10
            obtain ⟨tb1, hPt11, _, _⟩ := (show TabN F11 Pt (fun _ _ => lamQ) from hT11 _ (List.mem_singleton_self _))
            refine aw_cons (ew_lambD hdj hT11 hPt11 fun td htd fb cb F12 st2 => ?_)
            have gtd := Ex.new (.refl F11) htd (u := .tup [.int 0])
            have hT11' : TabsN (lamT Pt) (upd F11 td (.tup [.int 0])) := hT11.ext fun b o e => gtd b o e
            obtain ⟨eN2, hT12, nf2, lf2, lc2⟩ := st2.facts (T := lamT Pt) (nm := fun _ _ => lamQ) (List.mem_singleton_self _) rfl hnm hT11'
            refine aw_nil ⟨by walk_at "ob_len", fun pl hpl => gw_name ?_⟩
            have gpl := Ex.new (.refl F12) hpl (u := .lst [.ref fa, .ref fb])
            have eN12 : ExtN F11 (upd F12 pl (.lst [.ref fa, .ref fb])) := (ExtN.of gtd).trans (eN2.trans (ExtN.of gpl))
            have eN : ExtN F10 (upd F12 pl (.lst [.ref fa, .ref fb])) := eN1.trans eN12
            have lamA : LamAt (upd F12 pl (.lst [.ref fa, .ref fb])) fa _ [] := ⟨eN12 _ _ lf1 lamO_ne, eN12 _ _ lc1 codeO_ne, fun t e => by cases e⟩
            have lamB : LamAt (upd F12 pl (.lst [.ref fa, .ref fb])) fb _ [.int 0] := ⟨gpl _ _ lf2, gpl _ _ lc2, fun t e => by cases e; exact gpl _ _ (eN2 _ _ upd_same (fun ps z => by cases z))⟩
            have hT13 : TabsN (lamT Pt) (upd F12 pl (.lst [.ref fa, .ref fb])) := hT12.ext fun b o e => gpl b o e
            have oL : (upd F12 pl (.lst [.ref fa, .ref fb])) pl = some (.lst [.ref fa, .ref fb]) := upd_same
            have dW13 := dp_extN eN dW10
            have dR13 := dp_extN eN dR10
            generalize (upd F12 pl (.lst [.ref fa, .ref fb])) = F13 at lamA lamB hT13 oL dW13 dR13 ⊢
            have hB1 : ndefB (defScope s_law) (lamScope lam1) ["_law_world_here", "_law_rule_here", "_law_far"] = true := by decide +kernel
            have hB2 : ndefB (defScope s_law) (lamScope lam2) ["_law_world_here", "_law_rule_here", "_law_far"] = true := by decide +kernel
            refine sw_if (tw_test (ew_op (ew_kcomp hdj ?_)))
            walk_at "ob"
            refine ⟨pl, [.ref fa, .ref fb], rfl, SqL.of oL, (by simp), fun y hy => ?_, fun j y F14 hj g14 => ?_, fun F14 rs g14 hrl hrs D hD => ?_⟩
            · simp at hy
              rcases hy with rfl | rfl
              · exact ⟨_, rfl⟩
              · exact ⟨_, rfl⟩
            · have hbw : ∀ (js : List (Option V)), js = [some wv, some rv, some (.int far)] → bwWR K F14 js := fun js e => ⟨wv, rv, wd, r, p, far, e, dp_ex g14 dW13, dp_ex g14 dR13, hw, far0, by omega⟩
              match j, hj with
              | 0, hj =>
                cases hj
                exact ⟨fa, _, [], ["_law_world_here", "_law_rule_here", "_law_far"], [3, 4, 17], bwWR K, rfl, lamA.keep g14, fun ok => Caps.made (scope := lamScope lam1) ok (ndef_free hB1) (ndef_fr hB1) rfl, lamok1 Cafter GafterX, hbw _ rfl⟩
              | 1, hj =>
                cases hj
                exact ⟨fb, _, [.int 0], ["_law_world_here", "_law_rule_here", "_law_far"], [3, 4, 17], bwWR K, rfl, lamB.keep g14, fun ok => Caps.made (scope := lamScope lam2) ok (ndef_free hB2) (ndef_fr hB2) rfl, lamok2 Cafter GafterX, hbw _ rfl⟩
            have hrs2 : ∃ r1 r2, rs = [r1, r2] := by
              match rs, hrl with
              | [x, y], _ => exact ⟨x, y, rfl⟩
            obtain ⟨r1v, r2v, rfl⟩ := hrs2
            have d1 := hrs r1v (by simp)
            have d2 := hrs r2v (by simp)
            have gD := Ex.new (.refl F14) hD (u := .lst [r1v, r2v])
            refine ew_op (ew_lst hdj ?_)
            walk_at "ob"
            refine ⟨by walk_at "ob_len", fun p5 hp5 => aw_nil ⟨by walk_at "ob_len", fun p6 hp6 => ?_⟩⟩
            walk_at "ob"
            refine rw_rep hdj upd_same ⟨by decide, by decide⟩ (by show 1 * 2 ≤ 100000; decide) (fun p7 hp7 => ?_)
            have g57 := Ex.new (Ex.new (Ex.new (.refl _) hp5 (u := .tup [.str "count", .int 0])) hp6 (u := .lst [.ref p5])) hp7 (u := .lst (List.replicate (2 : Int).toNat [V.ref p5]).flatten)
            have dt : Dp K _ (.ref p5) cntD := dp_ex (Ex.new (Ex.new (.refl _) hp6 (u := .lst [.ref p5])) hp7 (u := .lst (List.replicate (2 : Int).toNat [V.ref p5]).flatten)) (.tup (SqT.of upd_same) (.cons (.str _) (.cons (.int _) .nil)))
            have hlow : lowD 2 (.list [cntD, cntD]) = true := by decide +kernel
            refine rw_neD hdj (d := .list [cntD, cntD]) (e := .list [cntD, cntD]) (.lst (SqL.of (g57 _ _ upd_same)) (dps_ex (gD.trans g57) (.cons d1 (.cons d2 .nil)))) (.lst (xs := [.ref p5, .ref p5]) (SqL.of upd_same) (.cons dt (.cons dt .nil))) (shaped_low hlow) (shaped_low hlow) ?_
            rw [eqv_low hlow]
            refine ⟨_, rfl, (fun z => by cases z), fun _ => sw_next ⟨⟨_, _, _, _, _, _, _, _, _, _, _, _, _, _, _, _, _, _, _, rfl⟩, ?_⟩⟩
            exact hT13.ext fun b o e => g57 _ _ (gD _ _ (g14 b o e))
      · rintro σ _ G ⟨⟨x2, x3, x4, x5, x6, x7, x8, x9, x10, x11, x12, x13, x14, x15, x16, x17, x18, x19, x20, rfl⟩, hT⟩
        exact ⟨⟨_, _, _, _, _, _, _, _, _, _, _, _, _, _, _, _, _, _, _, rfl⟩, hT⟩
    · rintro σ _ G ⟨⟨x2, x3, x4, x5, x6, x7, x8, x9, x10, x11, x12, x13, x14, x15, x16, x17, x18, x19, x20, rfl⟩, hT⟩
      walk_at "ob"
      exact rfl

end
end Obr
namespace Obr
open PySem PySem.Spec PyProof.Rows L2 LamX
/-- the def x, its code object, its table, still empty -/
def TabAt (x : Str) (mg : Str → Option Value) (h : Heap) : Prop := ∃ (a : Addr) (o : Obj) (fd : FuncData) (c P : Addr), mg x = some (.ref a) ∧ h.get? a = some o ∧ o.data = .func fd ∧ fd.code = .ref c ∧ PySem.W.CodeHd h c P ∧ h.get? P = some { cls := .none, data := .fields #[] }
theorem walk_ofTsG {l : PySem.W.OpenLaw} {n k : Nat} {q : Program} {loose : List Str} {XP : (Str → Option Value) → Heap → Prop} {YP : World → Heap → Prop} {d : DefRec} {CX : World → CXT} {x : Str}
    (hn : l.most = some n) (hn2 : n ≤ sizeLine) (hdf : d.params.defaults = []) (hr : Room k callerA) (hrec : ((recsOf q).any fun e => e.name == d.name) = true)
    (F : ∀ (w : World) (mg : Str → Option Value) (fa : Addr) (h : Heap), YP w h → h.Ns mainGlobals mg → mg d.name = some (.ref fa) → TabAt d.name mg h → ∃ K : PySem.W.Frag, K.In h ∧ LawAtS l w K (CX w) k n x mg fa h)
    (hCX : ∀ (w : World) (H : Hp) (s : Shared) (e : Value) (s' : Shared), CX w [] H s (fun _ _ _ => False) e s' → False) :
    PySem.W.WalkO q loose XP YP l.row.toRowW d [] (fun f vs => PySem.call f vs) := by
  refine Att.attach_callB hn hdf fun w s₀ s₁ mg mb fa o pm cd doc a vs ns G Y ho hd hcd hmg hobj hints hlen hbits hg => ?_
  have hT : TabAt d.name mg s₁.heap := by
    obtain ⟨dL, hm, hn1⟩ := List.any_eq_true.mp hrec
    have hn2 : dL.name = d.name := beq_iff_eq.mp hn1
    obtain ⟨a', o', fd', c', P', h1, h2, h3, h4, h5, h6⟩ := G.T.tab dL hm
    rw [hn2] at h1
    exact ⟨a', o', fd', c', P', h1, h2, h3, h4, PySem.W.CodeHd.of h5 h6, h6.2⟩
  obtain ⟨K, KX, fd, cs, sp, hT, nT, C, hb, hsp, hF⟩ := F w mg fa _ Y G.T.g hmg hT
  exact law_callTs KX G.T.g G.T.b G.T.builtins G.T.nolimit hg hT nT C G.T.bmain hobj hints (Nat.le_trans hlen hn2) hr hF hb (fun H hH hS => hsp H a ns hlen hbits hH hS) fun H e s' => hCX w H s₁ e s'
end Obr
namespace Obr
open PySem PySem.Spec PyProof.Rows L2
/-! ### the head: where each def stands -/
theorem funOf {K : PySem.W.Frag} {x qual : Str} {st : Stmt} {f : Addr} {fd : FuncData} (F : FunD K x qual (defArgs st) (defBody st) (defScope st) [] [] f fd) : Fun K x qual st f fd := by
  obtain ⟨oc, od, dV, kV, doc, pm, an, cdv, ct, osl, rfl, lk, hcd, hD, _⟩ := F.ex
  rcases hD with ⟨_, rfl⟩ | ⟨e, _⟩
  · exact ⟨⟨oc, od, kV, doc, pm, an, cdv, ct, osl, rfl, lk, hcd⟩, F.kp⟩
  · exact absurd rfl e
theorem tab_none {K : PySem.W.Frag} {h : Heap} {fd : FuncData} {c Pt : Addr} {oc : Value} {od : Option Addr} {osl : Array (Option Value)} {cdv : Value} {q : Str} (xT : tabB K = true) (lk : K.lookup (He.ga K "law") = some ⟨oc, od, .func fd, osl⟩) (hcd : fd.code = .ref c) (_ : PySem.W.codeIn K cdv q = true) (X : K.In h) (C : PySem.W.CodeHd h c Pt) (_ : cdv = .ref c) : K.lookup Pt = none := by
  unfold tabB at xT
  rw [lk] at xT
  simp only [hcd] at xT
  obtain ⟨o, vs, _, _, _, _, _, _, _, ho, _, hd, hv, _⟩ := C
  split at xT
  · rename_i e1 e2 vs' e3 hk
    have g := X _ _ hk
    rw [ho] at g
    cases g
    cases hd
    rw [hv] at xT
    simpa using xT
  · cases xT
theorem facts {P : Program} {w : World} {K : PySem.W.Frag} {h : Heap} {mg : Str → Option Value} {f : Addr} (X : K.In h) (G : h.Ns mainGlobals mg) (hfa : mg ("law" : Str) = some (.ref f)) (c : He.SaysD fa fn K) (x : exB K = true) (hTab : TabAt "law" mg h) :
    ∃ (fd : FuncData) (cs : List (Addr × Addr)) (sp : Sp), (∀ p ∈ cs, h.get? p.2 = some { cls := .none, data := .fields #[] }) ∧ (∀ p ∈ cs, K.lookup p.2 = none) ∧ (∀ p ∈ cs, PySem.W.CodeHd h p.1 p.2) ∧ (∀ (s : Shared) (u : Value), BindsTo s fd ⟨[u], []⟩ [("_law_script", u)]) ∧
      (∀ (H : Hp) (a : Addr) (ns : List Int), ns.length ≤ 63 → (∀ z ∈ ns, Builtin.Int.intBits z ≤ 1048576) → (∀ p ∈ cs, H p.2 = some (.tbl #[])) → SqL K H a (ns.map V.int) → sp [.ref a] H (fun v _ => v = .bl true) fun _ _ _ => False) ∧
      ∀ base : Heap, K.In base → base.Ns mainGlobals mg → (∀ p ∈ cs, LamX.TabB base mg p.1 p.2) → FnOk P w K mg base CX0 11 f fd ["_law_script"] sp := by
  obtain ⟨fd_in_turn, D_in_turn⟩ := c.def_ 1 (d := dd ("in_turn", none) "in_turn" "in_turn" (top 14)) rfl
  have b_in_turn : Binds K fd_in_turn ["right", "last", "waiting"] [] := FunD.bindsN (ps := ["right", "last", "waiting"]) D_in_turn fun _ _ _ _ _ _ us hl => match us, hl with | [_, _, _], _ => rfl
  have g_in_turn : mg "in_turn" = some (.ref (He.ga K "in_turn")) := He.glo_ok X G (c.fact 13 (f := .glo "in_turn") rfl)
  have C_in_turn : Cal K mg "in_turn" (He.ga K "in_turn") fd_in_turn ["right", "last", "waiting"] := ⟨g_in_turn, D_in_turn.kp, b_in_turn⟩
  obtain ⟨fd_least_first, D_least_first⟩ := c.def_ 2 (d := dd ("least_first", none) "least_first" "least_first" (top 15)) rfl
  have b_least_first : Binds K fd_least_first ["pairs"] [] := FunD.bindsN (ps := ["pairs"]) D_least_first fun _ _ _ _ _ _ us hl => match us, hl with | [_], _ => rfl
  have g_least_first : mg "least_first" = some (.ref (He.ga K "least_first")) := He.glo_ok X G (c.fact 14 (f := .glo "least_first") rfl)
  have C_least_first : Cal K mg "least_first" (He.ga K "least_first") fd_least_first ["pairs"] := ⟨g_least_first, D_least_first.kp, b_least_first⟩
  obtain ⟨fd_behind_first, D_behind_first⟩ := c.def_ 3 (d := dd ("behind_first", none) "behind_first" "behind_first" (top 16)) rfl
  have b_behind_first : Binds K fd_behind_first ["last", "numbers"] [] := FunD.bindsN (ps := ["last", "numbers"]) D_behind_first fun _ _ _ _ _ _ us hl => match us, hl with | [_, _], _ => rfl
  have g_behind_first : mg "behind_first" = some (.ref (He.ga K "behind_first")) := He.glo_ok X G (c.fact 15 (f := .glo "behind_first") rfl)
  have C_behind_first : Cal K mg "behind_first" (He.ga K "behind_first") fd_behind_first ["last", "numbers"] := ⟨g_behind_first, D_behind_first.kp, b_behind_first⟩
  obtain ⟨fd_check_world, D_check_world⟩ := c.def_ 4 (d := dd ("check_world", none) "check_world" "check_world" (top 23)) rfl
  have b_check_world : Binds K fd_check_world ["world"] [] := FunD.bindsN (ps := ["world"]) D_check_world fun _ _ _ _ _ _ us hl => match us, hl with | [_], _ => rfl
  have g_check_world : mg "check_world" = some (.ref (He.ga K "check_world")) := He.glo_ok X G (c.fact 16 (f := .glo "check_world") rfl)
  have C_check_world : Cal K mg "check_world" (He.ga K "check_world") fd_check_world ["world"] := ⟨g_check_world, D_check_world.kp, b_check_world⟩
  obtain ⟨fd_check_store, D_check_store⟩ := c.def_ 5 (d := dd ("check_store", none) "check_store" "check_store" (top 24)) rfl
  have b_check_store : Binds K fd_check_store ["store"] [] := FunD.bindsN (ps := ["store"]) D_check_store fun _ _ _ _ _ _ us hl => match us, hl with | [_], _ => rfl
  have g_check_store : mg "check_store" = some (.ref (He.ga K "check_store")) := He.glo_ok X G (c.fact 17 (f := .glo "check_store") rfl)
  have C_check_store : Cal K mg "check_store" (He.ga K "check_store") fd_check_store ["store"] := ⟨g_check_store, D_check_store.kp, b_check_store⟩
  obtain ⟨fd_check_steps, D_check_steps⟩ := c.def_ 6 (d := dd ("check_steps", none) "check_steps" "check_steps" (top 25)) rfl
  have b_check_steps : Binds K fd_check_steps ["number", "steps", "cap"] [] := FunD.bindsN (ps := ["number", "steps", "cap"]) D_check_steps fun _ _ _ _ _ _ us hl => match us, hl with | [_, _, _], _ => rfl
  have g_check_steps : mg "check_steps" = some (.ref (He.ga K "check_steps")) := He.glo_ok X G (c.fact 18 (f := .glo "check_steps") rfl)
  have C_check_steps : Cal K mg "check_steps" (He.ga K "check_steps") fd_check_steps ["number", "steps", "cap"] := ⟨g_check_steps, D_check_steps.kp, b_check_steps⟩
  obtain ⟨fd_is_step, D_is_step⟩ := c.def_ 7 (d := dd ("is_step", none) "is_step" "is_step" (top 26)) rfl
  have b_is_step : Binds K fd_is_step ["step", "cap"] [] := FunD.bindsN (ps := ["step", "cap"]) D_is_step fun _ _ _ _ _ _ us hl => match us, hl with | [_, _], _ => rfl
  have g_is_step : mg "is_step" = some (.ref (He.ga K "is_step")) := He.glo_ok X G (c.fact 19 (f := .glo "is_step") rfl)
  have C_is_step : Cal K mg "is_step" (He.ga K "is_step") fd_is_step ["step", "cap"] := ⟨g_is_step, D_is_step.kp, b_is_step⟩
  obtain ⟨fd_check_rule, D_check_rule⟩ := c.def_ 8 (d := dd ("check_rule", none) "check_rule" "check_rule" (top 27)) rfl
  have b_check_rule : Binds K fd_check_rule ["rule"] [] := FunD.bindsN (ps := ["rule"]) D_check_rule fun _ _ _ _ _ _ us hl => match us, hl with | [_], _ => rfl
  have g_check_rule : mg "check_rule" = some (.ref (He.ga K "check_rule")) := He.glo_ok X G (c.fact 20 (f := .glo "check_rule") rfl)
  have C_check_rule : Cal K mg "check_rule" (He.ga K "check_rule") fd_check_rule ["rule"] := ⟨g_check_rule, D_check_rule.kp, b_check_rule⟩
  obtain ⟨fd_check_count, D_check_count⟩ := c.def_ 9 (d := dd ("check_count", none) "check_count" "check_count" (top 28)) rfl
  have b_check_count : Binds K fd_check_count ["many", "least", "most"] [] := FunD.bindsN (ps := ["many", "least", "most"]) D_check_count fun _ _ _ _ _ _ us hl => match us, hl with | [_, _, _], _ => rfl
  have g_check_count : mg "check_count" = some (.ref (He.ga K "check_count")) := He.glo_ok X G (c.fact 21 (f := .glo "check_count") rfl)
  have C_check_count : Cal K mg "check_count" (He.ga K "check_count") fd_check_count ["many", "least", "most"] := ⟨g_check_count, D_check_count.kp, b_check_count⟩
  obtain ⟨fd_Machine___init__, D_Machine___init__⟩ := c.def_ 10 (d := dd ("Machine", some "__init__") "__init__" "Machine.__init__" (inClass (top 33) 0)) rfl
  have b_Machine___init__ : Binds K fd_Machine___init__ ["self", "number", "steps", "since"] [] := FunD.bindsN (ps := ["self", "number", "steps", "since"]) D_Machine___init__ fun _ _ _ _ _ _ us hl => match us, hl with | [_, _, _, _], _ => rfl
  obtain ⟨fd_Machine_is_done, D_Machine_is_done⟩ := c.def_ 11 (d := dd ("Machine", some "is_done") "is_done" "Machine.is_done" (inClass (top 33) 1)) rfl
  have b_Machine_is_done : Binds K fd_Machine_is_done ["self"] [] := FunD.bindsN (ps := ["self"]) D_Machine_is_done fun _ _ _ _ _ _ us hl => match us, hl with | [_], _ => rfl
  have M_Machine_is_done : Met K (He.ga K "Machine") "is_done" (He.ma K (He.ga K "Machine") "is_done") fd_Machine_is_done ["self"] := ⟨He.cls_ok (c.fact 72 (f := .cls "Machine") rfl), He.meth_ok (c.fact 78 (f := .meth "Machine" "is_done") rfl), b_Machine_is_done⟩
  obtain ⟨fd_Machine_is_busy, D_Machine_is_busy⟩ := c.def_ 12 (d := dd ("Machine", some "is_busy") "is_busy" "Machine.is_busy" (inClass (top 33) 2)) rfl
  have b_Machine_is_busy : Binds K fd_Machine_is_busy ["self"] [] := FunD.bindsN (ps := ["self"]) D_Machine_is_busy fun _ _ _ _ _ _ us hl => match us, hl with | [_], _ => rfl
  have M_Machine_is_busy : Met K (He.ga K "Machine") "is_busy" (He.ma K (He.ga K "Machine") "is_busy") fd_Machine_is_busy ["self"] := ⟨He.cls_ok (c.fact 72 (f := .cls "Machine") rfl), He.meth_ok (c.fact 79 (f := .meth "Machine" "is_busy") rfl), b_Machine_is_busy⟩
  obtain ⟨fd_Machine_is_waiting, D_Machine_is_waiting⟩ := c.def_ 13 (d := dd ("Machine", some "is_waiting") "is_waiting" "Machine.is_waiting" (inClass (top 33) 3)) rfl
  have b_Machine_is_waiting : Binds K fd_Machine_is_waiting ["self"] [] := FunD.bindsN (ps := ["self"]) D_Machine_is_waiting fun _ _ _ _ _ _ us hl => match us, hl with | [_], _ => rfl
  have M_Machine_is_waiting : Met K (He.ga K "Machine") "is_waiting" (He.ma K (He.ga K "Machine") "is_waiting") fd_Machine_is_waiting ["self"] := ⟨He.cls_ok (c.fact 72 (f := .cls "Machine") rfl), He.meth_ok (c.fact 80 (f := .meth "Machine" "is_waiting") rfl), b_Machine_is_waiting⟩
  obtain ⟨fd_Machine_need, D_Machine_need⟩ := c.def_ 14 (d := dd ("Machine", some "need") "need" "Machine.need" (inClass (top 33) 4)) rfl
  have b_Machine_need : Binds K fd_Machine_need ["self"] [] := FunD.bindsN (ps := ["self"]) D_Machine_need fun _ _ _ _ _ _ us hl => match us, hl with | [_], _ => rfl
  have M_Machine_need : Met K (He.ga K "Machine") "need" (He.ma K (He.ga K "Machine") "need") fd_Machine_need ["self"] := ⟨He.cls_ok (c.fact 72 (f := .cls "Machine") rfl), He.meth_ok (c.fact 81 (f := .meth "Machine" "need") rfl), b_Machine_need⟩
  obtain ⟨fd_Machine_left, D_Machine_left⟩ := c.def_ 15 (d := dd ("Machine", some "left") "left" "Machine.left" (inClass (top 33) 5)) rfl
  have b_Machine_left : Binds K fd_Machine_left ["self", "beat"] [] := FunD.bindsN (ps := ["self", "beat"]) D_Machine_left fun _ _ _ _ _ _ us hl => match us, hl with | [_, _], _ => rfl
  have M_Machine_left : Met K (He.ga K "Machine") "left" (He.ma K (He.ga K "Machine") "left") fd_Machine_left ["self", "beat"] := ⟨He.cls_ok (c.fact 72 (f := .cls "Machine") rfl), He.meth_ok (c.fact 82 (f := .meth "Machine" "left") rfl), b_Machine_left⟩
  obtain ⟨fd_Machine_begin_step, D_Machine_begin_step⟩ := c.def_ 16 (d := dd ("Machine", some "begin_step") "begin_step" "Machine.begin_step" (inClass (top 33) 6)) rfl
  have b_Machine_begin_step : Binds K fd_Machine_begin_step ["self", "beat"] [] := FunD.bindsN (ps := ["self", "beat"]) D_Machine_begin_step fun _ _ _ _ _ _ us hl => match us, hl with | [_, _], _ => rfl
  have M_Machine_begin_step : Met K (He.ga K "Machine") "begin_step" (He.ma K (He.ga K "Machine") "begin_step") fd_Machine_begin_step ["self", "beat"] := ⟨He.cls_ok (c.fact 72 (f := .cls "Machine") rfl), He.meth_ok (c.fact 83 (f := .meth "Machine" "begin_step") rfl), b_Machine_begin_step⟩
  obtain ⟨fd_Machine_end_step, D_Machine_end_step⟩ := c.def_ 17 (d := dd ("Machine", some "end_step") "end_step" "Machine.end_step" (inClass (top 33) 7)) rfl
  have b_Machine_end_step : Binds K fd_Machine_end_step ["self", "beat"] [] := FunD.bindsN (ps := ["self", "beat"]) D_Machine_end_step fun _ _ _ _ _ _ us hl => match us, hl with | [_, _], _ => rfl
  have M_Machine_end_step : Met K (He.ga K "Machine") "end_step" (He.ma K (He.ga K "Machine") "end_step") fd_Machine_end_step ["self", "beat"] := ⟨He.cls_ok (c.fact 72 (f := .cls "Machine") rfl), He.meth_ok (c.fact 84 (f := .meth "Machine" "end_step") rfl), b_Machine_end_step⟩
  obtain ⟨fd_Machine_begin_anew, D_Machine_begin_anew⟩ := c.def_ 18 (d := dd ("Machine", some "begin_anew") "begin_anew" "Machine.begin_anew" (inClass (top 33) 8)) rfl
  have b_Machine_begin_anew : Binds K fd_Machine_begin_anew ["self"] [] := FunD.bindsN (ps := ["self"]) D_Machine_begin_anew fun _ _ _ _ _ _ us hl => match us, hl with | [_], _ => rfl
  have M_Machine_begin_anew : Met K (He.ga K "Machine") "begin_anew" (He.ma K (He.ga K "Machine") "begin_anew") fd_Machine_begin_anew ["self"] := ⟨He.cls_ok (c.fact 72 (f := .cls "Machine") rfl), He.meth_ok (c.fact 85 (f := .meth "Machine" "begin_anew") rfl), b_Machine_begin_anew⟩
  obtain ⟨fd_Shop___init__, D_Shop___init__⟩ := c.def_ 19 (d := dd ("Shop", some "__init__") "__init__" "Shop.__init__" (inClass (top 34) 0)) rfl
  have b_Shop___init__ : Binds K fd_Shop___init__ ["self", "world", "anew"] [] := FunD.bindsN (ps := ["self", "world", "anew"]) D_Shop___init__ fun _ _ _ _ _ _ us hl => match us, hl with | [_, _, _], _ => rfl
  obtain ⟨fd_Run___init__, D_Run___init__⟩ := c.def_ 27 (d := dd ("Run", some "__init__") "__init__" "Run.__init__" (inClass (top 35) 0)) rfl
  have b_Run___init__ : Binds K fd_Run___init__ ["self", "world", "rule", "anew"] [] := FunD.bindsN (ps := ["self", "world", "rule", "anew"]) D_Run___init__ fun _ _ _ _ _ _ us hl => match us, hl with | [_, _, _, _], _ => rfl
  obtain ⟨fd_Run_do_beat, D_Run_do_beat⟩ := c.def_ 28 (d := dd ("Run", some "do_beat") "do_beat" "Run.do_beat" (inClass (top 35) 1)) rfl
  have b_Run_do_beat : Binds K fd_Run_do_beat ["self"] [] := FunD.bindsN (ps := ["self"]) D_Run_do_beat fun _ _ _ _ _ _ us hl => match us, hl with | [_], _ => rfl
  have M_Run_do_beat : Met K (He.ga K "Run") "do_beat" (He.ma K (He.ga K "Run") "do_beat") fd_Run_do_beat ["self"] := ⟨He.cls_ok (c.fact 74 (f := .cls "Run") rfl), He.meth_ok (c.fact 93 (f := .meth "Run" "do_beat") rfl), b_Run_do_beat⟩
  obtain ⟨fd_Run_begin_steps, D_Run_begin_steps⟩ := c.def_ 29 (d := dd ("Run", some "begin_steps") "begin_steps" "Run.begin_steps" (inClass (top 35) 2)) rfl
  have b_Run_begin_steps : Binds K fd_Run_begin_steps ["self"] [] := FunD.bindsN (ps := ["self"]) D_Run_begin_steps fun _ _ _ _ _ _ us hl => match us, hl with | [_], _ => rfl
  have M_Run_begin_steps : Met K (He.ga K "Run") "begin_steps" (He.ma K (He.ga K "Run") "begin_steps") fd_Run_begin_steps ["self"] := ⟨He.cls_ok (c.fact 74 (f := .cls "Run") rfl), He.meth_ok (c.fact 94 (f := .meth "Run" "begin_steps") rfl), b_Run_begin_steps⟩
  obtain ⟨fd_checked_run, D_checked_run⟩ := c.def_ 31 (d := dd ("checked_run", none) "checked_run" "checked_run" (top 36)) rfl
  have b_checked_run : Binds K fd_checked_run ["world", "rule", "anew"] [] := FunD.bindsN (ps := ["world", "rule", "anew"]) D_checked_run fun _ _ _ _ _ _ us hl => match us, hl with | [_, _, _], _ => rfl
  have g_checked_run : mg "checked_run" = some (.ref (He.ga K "checked_run")) := He.glo_ok X G (c.fact 22 (f := .glo "checked_run") rfl)
  have C_checked_run : Cal K mg "checked_run" (He.ga K "checked_run") fd_checked_run ["world", "rule", "anew"] := ⟨g_checked_run, D_checked_run.kp, b_checked_run⟩
  obtain ⟨fd_period, D_period⟩ := c.def_ 32 (d := dd ("period", none) "period" "period" (top 40)) rfl
  have b_period : Binds K fd_period ["world", "rule"] [] := FunD.bindsN (ps := ["world", "rule"]) D_period fun _ _ _ _ _ _ us hl => match us, hl with | [_, _], _ => rfl
  have g_period : mg "period" = some (.ref (He.ga K "period")) := He.glo_ok X G (c.fact 23 (f := .glo "period") rfl)
  have C_period : Cal K mg "period" (He.ga K "period") fd_period ["world", "rule"] := ⟨g_period, D_period.kp, b_period⟩
  obtain ⟨fd_after, D_after⟩ := c.def_ 33 (d := dd ("after", none) "after" "after" (top 41)) rfl
  have b_after : Binds K fd_after ["world", "rule", "many"] [] := FunD.bindsN (ps := ["world", "rule", "many"]) D_after fun _ _ _ _ _ _ us hl => match us, hl with | [_, _, _], _ => rfl
  have g_after : mg "after" = some (.ref (He.ga K "after")) := He.glo_ok X G (c.fact 24 (f := .glo "after") rfl)
  have C_after : Cal K mg "after" (He.ga K "after") fd_after ["world", "rule", "many"] := ⟨g_after, D_after.kp, b_after⟩
  obtain ⟨fd_come_round, D_come_round⟩ := c.def_ 34 (d := dd ("come_round", none) "come_round" "come_round" (top 42)) rfl
  have b_come_round : Binds K fd_come_round ["run"] [] := FunD.bindsN (ps := ["run"]) D_come_round fun _ _ _ _ _ _ us hl => match us, hl with | [_], _ => rfl
  have g_come_round : mg "come_round" = some (.ref (He.ga K "come_round")) := He.glo_ok X G (c.fact 25 (f := .glo "come_round") rfl)
  have C_come_round : Cal K mg "come_round" (He.ga K "come_round") fd_come_round ["run"] := ⟨g_come_round, D_come_round.kp, b_come_round⟩
  obtain ⟨fd_gained, D_gained⟩ := c.def_ 35 (d := dd ("gained", none) "gained" "gained" (top 43)) rfl
  have b_gained : Binds K fd_gained ["early", "late"] [] := FunD.bindsN (ps := ["early", "late"]) D_gained fun _ _ _ _ _ _ us hl => match us, hl with | [_, _], _ => rfl
  have g_gained : mg "gained" = some (.ref (He.ga K "gained")) := He.glo_ok X G (c.fact 26 (f := .glo "gained") rfl)
  have C_gained : Cal K mg "gained" (He.ga K "gained") fd_gained ["early", "late"] := ⟨g_gained, D_gained.kp, b_gained⟩
  obtain ⟨fd_picture_of, D_picture_of⟩ := c.def_ 36 (d := dd ("picture_of", none) "picture_of" "picture_of" (top 44)) rfl
  have b_picture_of : Binds K fd_picture_of ["run"] [] := FunD.bindsN (ps := ["run"]) D_picture_of fun _ _ _ _ _ _ us hl => match us, hl with | [_], _ => rfl
  have g_picture_of : mg "picture_of" = some (.ref (He.ga K "picture_of")) := He.glo_ok X G (c.fact 27 (f := .glo "picture_of") rfl)
  have C_picture_of : Cal K mg "picture_of" (He.ga K "picture_of") fd_picture_of ["run"] := ⟨g_picture_of, D_picture_of.kp, b_picture_of⟩
  obtain ⟨fd_memory_of, D_memory_of⟩ := c.def_ 37 (d := dd ("memory_of", none) "memory_of" "memory_of" (top 45)) rfl
  have b_memory_of : Binds K fd_memory_of ["run"] [] := FunD.bindsN (ps := ["run"]) D_memory_of fun _ _ _ _ _ _ us hl => match us, hl with | [_], _ => rfl
  have g_memory_of : mg "memory_of" = some (.ref (He.ga K "memory_of")) := He.glo_ok X G (c.fact 28 (f := .glo "memory_of") rfl)
  have C_memory_of : Cal K mg "memory_of" (He.ga K "memory_of") fd_memory_of ["run"] := ⟨g_memory_of, D_memory_of.kp, b_memory_of⟩
  obtain ⟨fd_place_of, D_place_of⟩ := c.def_ 38 (d := dd ("place_of", none) "place_of" "place_of" (top 46)) rfl
  have b_place_of : Binds K fd_place_of ["machine", "waiting"] [] := FunD.bindsN (ps := ["machine", "waiting"]) D_place_of fun _ _ _ _ _ _ us hl => match us, hl with | [_, _], _ => rfl
  have g_place_of : mg "place_of" = some (.ref (He.ga K "place_of")) := He.glo_ok X G (c.fact 29 (f := .glo "place_of") rfl)
  have C_place_of : Cal K mg "place_of" (He.ga K "place_of") fd_place_of ["machine", "waiting"] := ⟨g_place_of, D_place_of.kp, b_place_of⟩
  obtain ⟨fd__law_mix, D__law_mix⟩ := c.def_ 39 (d := dd ("_law_mix", none) "_law_mix" "_law_mix" (top 48)) rfl
  have b__law_mix : Binds K fd__law_mix ["_law_script", "_law_seed"] [] := FunD.bindsN (ps := ["_law_script", "_law_seed"]) D__law_mix fun _ _ _ _ _ _ us hl => match us, hl with | [_, _], _ => rfl
  have g__law_mix : mg "_law_mix" = some (.ref (He.ga K "_law_mix")) := He.glo_ok X G (c.fact 30 (f := .glo "_law_mix") rfl)
  have C__law_mix : Cal K mg "_law_mix" (He.ga K "_law_mix") fd__law_mix ["_law_script", "_law_seed"] := ⟨g__law_mix, D__law_mix.kp, b__law_mix⟩
  obtain ⟨fd__law_next, D__law_next⟩ := c.def_ 40 (d := dd ("_law_next", none) "_law_next" "_law_next" (top 49)) rfl
  have b__law_next : Binds K fd__law_next ["_law_h", "_law_many"] [] := FunD.bindsN (ps := ["_law_h", "_law_many"]) D__law_next fun _ _ _ _ _ _ us hl => match us, hl with | [_, _], _ => rfl
  have g__law_next : mg "_law_next" = some (.ref (He.ga K "_law_next")) := He.glo_ok X G (c.fact 31 (f := .glo "_law_next") rfl)
  have C__law_next : Cal K mg "_law_next" (He.ga K "_law_next") fd__law_next ["_law_h", "_law_many"] := ⟨g__law_next, D__law_next.kp, b__law_next⟩
  obtain ⟨fd__law_alike, D__law_alike⟩ := c.def_ 41 (d := dd ("_law_alike", none) "_law_alike" "_law_alike" (top 50)) rfl
  have b__law_alike : Binds K fd__law_alike ["_law_found", "_law_due"] [] := FunD.bindsN (ps := ["_law_found", "_law_due"]) D__law_alike fun _ _ _ _ _ _ us hl => match us, hl with | [_, _], _ => rfl
  have g__law_alike : mg "_law_alike" = some (.ref (He.ga K "_law_alike")) := He.glo_ok X G (c.fact 32 (f := .glo "_law_alike") rfl)
  have C__law_alike : Cal K mg "_law_alike" (He.ga K "_law_alike") fd__law_alike ["_law_found", "_law_due"] := ⟨g__law_alike, D__law_alike.kp, b__law_alike⟩
  obtain ⟨fd__law_world, D__law_world⟩ := c.def_ 42 (d := dd ("_law_world", none) "_law_world" "_law_world" (top 51)) rfl
  have b__law_world : Binds K fd__law_world ["_law_h", "_law_most", "_law_cap"] [] := FunD.bindsN (ps := ["_law_h", "_law_most", "_law_cap"]) D__law_world fun _ _ _ _ _ _ us hl => match us, hl with | [_, _, _], _ => rfl
  have g__law_world : mg "_law_world" = some (.ref (He.ga K "_law_world")) := He.glo_ok X G (c.fact 33 (f := .glo "_law_world") rfl)
  have C__law_world : Cal K mg "_law_world" (He.ga K "_law_world") fd__law_world ["_law_h", "_law_most", "_law_cap"] := ⟨g__law_world, D__law_world.kp, b__law_world⟩
  obtain ⟨fd__law_rule, D__law_rule⟩ := c.def_ 43 (d := dd ("_law_rule", none) "_law_rule" "_law_rule" (top 52)) rfl
  have b__law_rule : Binds K fd__law_rule ["_law_h"] [] := FunD.bindsN (ps := ["_law_h"]) D__law_rule fun _ _ _ _ _ _ us hl => match us, hl with | [_], _ => rfl
  have g__law_rule : mg "_law_rule" = some (.ref (He.ga K "_law_rule")) := He.glo_ok X G (c.fact 34 (f := .glo "_law_rule") rfl)
  have C__law_rule : Cal K mg "_law_rule" (He.ga K "_law_rule") fd__law_rule ["_law_h"] := ⟨g__law_rule, D__law_rule.kp, b__law_rule⟩
  obtain ⟨fd__law_turn, D__law_turn⟩ := c.def_ 44 (d := dd ("_law_turn", none) "_law_turn" "_law_turn" (top 53)) rfl
  have b__law_turn : Binds K fd__law_turn ["_law_right", "_law_claims", "_law_last"] [] := FunD.bindsN (ps := ["_law_right", "_law_claims", "_law_last"]) D__law_turn fun _ _ _ _ _ _ us hl => match us, hl with | [_, _, _], _ => rfl
  have g__law_turn : mg "_law_turn" = some (.ref (He.ga K "_law_turn")) := He.glo_ok X G (c.fact 35 (f := .glo "_law_turn") rfl)
  have C__law_turn : Cal K mg "_law_turn" (He.ga K "_law_turn") fd__law_turn ["_law_right", "_law_claims", "_law_last"] := ⟨g__law_turn, D__law_turn.kp, b__law_turn⟩
  obtain ⟨fd__law_begun, D__law_begun⟩ := c.def_ 45 (d := dd ("_law_begun", none) "_law_begun" "_law_begun" (top 54)) rfl
  have b__law_begun : Binds K fd__law_begun ["_law_world_here", "_law_rule_here"] [] := FunD.bindsN (ps := ["_law_world_here", "_law_rule_here"]) D__law_begun fun _ _ _ _ _ _ us hl => match us, hl with | [_, _], _ => rfl
  have g__law_begun : mg "_law_begun" = some (.ref (He.ga K "_law_begun")) := He.glo_ok X G (c.fact 36 (f := .glo "_law_begun") rfl)
  have C__law_begun : Cal K mg "_law_begun" (He.ga K "_law_begun") fd__law_begun ["_law_world_here", "_law_rule_here"] := ⟨g__law_begun, D__law_begun.kp, b__law_begun⟩
  obtain ⟨fd__law_beat, D__law_beat⟩ := c.def_ 46 (d := dd ("_law_beat", none) "_law_beat" "_law_beat" (top 55)) rfl
  have b__law_beat : Binds K fd__law_beat ["_law_w", "_law_anew"] [] := FunD.bindsN (ps := ["_law_w", "_law_anew"]) D__law_beat fun _ _ _ _ _ _ us hl => match us, hl with | [_, _], _ => rfl
  have g__law_beat : mg "_law_beat" = some (.ref (He.ga K "_law_beat")) := He.glo_ok X G (c.fact 37 (f := .glo "_law_beat") rfl)
  have C__law_beat : Cal K mg "_law_beat" (He.ga K "_law_beat") fd__law_beat ["_law_w", "_law_anew"] := ⟨g__law_beat, D__law_beat.kp, b__law_beat⟩
  obtain ⟨fd__law_kind, D__law_kind⟩ := c.def_ 47 (d := dd ("_law_kind", none) "_law_kind" "_law_kind" (top 56)) rfl
  have b__law_kind : Binds K fd__law_kind ["_law_call"] [] := FunD.bindsN (ps := ["_law_call"]) D__law_kind fun _ _ _ _ _ _ us hl => match us, hl with | [_], _ => rfl
  have g__law_kind : mg "_law_kind" = some (.ref (He.ga K "_law_kind")) := He.glo_ok X G (c.fact 38 (f := .glo "_law_kind") rfl)
  have C__law_kind : Cal K mg "_law_kind" (He.ga K "_law_kind") fd__law_kind ["_law_call"] := ⟨g__law_kind, D__law_kind.kp, b__law_kind⟩
  obtain ⟨fd__law_state, D__law_state⟩ := c.def_ 48 (d := dd ("_law_state", none) "_law_state" "_law_state" (top 57)) rfl
  have b__law_state : Binds K fd__law_state ["_law_w"] [] := FunD.bindsN (ps := ["_law_w"]) D__law_state fun _ _ _ _ _ _ us hl => match us, hl with | [_], _ => rfl
  have g__law_state : mg "_law_state" = some (.ref (He.ga K "_law_state")) := He.glo_ok X G (c.fact 39 (f := .glo "_law_state") rfl)
  have C__law_state : Cal K mg "_law_state" (He.ga K "_law_state") fd__law_state ["_law_w"] := ⟨g__law_state, D__law_state.kp, b__law_state⟩
  obtain ⟨fd_law, D_law⟩ := c.def_ 49 (d := dd ("law", none) "law" "law" (top 58)) rfl
  have b_law : Binds K fd_law ["_law_script"] [] := FunD.bindsN (ps := ["_law_script"]) D_law fun _ _ _ _ _ _ us hl => match us, hl with | [_], _ => rfl
  have g_law : mg "law" = some (.ref (He.ga K "law")) := He.glo_ok X G (c.fact 40 (f := .glo "law") rfl)
  have C_law : Cal K mg "law" (He.ga K "law") fd_law ["_law_script"] := ⟨g_law, D_law.kp, b_law⟩
  obtain ⟨fd_Run_enter, D_Run_enter⟩ := c.def_ 50 (d := dd ("Run", some "enter") "enter" "Shop.enter" (inClass (top 34) 1)) rfl
  have b_Run_enter : Binds K fd_Run_enter ["self", "steps"] [] := FunD.bindsN (ps := ["self", "steps"]) D_Run_enter fun _ _ _ _ _ _ us hl => match us, hl with | [_, _], _ => rfl
  have M_Run_enter : Met K (He.ga K "Run") "enter" (He.ma K (He.ga K "Run") "enter") fd_Run_enter ["self", "steps"] := ⟨He.cls_ok (c.fact 74 (f := .cls "Run") rfl), He.meth_ok (c.fact 96 (f := .meth "Run" "enter") rfl), b_Run_enter⟩
  obtain ⟨fd_Run_open_beat, D_Run_open_beat⟩ := c.def_ 51 (d := dd ("Run", some "open_beat") "open_beat" "Shop.open_beat" (inClass (top 34) 2)) rfl
  have b_Run_open_beat : Binds K fd_Run_open_beat ["self"] [] := FunD.bindsN (ps := ["self"]) D_Run_open_beat fun _ _ _ _ _ _ us hl => match us, hl with | [_], _ => rfl
  have M_Run_open_beat : Met K (He.ga K "Run") "open_beat" (He.ma K (He.ga K "Run") "open_beat") fd_Run_open_beat ["self"] := ⟨He.cls_ok (c.fact 74 (f := .cls "Run") rfl), He.meth_ok (c.fact 97 (f := .meth "Run" "open_beat") rfl), b_Run_open_beat⟩
  obtain ⟨fd_Run_end_steps, D_Run_end_steps⟩ := c.def_ 52 (d := dd ("Run", some "end_steps") "end_steps" "Shop.end_steps" (inClass (top 34) 3)) rfl
  have b_Run_end_steps : Binds K fd_Run_end_steps ["self"] [] := FunD.bindsN (ps := ["self"]) D_Run_end_steps fun _ _ _ _ _ _ us hl => match us, hl with | [_], _ => rfl
  have M_Run_end_steps : Met K (He.ga K "Run") "end_steps" (He.ma K (He.ga K "Run") "end_steps") fd_Run_end_steps ["self"] := ⟨He.cls_ok (c.fact 74 (f := .cls "Run") rfl), He.meth_ok (c.fact 98 (f := .meth "Run" "end_steps") rfl), b_Run_end_steps⟩
  obtain ⟨fd_Run_put_in, D_Run_put_in⟩ := c.def_ 53 (d := dd ("Run", some "put_in") "put_in" "Shop.put_in" (inClass (top 34) 4)) rfl
  have b_Run_put_in : Binds K fd_Run_put_in ["self", "many"] [] := FunD.bindsN (ps := ["self", "many"]) D_Run_put_in fun _ _ _ _ _ _ us hl => match us, hl with | [_, _], _ => rfl
  have M_Run_put_in : Met K (He.ga K "Run") "put_in" (He.ma K (He.ga K "Run") "put_in") fd_Run_put_in ["self", "many"] := ⟨He.cls_ok (c.fact 74 (f := .cls "Run") rfl), He.meth_ok (c.fact 99 (f := .meth "Run" "put_in") rfl), b_Run_put_in⟩
  obtain ⟨fd_Run_begin, D_Run_begin⟩ := c.def_ 54 (d := dd ("Run", some "begin") "begin" "Shop.begin" (inClass (top 34) 5)) rfl
  have b_Run_begin : Binds K fd_Run_begin ["self", "machine"] [] := FunD.bindsN (ps := ["self", "machine"]) D_Run_begin fun _ _ _ _ _ _ us hl => match us, hl with | [_, _], _ => rfl
  have M_Run_begin : Met K (He.ga K "Run") "begin" (He.ma K (He.ga K "Run") "begin") fd_Run_begin ["self", "machine"] := ⟨He.cls_ok (c.fact 74 (f := .cls "Run") rfl), He.meth_ok (c.fact 100 (f := .meth "Run" "begin") rfl), b_Run_begin⟩
  obtain ⟨fd_Run_close_beat, D_Run_close_beat⟩ := c.def_ 55 (d := dd ("Run", some "close_beat") "close_beat" "Shop.close_beat" (inClass (top 34) 6)) rfl
  have b_Run_close_beat : Binds K fd_Run_close_beat ["self"] [] := FunD.bindsN (ps := ["self"]) D_Run_close_beat fun _ _ _ _ _ _ us hl => match us, hl with | [_], _ => rfl
  have M_Run_close_beat : Met K (He.ga K "Run") "close_beat" (He.ma K (He.ga K "Run") "close_beat") fd_Run_close_beat ["self"] := ⟨He.cls_ok (c.fact 74 (f := .cls "Run") rfl), He.meth_ok (c.fact 101 (f := .meth "Run" "close_beat") rfl), b_Run_close_beat⟩
  obtain ⟨fd_Run_waiting, D_Run_waiting⟩ := c.def_ 56 (d := dd ("Run", some "waiting") "waiting" "Shop.waiting" (inClass (top 34) 7)) rfl
  have b_Run_waiting : Binds K fd_Run_waiting ["self"] [] := FunD.bindsN (ps := ["self"]) D_Run_waiting fun _ _ _ _ _ _ us hl => match us, hl with | [_], _ => rfl
  have M_Run_waiting : Met K (He.ga K "Run") "waiting" (He.ma K (He.ga K "Run") "waiting") fd_Run_waiting ["self"] := ⟨He.cls_ok (c.fact 74 (f := .cls "Run") rfl), He.meth_ok (c.fact 102 (f := .meth "Run" "waiting") rfl), b_Run_waiting⟩
  have B : Blt mg := ⟨He.free_ok X G (c.fact 45 (f := .free "len") rfl), He.free_ok X G (c.fact 46 (f := .free "list") rfl), He.free_ok X G (c.fact 47 (f := .free "tuple") rfl), He.free_ok X G (c.fact 48 (f := .free "max") rfl), He.free_ok X G (c.fact 49 (f := .free "min") rfl), He.free_ok X G (c.fact 50 (f := .free "range") rfl), He.free_ok X G (c.fact 51 (f := .free "sum") rfl), He.free_ok X G (c.fact 52 (f := .free "sorted") rfl), He.free_ok X G (c.fact 53 (f := .free "enumerate") rfl), He.free_ok X G (c.fact 54 (f := .free "zip") rfl), He.free_ok X G (c.fact 55 (f := .free "isinstance") rfl), He.free_ok X G (c.fact 56 (f := .free "int") rfl), He.free_ok X G (c.fact 57 (f := .free "str") rfl), He.free_ok X G (c.fact 58 (f := .free "bool") rfl), He.free_ok X G (c.fact 59 (f := .free "ValueError") rfl)⟩
  have Bany : mg "any" = none := He.free_ok X G (c.fact 60 (f := .free "any") rfl)
  have Bdivmod : mg "divmod" = none := He.free_ok X G (c.fact 61 (f := .free "divmod") rfl)
  obtain ⟨xK, x0⟩ := He.ba x
  obtain ⟨xE, x0⟩ := He.ba x0
  obtain ⟨xT, x⟩ := He.ba x0
  obtain ⟨xR, y0⟩ := He.ba x
  obtain ⟨xM, y1⟩ := He.ba y0
  obtain ⟨xN, y2⟩ := He.ba y1
  have xS := y2
  have HM : ClsF K (He.ga K "Machine") mkeys := ⟨He.cls_ok (c.fact 72 (f := .cls "Machine") rfl), fun f hf => He.noat_ok (List.all_eq_true.mp xM f hf)⟩
  have HR : ClsF K (He.ga K "Run") rkeys := ⟨He.cls_ok (c.fact 74 (f := .cls "Run") rfl), fun f hf => He.noat_ok (List.all_eq_true.mp xN f hf)⟩
  obtain ⟨t_MOST_CAP, g_MOST_CAP⟩ := He.int_ok X G (c.fact 62 (f := .int "MOST_CAP" 99) rfl)
  obtain ⟨t_MOST_REFILL, g_MOST_REFILL⟩ := He.int_ok X G (c.fact 63 (f := .int "MOST_REFILL" 9) rfl)
  obtain ⟨t_MOST_MACHINES, g_MOST_MACHINES⟩ := He.int_ok X G (c.fact 64 (f := .int "MOST_MACHINES" 5) rfl)
  obtain ⟨t_MOST_STEPS, g_MOST_STEPS⟩ := He.int_ok X G (c.fact 65 (f := .int "MOST_STEPS" 6) rfl)
  obtain ⟨t_MOST_LONG, g_MOST_LONG⟩ := He.int_ok X G (c.fact 66 (f := .int "MOST_LONG" 9) rfl)
  obtain ⟨t_DRAW, g_DRAW⟩ := He.int_ok X G (c.fact 67 (f := .int "DRAW" 0) rfl)
  obtain ⟨t_LONG, g_LONG⟩ := He.int_ok X G (c.fact 68 (f := .int "LONG" 1) rfl)
  obtain ⟨t_BACK, g_BACK⟩ := He.int_ok X G (c.fact 69 (f := .int "BACK" 2) rfl)
  obtain ⟨t_MOST_ROUND, g_MOST_ROUND⟩ := He.int_ok X G (c.fact 70 (f := .int "MOST_ROUND" 5000) rfl)
  obtain ⟨t_MOST_AFTER, g_MOST_AFTER⟩ := He.int_ok X G (c.fact 71 (f := .int "MOST_AFTER" 1000000000000) rfl)
  have CF_Shop___init__ : ClsFn K (He.ga K "Shop") "__init__" (He.ma K (He.ga K "Shop") "__init__") fd_Shop___init__ ["self", "world", "anew"] := clsFn_ok xS D_Shop___init__.kp b_Shop___init__
  have MK_Machine := He.mkr_ok (c.fact 75 (f := .mkr "Machine") rfl)
  have MKg_Machine : mg "Machine" = some (.ref (He.ga K "Machine")) := He.glo_ok X G (c.fact 41 (f := .glo "Machine") rfl)
  have MK_Shop := He.mkr_ok (c.fact 76 (f := .mkr "Shop") rfl)
  have MKg_Shop : mg "Shop" = some (.ref (He.ga K "Shop")) := He.glo_ok X G (c.fact 42 (f := .glo "Shop") rfl)
  have MK_Run := He.mkr_ok (c.fact 77 (f := .mkr "Run") rfl)
  have MKg_Run : mg "Run" = some (.ref (He.ga K "Run")) := He.glo_ok X G (c.fact 43 (f := .glo "Run") rfl)
  have gRIGHTS : mg "RIGHTS" = some (.ref (He.ga K "RIGHTS")) := He.glo_ok X G (c.fact 44 (f := .glo "RIGHTS") rfl)
  have tRIGHTS : ∀ H, SqT K H (He.ga K "RIGHTS") [.str "rank", .str "turns", .str "wait", .str "least"] := fun H => He.tupB_ok xR H
  have e := hfa.symm.trans g_law
  cases e
  obtain ⟨a0, o0, fd0, cL, Pt, t1, t2, t3, t4, t5, t6⟩ := hTab
  rw [g_law] at t1
  cases t1
  have FL : Fun K "law" "law" s_law (He.ga K "law") fd_law := funOf D_law
  obtain ⟨oc, od, kV, doc, pm, an, cdv, ct, osl, efd, lk, hcdK⟩ := FL.ex
  have g1 := X _ _ lk
  rw [g1] at t2
  cases t2
  cases t3
  have hcd : fd_law.code = .ref cL := t4
  have ecd : cdv = .ref cL := by have z := t4; rw [efd] at z; exact z
  have nP : K.lookup Pt = none := tab_none xT lk hcd hcdK X t5 ecd
  refine ⟨fd_law, [(cL, Pt)], LS (aLaw K Pt), fun p hp => by rw [List.mem_singleton.mp hp]; exact t6, fun p hp => by rw [List.mem_singleton.mp hp]; exact nP, fun p hp => by rw [List.mem_singleton.mp hp]; exact t5, fun s v => FunD.bindsA (ps := ["_law_script"]) D_law (fun _ _ _ _ _ _ us hl => match us, hl with | [_], _ => rfl) s [v] rfl, ?_, fun base _ _ TBh => ?_⟩
  · exact fun H a ns hl _ hH hS => ⟨fun _ F H => F = H, H, fun v _ => v = .bl true, Obr.hid_eq, rfl, ⟨a, ns, rfl, hS, hl, hH (cL, Pt) (List.mem_singleton_self _), fun _ => rfl⟩, fun v F' H' e r => r⟩
  have G_next := ok_next (P := P) (w := w) (K := K) (mg := mg) (base := base) (funOf D__law_next) B
  have G_mix := ok_mix (P := P) (w := w) (K := K) (mg := mg) (base := base) (funOf D__law_mix) B
  have G_rule := ok_rule (P := P) (w := w) (K := K) (mg := mg) (base := base) (funOf D__law_rule) B C__law_next G_next
  have G_world := ok_world (P := P) (w := w) (K := K) (mg := mg) (base := base) (funOf D__law_world) B C__law_next G_next
  have G_turn := ok_turn (P := P) (w := w) (K := K) (mg := mg) (base := base) (funOf D__law_turn) B
  have G_begun := ok_begun (P := P) (w := w) (K := K) (mg := mg) (base := base) (funOf D__law_begun) B
  have G_beat := ok_beat (P := P) (w := w) (K := K) (mg := mg) (base := base) (funOf D__law_beat) B C__law_turn G_turn
  have G_alike := ok_alike (P := P) (w := w) (K := K) (mg := mg) (base := base) (funOf D__law_alike) B C__law_alike 4
  have G_m_is_done := ok_Machine_is_done (P := P) (w := w) (K := K) (mg := mg) (base := base) (funOf D_Machine_is_done) B HM
  have G_m_is_busy := ok_Machine_is_busy (P := P) (w := w) (K := K) (mg := mg) (base := base) (funOf D_Machine_is_busy) B HM
  have G_m_is_waiting := ok_Machine_is_waiting (P := P) (w := w) (K := K) (mg := mg) (base := base) (funOf D_Machine_is_waiting) B HM M_Machine_is_busy G_m_is_busy M_Machine_is_done G_m_is_done
  have G_m_need := ok_Machine_need (P := P) (w := w) (K := K) (mg := mg) (base := base) (funOf D_Machine_need) B HM g_DRAW
  have G_m_begin_step := ok_Machine_begin_step (P := P) (w := w) (K := K) (mg := mg) (base := base) (funOf D_Machine_begin_step) B HM g_LONG
  have G_m_end_step := ok_Machine_end_step (P := P) (w := w) (K := K) (mg := mg) (base := base) (funOf D_Machine_end_step) B HM g_BACK
  have G_m_begin_anew := ok_Machine_begin_anew (P := P) (w := w) (K := K) (mg := mg) (base := base) (funOf D_Machine_begin_anew) B HM
  have G_m_init := ok_Machine___init__ (P := P) (w := w) (K := K) (mg := mg) (base := base) (funOf D_Machine___init__) B HM
  have G_r_put_in := ok_Shop_put_in (P := P) (w := w) (K := K) (mg := mg) (base := base) (sh := false) (funOf D_Run_put_in) B HR
  have G_r_waiting := ok_Shop_waiting (P := P) (w := w) (K := K) (mg := mg) (base := base) (sh := false) (funOf D_Run_waiting) B HR M_Machine_is_waiting G_m_is_waiting
  have G_r_end_steps := ok_Shop_end_steps (P := P) (w := w) (K := K) (mg := mg) (base := base) (sh := false) (funOf D_Run_end_steps) B HR HM M_Run_put_in G_r_put_in M_Machine_end_step G_m_end_step M_Machine_is_done G_m_is_done M_Machine_begin_anew G_m_begin_anew
  have G_r_begin := ok_Shop_begin (P := P) (w := w) (K := K) (mg := mg) (base := base) (sh := false) (funOf D_Run_begin) B HR HM M_Machine_need G_m_need M_Machine_begin_step G_m_begin_step
  have G_r_close_beat := ok_Shop_close_beat (P := P) (w := w) (K := K) (mg := mg) (base := base) (sh := false) (funOf D_Run_close_beat) B HR HM
  have G_r_open_beat := ok_Shop_open_beat (P := P) (w := w) (K := K) (mg := mg) (base := base) (sh := false) (funOf D_Run_open_beat) B HR HM M_Run_end_steps G_r_end_steps M_Run_put_in G_r_put_in
  have G_r_enter1 := ok_Shop_enter (P := P) (w := w) (K := K) (mg := mg) (base := base) (sh := true) (funOf D_Run_enter) B HR HM MK_Machine G_m_init MKg_Machine b_Machine___init__
  have G_Shop___init__ := ok_Shop___init__ (P := P) (w := w) (K := K) (mg := mg) (base := base) (C := He.ga K "Run") (funOf D_Shop___init__) B HR HM M_Run_enter G_r_enter1
  have G_behind := ok_behind_first (P := P) (w := w) (K := K) (mg := mg) (base := base) (funOf D_behind_first) B
  have G_least := ok_least_first (P := P) (w := w) (K := K) (mg := mg) (base := base) (funOf D_least_first) B
  have G_in_turn := ok_in_turn (P := P) (w := w) (K := K) (mg := mg) (base := base) (funOf D_in_turn) B HM C_least_first G_least C_behind_first G_behind M_Machine_need G_m_need
  have G_r_begin_steps := ok_Run_begin_steps (P := P) (w := w) (K := K) (mg := mg) (base := base) (funOf D_Run_begin_steps) B HR HM M_Run_waiting G_r_waiting C_in_turn G_in_turn M_Machine_need G_m_need M_Run_begin G_r_begin
  have G_r_do_beat := ok_Run_do_beat (P := P) (w := w) (K := K) (mg := mg) (base := base) (funOf D_Run_do_beat) B HR HM M_Run_open_beat G_r_open_beat M_Run_begin_steps G_r_begin_steps M_Run_close_beat G_r_close_beat
  have G_r_init := ok_Run___init__ (P := P) (w := w) (K := K) (mg := mg) (base := base) (funOf D_Run___init__) B HR HM MKg_Shop CF_Shop___init__ G_Shop___init__
  have G_is_step := ok_is_step (P := P) (w := w) (K := K) (mg := mg) (base := base) (funOf D_is_step) B g_MOST_LONG
  have G_check_store := ok_check_store (P := P) (w := w) (K := K) (mg := mg) (base := base) (funOf D_check_store) B g_MOST_CAP g_MOST_REFILL
  have G_check_steps := ok_check_steps (P := P) (w := w) (K := K) (mg := mg) (base := base) (funOf D_check_steps) B g_MOST_STEPS C_is_step G_is_step
  have G_check_world := ok_check_world (P := P) (w := w) (K := K) (mg := mg) (base := base) (funOf D_check_world) B g_MOST_MACHINES C_check_store G_check_store C_check_steps G_check_steps
  have G_check_rule := ok_check_rule (P := P) (w := w) (K := K) (mg := mg) (base := base) (funOf D_check_rule) B gRIGHTS tRIGHTS
  have G_check_count := ok_check_count (P := P) (w := w) (K := K) (mg := mg) (base := base) (funOf D_check_count) B
  have G_checked_run := ok_checked_run (P := P) (w := w) (K := K) (mg := mg) (base := base) (funOf D_checked_run) B C_check_world G_check_world C_check_rule G_check_rule MK_Run G_r_init MKg_Run b_Run___init__
  have G_m_left := ok_Machine_left (P := P) (w := w) (K := K) (mg := mg) (base := base) (funOf D_Machine_left) B HM M_Machine_is_busy G_m_is_busy
  have G_place_of := ok_place_of (P := P) (w := w) (K := K) (mg := mg) (base := base) (C := He.ga K "Run") (funOf D_place_of) B HM M_Machine_is_waiting G_m_is_waiting
  have G_memory_of := ok_memory_of (P := P) (w := w) (K := K) (mg := mg) (base := base) (funOf D_memory_of) B HR HM M_Run_waiting G_r_waiting C_place_of G_place_of
  have G_picture_of := ok_picture_of (P := P) (w := w) (K := K) (mg := mg) (base := base) (funOf D_picture_of) B HR HM M_Machine_left G_m_left C_memory_of G_memory_of
  have G_come_round := ok_come_round (P := P) (w := w) (K := K) (mg := mg) (base := base) (funOf D_come_round) B HR HM g_MOST_ROUND M_Run_do_beat G_r_do_beat C_picture_of G_picture_of
  have G_gained := ok_gained (P := P) (w := w) (K := K) (mg := mg) (base := base) (funOf D_gained) B
  have G_after := ok_after (P := P) (w := w) (K := K) (mg := mg) (base := base) (funOf D_after) B Bdivmod g_MOST_AFTER C_checked_run G_checked_run C_check_count G_check_count C_come_round G_come_round C_gained G_gained
  have G_period := ok_period (P := P) (w := w) (K := K) (mg := mg) (base := base) (funOf D_period) B C_checked_run G_checked_run C_come_round G_come_round C_gained G_gained
  have gc_BadStep : mg "BadStep" = some (.ref (He.ga K "BadStep")) := He.glo_ok X G (c.fact 2 (f := .glo "BadStep") rfl)
  have gc_BadPlan : mg "BadPlan" = some (.ref (He.ga K "BadPlan")) := He.glo_ok X G (c.fact 3 (f := .glo "BadPlan") rfl)
  have gc_NoMachine : mg "NoMachine" = some (.ref (He.ga K "NoMachine")) := He.glo_ok X G (c.fact 4 (f := .glo "NoMachine") rfl)
  have gc_BadDeed : mg "BadDeed" = some (.ref (He.ga K "BadDeed")) := He.glo_ok X G (c.fact 5 (f := .glo "BadDeed") rfl)
  have gc_BadText : mg "BadText" = some (.ref (He.ga K "BadText")) := He.glo_ok X G (c.fact 6 (f := .glo "BadText") rfl)
  have gc_BadStore : mg "BadStore" = some (.ref (He.ga K "BadStore")) := He.glo_ok X G (c.fact 7 (f := .glo "BadStore") rfl)
  have gc_BadRule : mg "BadRule" = some (.ref (He.ga K "BadRule")) := He.glo_ok X G (c.fact 8 (f := .glo "BadRule") rfl)
  have gc_BadCount : mg "BadCount" = some (.ref (He.ga K "BadCount")) := He.glo_ok X G (c.fact 9 (f := .glo "BadCount") rfl)
  have gc_TooMany : mg "TooMany" = some (.ref (He.ga K "TooMany")) := He.glo_ok X G (c.fact 10 (f := .glo "TooMany") rfl)
  have gc_BreathError : mg "BreathError" = some (.ref (He.ga K "BreathError")) := He.glo_ok X G (c.fact 11 (f := .glo "BreathError") rfl)
  have XBadCount : XF K mg "BadCount" (He.ga K "BadCount") := let z := He.exc_ok (c.fact 0 (f := .exc "BadCount") rfl); ⟨z.1, gc_BadCount, z.2.1, z.2.2.1, z.2.2.2⟩
  have xm := He.exm_ok (c.fact 1 (f := .exm "BadCount" "BreathError" true) rfl)
  unfold kitBx at xK
  unfold excB at xE
  simp only [Bool.and_eq_true] at xK xE
  obtain ⟨⟨⟨⟨⟨⟨⟨⟨⟨k1, k2⟩, k3⟩, k4⟩, k5⟩, k6⟩, k7⟩, k8⟩, k9⟩, k10⟩ := xK
  obtain ⟨⟨⟨⟨⟨⟨⟨e1, e2⟩, e3⟩, e4⟩, e5⟩, e6⟩, e7⟩, e8⟩ := xE
  have XC : ExcC K (He.ga K "BadCount") := ⟨He.eqO_ok e1, He.eqO_ok e2, of_decide_eq_true e3, e4, He.eqO_ok e5, He.eqO_ok e6, of_decide_eq_true e7, of_decide_eq_true e8⟩
  have G_countX := okX_check_count (P := P) (w := w) (K := K) (mg := mg) (base := base) (funOf D_check_count) B XBadCount
  have G_afterX := okX_after (P := P) (w := w) (K := K) (mg := mg) (base := base) (funOf D_after) B HR HM g_MOST_AFTER C_checked_run G_checked_run C_check_count G_countX
  have G_lstate := ok__law_state (P := P) (w := w) (K := K) (mg := mg) (base := base) (funOf D__law_state) B
  have G_kind := gok_kind (P := P) (w := w) (K := K) (mg := mg) (base := base) (kl := 9) (funOf D__law_kind) B C__law_kind gc_BadStep gc_BadPlan gc_NoMachine gc_BadDeed gc_BadText gc_BadStore gc_BadRule gc_BadCount gc_TooMany gc_BreathError (of_decide_eq_true k1) (of_decide_eq_true k2) (of_decide_eq_true k3) (of_decide_eq_true k4) (of_decide_eq_true k5) (of_decide_eq_true k6) (of_decide_eq_true k7) (of_decide_eq_true k8) (of_decide_eq_true k9) (of_decide_eq_true k10) xm XC
  exact ok_law (P := P) (w := w) (K := K) (mg := mg) (base := base) (funOf D_law) B C__law_mix G_mix C__law_world G_world C__law_next G_next C__law_rule G_rule C__law_begun G_begun C__law_beat G_beat C__law_alike G_alike C_after G_after C_period G_period C__law_state G_lstate G_afterX C__law_kind G_kind (TBh (cL, Pt) (List.mem_singleton_self _)) hcd
end Obr
open PySem PySem.W PySem.Calls PyProof.Rows
theorem PySem.Challenge.cw_onebreath_k04_whole_rounds_for_ever_holds : PySem.Challenge.rw_onebreath_k04_whole_rounds_for_ever.Holds := by
  w_on; o_law
  refine HandSHeadRun.head_any (r := OpenLaw.row PySem.Challenge.rw_onebreath_k04_whole_rounds_for_ever) (q := view (OpenLaw.row PySem.Challenge.rw_onebreath_k04_whole_rounds_for_ever).prog [58]) (H := Obr.hk) (ob := Obr.ob) (M := 6000) (loose := Obr.loose) (d := HandSHeadRun.topDef (OpenLaw.row PySem.Challenge.rw_onebreath_k04_whole_rounds_for_ever).prog 58) (kwd := []) Obr.ob_eq
    (by kernel_rfl) (fun s => by kernel_rfl) Obr.run (by kernel_rfl) (by kernel_rfl) (by kernel_rfl) (by rfl) (by first | assumption | decide +kernel) (by decide +kernel) ⟨rfl, rfl, rfl, rfl, rfl, by decide +kernel⟩ ?hw ?hc
  case hw => w_witness2
  case hc =>
    refine Obr.walk_ofTsG (l := PySem.Challenge.rw_onebreath_k04_whole_rounds_for_ever) (n := 63) (k := 11) (x := "_law_script") (CX := fun _ => L2.CX0) rfl (by decide) (by kernel_rfl) ⟨rfl, by decide, by decide⟩ (by kernel_rfl) ?F (fun _ _ _ _ _ z => z)
    intro w mg fa h Y G hmg0 hTab
    obtain ⟨K, KX, c, x⟩ := Y
    have e : (HandSHeadRun.topDef (OpenLaw.row PySem.Challenge.rw_onebreath_k04_whole_rounds_for_ever).prog 58).name = ("law" : PySem.Str) := by kernel_rfl
    rw [e] at hmg0 hTab
    exact ⟨K, KX, Obr.facts (P := (PySem.Challenge.rw_onebreath_k04_whole_rounds_for_ever).prog) (w := w) KX G hmg0 c x hTab⟩
