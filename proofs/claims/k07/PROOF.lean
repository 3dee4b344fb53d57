import PyProof.Rows.All
import Wide.All
import OpenK.AllK
import Wide.FinOn
import HandS.ForMost
import HandS.Conv
import HandS.TupAny
import HandS.Wide
import HandS.TupLe
import HandS.Deep
import HandS.SetFor
import HandS.Style
import HandS.Comp
import HandS.SortKw
import HandS.List
import KE.DataMinMax
import KE.GoesEnum
import HandS.Walk
import KE.GoesMore
import HandS.Zip
import HandS.Iter
import HandS.Lambda
import HandS.Nested
import KE.KDflt
import HandS.ExcOwn
import KE.GoesComp
import HandS.ExcIs
import HandS.RaiseMore
import HandS.FStr
import HandS.WordsExc
import HandS.IsInst
import HandS.HeadWalk
import HandS.EndOwn
import HandS.Head0
import HandS.Head1
import HandS.Head2
import HandS.Head3
import HandS.HeadEnd
import HandS.HeadHook1
import HandS.HeadHook2
import PySem.Challenge.RW_onebreath_k07_floors_and_needs
set_option Elab.async false
set_option linter.all false
set_option maxRecDepth 100000
set_option maxHeartbeats 0
namespace Obr
open PySem L2

/-! ### 1. A heap F that is spoken of, and what is hidden of the true heap H: J s F H, s the state of what is hidden -/
structure Hid {S : Type} (J : S → Hp → Hp → Prop) : Prop where
  ex : ∀ {s F H}, J s F H → ∀ a o, F a = some o → H a = some o
  al : ∀ {s F H p o}, J s F H → H p = none → J s (upd F p o) (upd H p o)
  mu : ∀ {s F H a o o'}, J s F H → F a = some o → J s (upd F a o') (upd H a o')

section
variable {S : Type} {J : S → Hp → Hp → Prop}
theorem Hid.fresh (hd : Hid J) {s F H p} (j : J s F H) (h : H p = none) : F p = none := by
  cases e : F p with
  | none => rfl
  | some o =>
    rw [hd.ex j _ _ e] at h
    cases h
theorem Hid.sqL (hd : Hid J) {s F H} (j : J s F H) {K a xs} (h : SqL K F a xs) : SqL K H a xs := by
  rcases h with (h | ⟨o, h⟩) | h
  · exact Or.inl (Or.inl (hd.ex j _ _ h))
  · exact Or.inl (Or.inr ⟨o, hd.ex j _ _ h⟩)
  · exact Or.inr h
theorem Hid.sqT (hd : Hid J) {s F H} (j : J s F H) {K a xs} (h : SqT K F a xs) : SqT K H a xs := by
  rcases h with (h | ⟨o, h⟩) | h
  · exact Or.inl (Or.inl (hd.ex j _ _ h))
  · exact Or.inl (Or.inr ⟨o, hd.ex j _ _ h⟩)
  · exact Or.inr h
end
/-- nothing hidden -/
theorem hid_eq : Hid (fun (_ : Unit) F H => F = H) where
  ex := fun {s F H} j a o h => by cases j; exact h
  al := fun {s F H p o} j h => by cases j; rfl
  mu := fun {s F H a o o'} j h => by cases j; rfl

/-! ### 2. What a reading comes to, over F -/
def EW {S : Type} (J : S → Hp → Hp → Prop) (te : TE) (σ : L2.St) (s : S) (F : Hp) (R : V → S → Hp → Prop) : Prop :=
  ∀ H, J s F H → ∀ Q : VK, (∀ v s' F' H', J s' F' H' → R v s' F' → Q v H') → te σ H Q
def TW {S : Type} (J : S → Hp → Hp → Prop) (tt : TT) (σ : L2.St) (s : S) (F : Hp) (R : Bool → S → Hp → Prop) : Prop :=
  ∀ H, J s F H → ∀ Q : Bool → Hp → Prop, (∀ b s' F' H', J s' F' H' → R b s' F' → Q b H') → tt σ H Q
def AW {S : Type} (J : S → Hp → Hp → Prop) (ta : TA) (σ : L2.St) (s : S) (F : Hp) (R : List V → S → Hp → Prop) : Prop :=
  ∀ H, J s F H → ∀ Q : List V → Hp → Prop, (∀ vs s' F' H', J s' F' H' → R vs s' F' → Q vs H') → ta σ H Q
def OW {S : Type} (J : S → Hp → Hp → Prop) (to : TO) (σ : L2.St) (s : S) (F : Hp) (R : Option Int → S → Hp → Prop) : Prop :=
  ∀ H, J s F H → ∀ Q : Option Int → Hp → Prop, (∀ o s' F' H', J s' F' H' → R o s' F' → Q o H') → to σ H Q
/-- an operation on values -/
def RW {S : Type} (J : S → Hp → Hp → Prop) (r : R2) (x y : V) (s : S) (F : Hp) (R : V → S → Hp → Prop) : Prop :=
  ∀ H, J s F H → ∀ Q : VK, (∀ v s' F' H', J s' F' H' → R v s' F' → Q v H') → r x y H Q
def UW {S : Type} (J : S → Hp → Hp → Prop) (r : V → Hp → VK → Prop) (x : V) (s : S) (F : Hp) (R : V → S → Hp → Prop) : Prop :=
  ∀ H, J s F H → ∀ Q : VK, (∀ v s' F' H', J s' F' H' → R v s' F' → Q v H') → r x H Q
def CW {S : Type} (J : S → Hp → Hp → Prop) (r : List V → Hp → VK → Prop) (vs : List V) (s : S) (F : Hp) (R : V → S → Hp → Prop) : Prop :=
  ∀ H, J s F H → ∀ Q : VK, (∀ v s' F' H', J s' F' H' → R v s' F' → Q v H') → r vs H Q
def MW {S : Type} (J : S → Hp → Hp → Prop) (r : V → List V → Hp → VK → Prop) (x : V) (vs : List V) (s : S) (F : Hp) (R : V → S → Hp → Prop) : Prop :=
  ∀ H, J s F H → ∀ Q : VK, (∀ v s' F' H', J s' F' H' → R v s' F' → Q v H') → r x vs H Q
def GW {S : Type} (J : S → Hp → Hp → Prop) (g : TG) (x : V) (σ : L2.St) (s : S) (F : Hp) (N : L2.St → S → Hp → Prop) : Prop :=
  ∀ H, J s F H → ∀ Q : L2.St → Hp → Prop, (∀ σ' s' F' H', J s' F' H' → N σ' s' F' → Q σ' H') → g x σ H Q
def GsW {S : Type} (J : S → Hp → Hp → Prop) (g : TGs) (xs : List V) (σ : L2.St) (s : S) (F : Hp) (N : L2.St → S → Hp → Prop) : Prop :=
  ∀ H, J s F H → ∀ Q : L2.St → Hp → Prop, (∀ σ' s' F' H', J s' F' H' → N σ' s' F' → Q σ' H') → g xs σ H Q
/-- where a statement may go, over F -/
structure En (S : Type) where
  nx : L2.St → S → Hp → Prop
  rt : V → S → Hp → Prop
  bk : L2.St → S → Hp → Prop := fun _ _ _ => False
  ct : L2.St → S → Hp → Prop := fun _ _ _ => False
structure Lf {S : Type} (J : S → Hp → Hp → Prop) (D : En S) (D' : Ends) : Prop where
  nx : ∀ σ s F H, J s F H → D.nx σ s F → D'.nx σ H
  rt : ∀ v s F H, J s F H → D.rt v s F → D'.rt v H
  bk : ∀ σ s F H, J s F H → D.bk σ s F → D'.bk σ H
  ct : ∀ σ s F H, J s F H → D.ct σ s F → D'.ct σ H
def SW {S : Type} (J : S → Hp → Hp → Prop) (t : TS) (D : En S) (σ : L2.St) (s : S) (F : Hp) : Prop := ∀ H, J s F H → ∀ D' : Ends, Lf J D D' → t D' σ H

section
variable {S : Type} {J : S → Hp → Hp → Prop} {K : PySem.W.Frag} {σ : L2.St} {s : S} {F : Hp} {R : V → S → Hp → Prop} {ta tb te : TE} {tr : TA} {x y v : V}

theorem EW.imp {R' : V → S → Hp → Prop} (h : EW J te σ s F R) (i : ∀ v s' F', R v s' F' → R' v s' F') : EW J te σ s F R' := fun H j Q q => h H j Q fun v s' F' H' j' r => q v s' F' H' j' (i _ _ _ r)

/-! expressions -/
theorem ew_var {i : Nat} (h : σ[i]? = some (some v)) (k : R v s F) : EW J (tVar i) σ s F R := fun H j Q q => ⟨v, h, q v s F H j k⟩
theorem ew_c (k : R v s F) : EW J (tC v) σ s F R := fun H j Q q => q v s F H j k
theorem ew_op {r : R2} (h : EW J ta σ s F fun x s1 F1 => EW J tb σ s1 F1 fun y s2 F2 => RW J r x y s2 F2 R) : EW J (tOp r ta tb) σ s F R := fun H j Q q =>
  h H j _ fun x s1 F1 H1 j1 h1 => h1 H1 j1 _ fun y s2 F2 H2 j2 h2 => h2 H2 j2 Q q
theorem ew_un {r : V → Hp → VK → Prop} (h : EW J ta σ s F fun x s1 F1 => UW J r x s1 F1 R) : EW J (tUn r ta) σ s F R := fun H j Q q =>
  h H j _ fun x s1 F1 H1 j1 h1 => h1 H1 j1 Q q
theorem ew_cb {r : List V → Hp → VK → Prop} (h : AW J tr σ s F fun vs s1 F1 => CW J r vs s1 F1 R) : EW J (tCB r tr) σ s F R := fun H j Q q =>
  h H j _ fun vs s1 F1 H1 j1 h1 => h1 H1 j1 Q q
theorem aw_nil {R : List V → S → Hp → Prop} (k : R [] s F) : AW J tNil σ s F R := fun H j Q q => q [] s F H j k
theorem aw_cons {R : List V → S → Hp → Prop} (h : EW J te σ s F fun x s1 F1 => AW J tr σ s1 F1 fun vs s2 F2 => R (x :: vs) s2 F2) : AW J (tCons te tr) σ s F R := fun H j Q q =>
  h H j _ fun x s1 F1 H1 j1 h1 => h1 H1 j1 _ fun vs s2 F2 H2 j2 k => q _ _ _ _ j2 k
theorem ew_tup (hd : Hid J) (h : AW J tr σ s F fun vs s1 F1 => vs.length ≤ 100000 ∧ ∀ p, F1 p = none → R (.ref p) s1 (upd F1 p (.tup vs))) : EW J (tTup tr) σ s F R := fun H j Q q =>
  h H j _ fun vs s1 F1 H1 j1 k => ⟨Nat.le_trans k.1 (by decide), fun p hp => q _ _ _ _ (hd.al j1 hp) (k.2 p (hd.fresh j1 hp))⟩
theorem ew_lst (hd : Hid J) (h : AW J tr σ s F fun vs s1 F1 => vs.length ≤ 100000 ∧ ∀ p, F1 p = none → R (.ref p) s1 (upd F1 p (.lst vs))) : EW J (tLst tr) σ s F R := fun H j Q q =>
  h H j _ fun vs s1 F1 H1 j1 k => ⟨Nat.le_trans k.1 (by decide), fun p hp => q _ _ _ _ (hd.al j1 hp) (k.2 p (hd.fresh j1 hp))⟩
theorem ew_if {tt : TT} (h : TW J tt σ s F fun b s1 F1 => (b = true → EW J ta σ s1 F1 R) ∧ (b = false → EW J tb σ s1 F1 R)) : EW J (tIf tt ta tb) σ s F R := fun H j Q q =>
  h H j _ fun b s1 F1 H1 j1 k => by
    cases b with
    | true => exact k.1 rfl H1 j1 Q q
    | false => exact k.2 rfl H1 j1 Q q
theorem ew_and (h : EW J ta σ s F fun x s1 F1 => ∃ c, x = .bl c ∧ (c = true → EW J tb σ s1 F1 R) ∧ (c = false → R (.bl false) s1 F1)) : EW J (tAndV ta tb) σ s F R := fun H j Q q =>
  h H j _ fun x s1 F1 H1 j1 ⟨c, e, k1, k2⟩ => ⟨c, e, by
    cases c with
    | true => exact k1 rfl H1 j1 Q q
    | false => exact q _ _ _ _ j1 (k2 rfl)⟩
theorem ew_or (h : EW J ta σ s F fun x s1 F1 => ∃ c, x = .bl c ∧ (c = true → R (.bl true) s1 F1) ∧ (c = false → EW J tb σ s1 F1 R)) : EW J (tOrV ta tb) σ s F R := fun H j Q q =>
  h H j _ fun x s1 F1 H1 j1 ⟨c, e, k1, k2⟩ => ⟨c, e, by
    cases c with
    | true => exact q _ _ _ _ j1 (k1 rfl)
    | false => exact k2 rfl H1 j1 Q q⟩
theorem ew_not (h : EW J ta σ s F fun x s1 F1 => ∃ c, x = .bl c ∧ R (.bl (!c)) s1 F1) : EW J (tNotV ta) σ s F R := fun H j Q q =>
  h H j _ fun x s1 F1 H1 j1 ⟨c, e, k⟩ => ⟨c, e, q _ _ _ _ j1 k⟩
theorem ew_chain {r r' : R2} {tc : TE} (h : EW J ta σ s F fun x s1 F1 => EW J tb σ s1 F1 fun y s2 F2 => RW J r x y s2 F2 fun z s3 F3 => ∃ k, z = .bl k ∧ (k = true → EW J tc σ s3 F3 fun w s4 F4 => RW J r' y w s4 F4 R) ∧ (k = false → R (.bl false) s3 F3)) :
    EW J (tChain r r' ta tb tc) σ s F R := fun H j Q q =>
  h H j _ fun x s1 F1 H1 j1 h1 => h1 H1 j1 _ fun y s2 F2 H2 j2 h2 => h2 H2 j2 _ fun z s3 F3 H3 j3 ⟨k, e, k1, k2⟩ => ⟨k, e, by
    cases k with
    | true => exact k1 rfl H3 j3 _ fun w s4 F4 H4 j4 h4 => h4 H4 j4 Q q
    | false => exact q _ _ _ _ j3 (k2 rfl)⟩

/-! operations -/
theorem rw_I0 {g : Int → Int → V} {i k : Int} (h : R (g i k) s F) : RW J (rI0 g) (.int i) (.int k) s F R := fun H j Q q => ⟨i, k, rfl, rfl, q _ _ _ _ j h⟩
theorem rw_I {C : Int → Int → Prop} {g : Int → Int → V} {i k : Int} (c : C i k) (h : R (g i k) s F) : RW J (rI C g) (.int i) (.int k) s F R := fun H j Q q => ⟨i, k, rfl, rfl, c, q _ _ _ _ j h⟩
theorem uw_I {g : Int → V} {i : Int} (h : R (g i) s F) : UW J (rU g) (.int i) s F R := fun H j Q q => ⟨i, rfl, q _ _ _ _ j h⟩
theorem rw_eq (c : scal x y = true) (h : R (.bl (decide (x = y))) s F) : RW J rEq x y s F R := fun H j Q q => ⟨c, q _ _ _ _ j h⟩
theorem rw_ne (c : scal x y = true) (h : R (.bl (!decide (x = y))) s F) : RW J rNe x y s F R := fun H j Q q => ⟨c, q _ _ _ _ j h⟩
theorem rw_isN (h : R (.bl (decide (x = .non))) s F) : RW J (fun x y H Q => y = .non ∧ Q (.bl (decide (x = .non))) H) x .non s F R := fun H j Q q => ⟨rfl, q _ _ _ _ j h⟩
theorem rw_notN (h : R (.bl (!decide (x = .non))) s F) : RW J (fun x y H Q => y = .non ∧ Q (.bl (!decide (x = .non))) H) x .non s F R := fun H j Q q => ⟨rfl, q _ _ _ _ j h⟩
theorem rw_ixL (hd : Hid J) {p : Addr} {xs : List V} {i : Int} (l : SqL K F p xs) (a : atI xs i = some v) (h : R v s F) : RW J (rIxL K) (.ref p) (.int i) s F R := fun H j Q q => ⟨p, xs, i, v, rfl, rfl, hd.sqL j l, a, q _ _ _ _ j h⟩
theorem rw_ixT (hd : Hid J) {p : Addr} {xs : List V} {i : Int} (l : SqT K F p xs) (a : atI xs i = some v) (h : R v s F) : RW J (rIxT K) (.ref p) (.int i) s F R := fun H j Q q => ⟨p, xs, i, v, rfl, rfl, hd.sqT j l, a, q _ _ _ _ j h⟩
theorem rw_in (hd : Hid J) {p : Addr} {xs : List V} {neg : Bool} (l : SqL K F p xs ∨ SqT K F p xs) (c : flatV x = true) (a : xs.all flatV = true) (h : R (.bl (if neg then !inV x xs else inV x xs)) s F) : RW J (rIn K neg) x (.ref p) s F R :=
  fun H j Q q => ⟨p, xs, rfl, l.imp (hd.sqL j) (hd.sqT j), c, a, q _ _ _ _ j h⟩
theorem rw_cat (hd : Hid J) {l b : Addr} {xs zs : List V} (h1 : F l = some (.lst xs)) (h2 : F b = some (.lst zs)) (hl : xs.length + zs.length ≤ 100000) (h : ∀ p, F p = none → R (.ref p) s (upd F p (.lst (xs ++ zs)))) : RW J rCat (.ref l) (.ref b) s F R := fun H j Q q =>
  ⟨l, b, xs, zs, rfl, rfl, hd.ex j _ _ h1, hd.ex j _ _ h2, Nat.le_trans hl (by decide), fun p hp => q _ _ _ _ (hd.al j hp) (h p (hd.fresh j hp))⟩
theorem rw_rep (hd : Hid J) {l : Addr} {k : Int} {xs : List V} (h1 : F l = some (.lst xs)) (hk : -1000000 ≤ k ∧ k ≤ 1000000) (hl : xs.length * k.toNat ≤ 100000) (h : ∀ p, F p = none → R (.ref p) s (upd F p (.lst (List.replicate k.toNat xs).flatten))) : RW J rRep (.ref l) (.int k) s F R := fun H j Q q =>
  ⟨l, k, xs, rfl, rfl, hd.ex j _ _ h1, by omega, by omega, Nat.le_trans hl (by decide), fun p hp => q _ _ _ _ (hd.al j hp) (h p (hd.fresh j hp))⟩
/-! calls of built-ins -/
theorem cw_lenS (hd : Hid J) {p : Addr} {ys : List V} (l : SqL K F p ys ∨ SqT K F p ys) (h : R (.int ys.length) s F) : CW J (fun xs H Q => ∃ p ys, xs = [.ref p] ∧ (SqL K H p ys ∨ SqT K H p ys) ∧ Q (.int ys.length) H) [.ref p] s F R :=
  fun H j Q q => ⟨p, ys, rfl, l.imp (hd.sqL j) (hd.sqT j), q _ _ _ _ j h⟩
theorem cw_max2 {i k : Int} (h : R (.int (if k > i then k else i)) s F) : CW J (fun xs H Q => ∃ i j, xs = [.int i, .int j] ∧ Q (.int (if j > i then j else i)) H) [.int i, .int k] s F R := fun H j Q q => ⟨i, k, rfl, q _ _ _ _ j h⟩
theorem cw_min2 {i k : Int} (h : R (.int (if k < i then k else i)) s F) : CW J (fun xs H Q => ∃ i j, xs = [.int i, .int j] ∧ Q (.int (if j < i then j else i)) H) [.int i, .int k] s F R := fun H j Q q => ⟨i, k, rfl, q _ _ _ _ j h⟩
theorem cw_list (hd : Hid J) {p : Addr} {ys : List V} (l : SqL K F p ys ∨ SqT K F p ys) (h : ∀ a, F a = none → R (.ref a) s (upd F a (.lst ys))) : CW J (fun xs H Q => ∃ p ys, xs = [.ref p] ∧ (SqL K H p ys ∨ SqT K H p ys) ∧ ∀ l, H l = none → Q (.ref l) (upd H l (.lst ys))) [.ref p] s F R :=
  fun H j Q q => ⟨p, ys, rfl, l.imp (hd.sqL j) (hd.sqT j), fun a ha => q _ _ _ _ (hd.al j ha) (h a (hd.fresh j ha))⟩
theorem cw_tuple (hd : Hid J) {p : Addr} {ys : List V} (l : SqL K F p ys) (h : ∀ a, F a = none → R (.ref a) s (upd F a (.tup ys))) : CW J (fun xs H Q => ∃ p ys, xs = [.ref p] ∧ ((SqL K H p ys ∧ ∀ l, H l = none → Q (.ref l) (upd H l (.tup ys))) ∨ (SqT K H p ys ∧ Q (.ref p) H))) [.ref p] s F R :=
  fun H j Q q => ⟨p, ys, rfl, Or.inl ⟨hd.sqL j l, fun a ha => q _ _ _ _ (hd.al j ha) (h a (hd.fresh j ha))⟩⟩
theorem cw_sum (hd : Hid J) {a : Addr} {ns : List Int} (l : SqL K F a (ns.map V.int)) (h : R (.int ns.sum) s F) : CW J (rSum K) [.ref a] s F R := fun H j Q q => ⟨a, ns, rfl, hd.sqL j l, q _ _ _ _ j h⟩

/-! tests -/
variable {RB : Bool → S → Hp → Prop} {tA tB2 : TT}
theorem tw_test (h : EW J te σ s F fun x s1 F1 => ∃ b, x = .bl b ∧ RB b s1 F1) : TW J (tTest te) σ s F RB := fun H j Q q => h H j _ fun x s1 F1 H1 j1 ⟨b, e, k⟩ => ⟨b, e, q _ _ _ _ j1 k⟩
theorem tw_B (h : EW J te σ s F fun x s1 F1 => ∃ b, x = .bl b ∧ RB b s1 F1) : TW J (tB te) σ s F RB := fun H j Q q => h H j _ fun x s1 F1 H1 j1 ⟨b, e, k⟩ => ⟨b, e, q _ _ _ _ j1 k⟩
theorem tw_not (h : TW J tA σ s F fun b s1 F1 => RB (!b) s1 F1) : TW J (tNot tA) σ s F RB := fun H j Q q => h H j _ fun b s1 F1 H1 j1 k => q _ _ _ _ j1 k
theorem tw_and (h : TW J tA σ s F fun b s1 F1 => (b = true → TW J tB2 σ s1 F1 RB) ∧ (b = false → RB false s1 F1)) : TW J (tAnd tA tB2) σ s F RB := fun H j Q q =>
  h H j _ fun b s1 F1 H1 j1 k => by
    cases b with
    | true => exact k.1 rfl H1 j1 Q q
    | false => exact q _ _ _ _ j1 (k.2 rfl)
theorem tw_or (h : TW J tA σ s F fun b s1 F1 => (b = true → RB true s1 F1) ∧ (b = false → TW J tB2 σ s1 F1 RB)) : TW J (tOr tA tB2) σ s F RB := fun H j Q q =>
  h H j _ fun b s1 F1 H1 j1 k => by
    cases b with
    | true => exact q _ _ _ _ j1 (k.1 rfl)
    | false => exact k.2 rfl H1 j1 Q q
theorem tw_yes (k : RB true s F) : TW J tYes σ s F RB := fun H j Q q => q _ _ _ _ j k
/-- the truth of a list -/
theorem tw_truL (hd : Hid J) (h : EW J te σ s F fun x s1 F1 => ∃ a xs, x = .ref a ∧ SqL K F1 a xs ∧ RB (!xs.isEmpty) s1 F1) : TW J (fun σ H Q => te σ H fun x H' => ∃ k, TruV K x H' k ∧ Q k H') σ s F RB := fun H j Q q =>
  h H j _ fun x s1 F1 H1 j1 ⟨a, xs, e, l, k⟩ => ⟨_, by subst e; exact Or.inl ⟨xs, hd.sqL j1 l, rfl⟩, q _ _ _ _ j1 k⟩
theorem tw_truI (h : EW J te σ s F fun x s1 F1 => ∃ i, x = .int i ∧ RB (i != 0) s1 F1) : TW J (fun σ H Q => te σ H fun x H' => ∃ k, TruV K x H' k ∧ Q k H') σ s F RB := fun H j Q q =>
  h H j _ fun x s1 F1 H1 j1 ⟨i, e, k⟩ => ⟨_, by subst e; exact rfl, q _ _ _ _ j1 k⟩
theorem tw_truB (h : EW J te σ s F fun x s1 F1 => ∃ b, x = .bl b ∧ RB b s1 F1) : TW J (fun σ H Q => te σ H fun x H' => ∃ k, TruV K x H' k ∧ Q k H') σ s F RB := fun H j Q q =>
  h H j _ fun x s1 F1 H1 j1 ⟨i, e, k⟩ => ⟨_, by subst e; exact rfl, q _ _ _ _ j1 k⟩

/-! slices -/
theorem ow_none {R : Option Int → S → Hp → Prop} (k : R none s F) : OW J tNoPart σ s F R := fun H j Q q => q _ _ _ _ j k
theorem ow_some {R : Option Int → S → Hp → Prop} (h : EW J te σ s F fun x s1 F1 => ∃ i, x = .int i ∧ R (some i) s1 F1) : OW J (tPart te) σ s F R := fun H j Q q => h H j _ fun x s1 F1 H1 j1 ⟨i, e, k⟩ => ⟨i, e, q _ _ _ _ j1 k⟩
theorem ew_slL (hd : Hid J) {tl th : TO} (h : EW J te σ s F fun x s1 F1 => OW J tl σ s1 F1 fun lo s2 F2 => OW J th σ s2 F2 fun hi s3 F3 => ∃ a xs, x = .ref a ∧ SqL K F3 a xs ∧ ∀ p, F3 p = none → R (.ref p) s3 (upd F3 p (.lst (cutV xs lo hi)))) :
    EW J (tSl (rSlL K) te tl th) σ s F R := fun H j Q q => h H j _ fun x s1 F1 H1 j1 h1 => h1 H1 j1 _ fun lo s2 F2 H2 j2 h2 => h2 H2 j2 _ fun hi s3 F3 H3 j3 ⟨a, xs, e, l, k⟩ =>
  ⟨a, xs, e, hd.sqL j3 l, fun p hp => q _ _ _ _ (hd.al j3 hp) (k p (hd.fresh j3 hp))⟩
theorem ew_slT (hd : Hid J) {tl th : TO} (h : EW J te σ s F fun x s1 F1 => OW J tl σ s1 F1 fun lo s2 F2 => OW J th σ s2 F2 fun hi s3 F3 => ∃ a xs, x = .ref a ∧ SqT K F3 a xs ∧ (HT.sIx xs.length 0 lo = 0 ∧ HT.sIx xs.length xs.length hi = xs.length → R (.ref a) s3 F3) ∧
      (¬ (HT.sIx xs.length 0 lo = 0 ∧ HT.sIx xs.length xs.length hi = xs.length) → ∀ p, F3 p = none → R (.ref p) s3 (upd F3 p (.tup (cutV xs lo hi))))) :
    EW J (tSl (rSlA K) te tl th) σ s F R := fun H j Q q => h H j _ fun x s1 F1 H1 j1 h1 => h1 H1 j1 _ fun lo s2 F2 H2 j2 h2 => h2 H2 j2 _ fun hi s3 F3 H3 j3 ⟨a, xs, e, l, k1, k2⟩ =>
  ⟨a, xs, e, hd.sqT j3 l, fun c => q _ _ _ _ j3 (k1 c), fun c p hp => q _ _ _ _ (hd.al j3 hp) (k2 c p (hd.fresh j3 hp))⟩

/-! methods of built-ins: of a list -/
theorem ew_bmL (hd : Hid J) {r : V → List V → Hp → VK → Prop} (h : EW J te σ s F fun x s1 F1 => ∃ a xs, x = .ref a ∧ SqL K F1 a xs ∧ AW J tr σ s1 F1 fun vs s2 F2 => MW J r x vs s2 F2 R) : EW J (tBM K "list" r te tr) σ s F R := fun H j Q q =>
  h H j _ fun x s1 F1 H1 j1 ⟨a, xs, e, l, h1⟩ => ⟨by subst e; exact Or.inl ⟨rfl, xs, hd.sqL j1 l⟩, h1 H1 j1 _ fun vs s2 F2 H2 j2 h2 => h2 H2 j2 Q q⟩
theorem mw_append (hd : Hid J) {l : Addr} {xs : List V} (h1 : F l = some (.lst xs)) (hl : xs.length < 100000) (h : R .non s (upd F l (.lst (xs ++ [y])))) : MW J rAppend (.ref l) [y] s F R := fun H j Q q =>
  ⟨l, xs, y, rfl, rfl, hd.ex j _ _ h1, Nat.lt_of_lt_of_le hl (by decide), q _ _ _ _ (hd.mu j h1) h⟩
theorem mw_extend (hd : Hid J) {l b : Addr} {xs zs : List V} (h1 : F l = some (.lst xs)) (h2 : F b = some (.lst zs)) (hl : xs.length + zs.length ≤ 100000) (h : R .non s (upd F l (.lst (xs ++ zs)))) : MW J rExtend (.ref l) [.ref b] s F R := fun H j Q q =>
  ⟨l, b, xs, zs, rfl, rfl, hd.ex j _ _ h1, hd.ex j _ _ h2, Nat.le_trans hl (by decide), q _ _ _ _ (hd.mu j h1) h⟩

/-! statements -/
variable {D : En S} {t u : TS} {g : TG}
theorem sw_next (k : D.nx σ s F) : SW J tNext D σ s F := fun H j D' l => l.nx _ _ _ _ j k
theorem sw_seq (h : SW J t { D with nx := fun σ1 s1 F1 => SW J u D σ1 s1 F1 } σ s F) : SW J (tSeq t u) D σ s F := fun H j D' l =>
  h H j _ ⟨fun σ1 s1 F1 H1 j1 k => k H1 j1 D' l, l.rt, l.bk, l.ct⟩
theorem sw_break (k : D.bk σ s F) : SW J tBreak D σ s F := fun H j D' l => l.bk _ _ _ _ j k
theorem sw_cont (k : D.ct σ s F) : SW J tCont D σ s F := fun H j D' l => l.ct _ _ _ _ j k
theorem sw_drop (h : EW J te σ s F fun _ s1 F1 => D.nx σ s1 F1) : SW J (tDrop te) D σ s F := fun H j D' l => h H j _ fun _ s1 F1 H1 j1 k => l.nx _ _ _ _ j1 k
theorem sw_ret (h : EW J te σ s F D.rt) : SW J (tRet te) D σ s F := fun H j D' l => h H j _ fun v s1 F1 H1 j1 k => l.rt _ _ _ _ j1 k
theorem sw_retN (k : D.rt .non s F) : SW J tRetN D σ s F := fun H j D' l => l.rt _ _ _ _ j k
theorem sw_if {tc : TT} (h : TW J tc σ s F fun b s1 F1 => (b = true → SW J t D σ s1 F1) ∧ (b = false → SW J u D σ s1 F1)) : SW J (tIfS tc t u) D σ s F := fun H j D' l =>
  h H j _ fun b s1 F1 H1 j1 k => by
    cases b with
    | true => exact k.1 rfl H1 j1 D' l
    | false => exact k.2 rfl H1 j1 D' l
theorem sw_asg (h : EW J te σ s F fun x s1 F1 => GW J g x σ s1 F1 D.nx) : SW J (tAsg te g) D σ s F := fun H j D' l =>
  h H j _ fun x s1 F1 H1 j1 h1 => h1 H1 j1 _ fun σ2 s2 F2 H2 j2 k => l.nx _ _ _ _ j2 k
theorem sw_par {i k : Nat} {ta : TA} (h : AW J ta σ s F fun vs s1 F1 => ∃ v w, vs = [v, w] ∧ D.nx ((σ.set i (some v)).set k (some w)) s1 F1) : SW J (tPar i k ta) D σ s F := fun H j D' l =>
  h H j _ fun vs s1 F1 H1 j1 ⟨v, w, e, k⟩ => ⟨v, w, e, l.nx _ _ _ _ j1 k⟩
theorem sw_aug {i : Nat} {f : Int → Int → Int} {a : Int} (hx : σ[i]? = some (some (.int a))) (h : EW J te σ s F fun y s1 F1 => ∃ b, y = .int b ∧ D.nx (σ.set i (some (.int (f a b)))) s1 F1) : SW J (tAug i te (ipI f)) D σ s F := fun H j D' l =>
  ⟨.int a, hx, h H j _ fun y s1 F1 H1 j1 ⟨b, e, k⟩ => ⟨a, b, rfl, e, l.nx _ _ _ _ j1 k⟩⟩
variable {N : L2.St → S → Hp → Prop}
theorem gw_name {i : Nat} (k : N (σ.set i (some x)) s F) : GW J (gName i) x σ s F N := fun H j Q q => q _ _ _ _ j k
theorem gw_tup (hd : Hid J) {n : Nat} {ts : TGs} (h : ∃ a xs, x = .ref a ∧ SqT K F a xs ∧ xs.length = n ∧ GsW J ts xs σ s F N) : GW J (gTup K n ts) x σ s F N := fun H j Q q => by
  obtain ⟨a, xs, e, l, hn, h⟩ := h
  exact ⟨a, xs, e, hd.sqT j l, hn, h H j Q q⟩
theorem gsw_nil (k : N σ s F) : GsW J gNil [] σ s F N := fun H j Q q => ⟨rfl, q _ _ _ _ j k⟩
theorem gsw_cons {ts : TGs} {xs : List V} (h : GW J g x σ s F fun σ1 s1 F1 => GsW J ts xs σ1 s1 F1 N) : GsW J (gCons g ts) (x :: xs) σ s F N := fun H j Q q =>
  ⟨x, xs, rfl, h H j _ fun σ1 s1 F1 H1 j1 k => k H1 j1 Q q⟩
/-- xs[i] = e -/
theorem gw_subL (hd : Hid J) (h : EW J ta σ s F fun o s1 F1 => EW J tb σ s1 F1 fun i s2 F2 => ∃ p xs k j, o = .ref p ∧ i = .int k ∧ F2 p = some (.lst xs) ∧ ixN xs.length k = some j ∧ N σ s2 (upd F2 p (.lst (xs.set j x)))) : GW J (gSub ta tb rSetL) x σ s F N := fun H j Q q =>
  h H j _ fun o s1 F1 H1 j1 h1 => h1 H1 j1 _ fun i s2 F2 H2 j2 ⟨p, xs, k, jj, e1, e2, hp, hj, k2⟩ => ⟨p, xs, k, jj, e1, e2, hd.ex j2 _ _ hp, hj, q _ _ _ _ (hd.mu j2 hp) k2⟩

/-! loops -/
theorem sw_forR1 {ta : TA} (h : AW J ta σ s F fun vs s1 F1 => ∃ (n : Int) (Pv : Nat → L2.St → S → Hp → Prop), vs = [.int n] ∧ -1000000000 ≤ n ∧ n ≤ 1000000000 ∧ Pv 0 σ s1 F1 ∧
      (∀ (i : Nat) σ s F, (i : Int) < n → Pv i σ s F → GW J g (.int (i : Int)) σ s F fun σ s F => SW J t { D with nx := Pv (i + 1), ct := Pv (i + 1), bk := D.nx } σ s F) ∧ (∀ σ s F, Pv n.toNat σ s F → D.nx σ s F)) :
    SW J (tFor (iRng1 ta) g t) D σ s F := fun H j D' l =>
  h H j _ fun vs s1 F1 H1 j1 ⟨n, Pv, e, hn1, hn2, h0, hs, hdn⟩ => ⟨n, e, by omega, by omega, for_range (lo := 0) (n := n.toNat) (fun i σ H => ∃ s F, J s F H ∧ Pv i σ s F) ⟨s1, F1, j1, h0⟩
    (fun i σ' H' hi ⟨s', F', j', p⟩ => by
      have e0 : (0 : Int) + (i : Int) = (i : Int) := Int.zero_add _
      show g (.int ((0 : Int) + (i : Int))) σ' H' _
      rw [e0]
      exact hs i σ' s' F' (by omega) p H' j' _ fun σ2 s2 F2 H2 j2 k => k H2 j2 _ ⟨fun σ3 s3 F3 H3 j3 k3 => ⟨s3, F3, j3, k3⟩, l.rt, l.nx, fun σ3 s3 F3 H3 j3 k3 => ⟨s3, F3, j3, k3⟩⟩)
    (fun σ' H' ⟨s', F', j', p⟩ => l.nx _ _ _ _ j' (hdn σ' s' F' p))⟩
theorem sw_forL (hd : Hid J) (h : EW J te σ s F fun v s1 F1 => ∃ (a : Addr) (xs : List V) (Pv : Nat → L2.St → S → Hp → Prop), v = .ref a ∧ SqL K F1 a xs ∧ Pv 0 σ s1 F1 ∧ (∀ i σ s F, i ≤ xs.length → Pv i σ s F → SqL K F a xs) ∧
      (∀ (i : Nat) x σ s F, xs[i]? = some x → Pv i σ s F → GW J g x σ s F fun σ s F => SW J t { D with nx := Pv (i + 1), ct := Pv (i + 1), bk := D.nx } σ s F) ∧ (∀ σ s F, Pv xs.length σ s F → D.nx σ s F)) :
    SW J (tFor (iList K te) g t) D σ s F := fun H j D' l =>
  h H j _ fun v s1 F1 H1 j1 ⟨a, xs, Pv, e, l1, h0, hl, hs, hdn⟩ => ⟨a, e, ⟨xs, hd.sqL j1 l1⟩, for_list (xs := xs) (fun i σ H => ∃ s F, J s F H ∧ Pv i σ s F) ⟨s1, F1, j1, h0⟩
    (fun i σ' H' hi ⟨s', F', j', p⟩ => hd.sqL j' (hl i σ' s' F' hi p))
    (fun i x σ' H' hi ⟨s', F', j', p⟩ => hs i x σ' s' F' hi p H' j' _ fun σ2 s2 F2 H2 j2 k => k H2 j2 _ ⟨fun σ3 s3 F3 H3 j3 k3 => ⟨s3, F3, j3, k3⟩, l.rt, l.nx, fun σ3 s3 F3 H3 j3 k3 => ⟨s3, F3, j3, k3⟩⟩)
    (fun σ' H' ⟨s', F', j', p⟩ => l.nx _ _ _ _ j' (hdn σ' s' F' p))⟩
theorem sw_forT (hd : Hid J) (h : EW J te σ s F fun v s1 F1 => ∃ (a : Addr) (xs : List V) (Pv : Nat → L2.St → S → Hp → Prop), v = .ref a ∧ SqT K F1 a xs ∧ Pv 0 σ s1 F1 ∧ (∀ i σ s F, i ≤ xs.length → Pv i σ s F → SqT K F a xs) ∧
      (∀ (i : Nat) x σ s F, xs[i]? = some x → Pv i σ s F → GW J g x σ s F fun σ s F => SW J t { D with nx := Pv (i + 1), ct := Pv (i + 1), bk := D.nx } σ s F) ∧ (∀ σ s F, Pv xs.length σ s F → D.nx σ s F)) :
    SW J (tFor (iTup K te) g t) D σ s F := fun H j D' l =>
  h H j _ fun v s1 F1 H1 j1 ⟨a, xs, Pv, e, l1, h0, hl, hs, hdn⟩ => ⟨a, e, ⟨xs, hd.sqT j1 l1⟩, for_tup (xs := xs) (fun i σ H => ∃ s F, J s F H ∧ Pv i σ s F) ⟨s1, F1, j1, h0⟩
    (fun i σ' H' hi ⟨s', F', j', p⟩ => hd.sqT j' (hl i σ' s' F' hi p))
    (fun i x σ' H' hi ⟨s', F', j', p⟩ => hs i x σ' s' F' hi p H' j' _ fun σ2 s2 F2 H2 j2 k => k H2 j2 _ ⟨fun σ3 s3 F3 H3 j3 k3 => ⟨s3, F3, j3, k3⟩, l.rt, l.nx, fun σ3 s3 F3 H3 j3 k3 => ⟨s3, F3, j3, k3⟩⟩)
    (fun σ' H' ⟨s', F', j', p⟩ => l.nx _ _ _ _ j' (hdn σ' s' F' p))⟩
theorem sw_while {tc : TT} (Pv : Nat → L2.St → S → Hp → Prop) (m0 : Nat) (h0 : Pv m0 σ s F)
    (hs : ∀ m σ s F, Pv m σ s F → TW J tc σ s F fun b s1 F1 => (b = true → SW J t { D with nx := fun σ2 s2 F2 => ∃ m', m' < m ∧ Pv m' σ2 s2 F2, ct := fun σ2 s2 F2 => ∃ m', m' < m ∧ Pv m' σ2 s2 F2, bk := D.nx } σ s1 F1) ∧ (b = false → D.nx σ s1 F1)) :
    SW J (tWhile tc t) D σ s F := fun H j D' l =>
  ⟨fun m σ H => ∃ s F, J s F H ∧ Pv m σ s F, ⟨m0, s, F, j, h0⟩, fun m σ' H' ⟨s', F', j', p⟩ => hs m σ' s' F' p H' j' _ fun b s1 F1 H1 j1 k => by
    cases b with
    | true =>
      show ∃ N : L2.St → Hp → Prop, _
      exact ⟨fun σ2 H2 => ∃ m', m' < m ∧ ∃ s F, J s F H2 ∧ Pv m' σ2 s F, fun σ2 H2 n => n, k.1 rfl H1 j1 _ ⟨fun σ3 s3 F3 H3 j3 ⟨m', hm, k3⟩ => ⟨m', hm, s3, F3, j3, k3⟩, l.rt, l.nx, fun σ3 s3 F3 H3 j3 ⟨m', hm, k3⟩ => ⟨m', hm, s3, F3, j3, k3⟩⟩⟩
    | false =>
      show D'.nx σ' H1
      exact l.nx _ _ _ _ j1 (k.2 rfl)⟩
end
end Obr
namespace Obr
open PySem L2

/-- the built-ins that no module of the text hides -/
structure Blt (mg : Str → Option Value) : Prop where
  len : mg "len" = none
  list : mg "list" = none
  tuple : mg "tuple" = none
  max : mg "max" = none
  min : mg "min" = none
  range : mg "range" = none
  sum : mg "sum" = none
  sorted : mg "sorted" = none
  enumerate : mg "enumerate" = none
  zip : mg "zip" = none
  isinstance : mg "isinstance" = none
  int : mg "int" = none
  str : mg "str" = none
  bool : mg "bool" = none
  verr : mg "ValueError" = none
/-- a def that is called by its name -/
structure Cal (K : PySem.W.Frag) (mg : Str → Option Value) (x : Str) (f : Addr) (fd : FuncData) (ps : List Str) : Prop where
  g : mg x = some (.ref f)
  k : PySem.W.keepIn K (.ref f) = true
  a : Binds K fd ps []


/-- G knows all that F knows -/
def Ex (F G : Hp) : Prop := ∀ a o, F a = some o → G a = some o
theorem Ex.refl (F : Hp) : Ex F F := fun _ _ e => e
theorem Ex.trans {F G H : Hp} (a : Ex F G) (b : Ex G H) : Ex F H := fun x o e => b x o (a x o e)
theorem Ex.new {F G : Hp} {p : Addr} {u : HO} (g : Ex F G) (h : G p = none) : Ex F (upd G p u) := fun a o e => by
  rw [upd_ne (ne_of_none (g a o e) h)]
  exact g a o e
theorem Ex.out {F G : Hp} {p : Addr} {u : HO} (g : Ex F G) (h : F p = none) : Ex F (L2.upd G p u) := fun a o e => by
  rw [upd_ne (ne_of_none e h)]
  exact g a o e
theorem Ex.upd {F G : Hp} {p : Addr} {u : HO} (g : Ex F G) : Ex (L2.upd F p u) (L2.upd G p u) := fun a o e => by
  by_cases c : a = p
  · subst c; rw [upd_same] at e ⊢; exact e
  · rw [upd_ne c] at e ⊢; exact g a o e
theorem Ex.free {F G : Hp} {p : Addr} (g : Ex F G) (h : G p = none) : F p = none := by
  cases e : F p with
  | none => rfl
  | some o =>
    rw [g p o e] at h
    cases h
theorem Ex.sqL {F G : Hp} (g : Ex F G) {K a xs} (h : SqL K F a xs) : SqL K G a xs := by
  rcases h with (h | ⟨o, h⟩) | h
  · exact Or.inl (Or.inl (g _ _ h))
  · exact Or.inl (Or.inr ⟨o, g _ _ h⟩)
  · exact Or.inr h
theorem Ex.sqT {F G : Hp} (g : Ex F G) {K a xs} (h : SqT K F a xs) : SqT K G a xs := by
  rcases h with (h | ⟨o, h⟩) | h
  · exact Or.inl (Or.inl (g _ _ h))
  · exact Or.inl (Or.inr ⟨o, g _ _ h⟩)
  · exact Or.inr h

/-! ### promises over F, whatever is hidden -/
def LS (A : List V → Hp → VK → Prop) : Sp := fun vs H Q _ => ∃ (J : Unit → Hp → Hp → Prop) (F : Hp) (R : VK), Hid J ∧ J () F H ∧ A vs F R ∧ ∀ v F' H', J () F' H' → R v F' → Q v H'
theorem LS.body {J : Unit → Hp → Hp → Prop} {F H : Hp} {R Q : VK} {t : TS} {σ : L2.St} (j : J () F H) (q : ∀ v F' H', J () F' H' → R v F' → Q v H')
    (h : SW J t { nx := fun _ _ F => R .non F, rt := fun v _ F => R v F } σ () F) : t { nx := fun _ H' => Q .non H', rt := Q } σ H :=
  h H j _ ⟨fun _ _ _ _ j k => q _ _ _ j k, fun _ _ _ _ j k => q _ _ _ j k, fun _ _ _ _ _ k => k.elim, fun _ _ _ _ _ k => k.elim⟩
theorem Hid.unit {S : Type} {J : S → Hp → Hp → Prop} (hd : Hid J) (s : S) : Hid (fun (_ : Unit) F H => J s F H) where
  ex := fun {_ _ _} j => hd.ex j
  al := fun {_ _ _ _ _} j => hd.al j
  mu := fun {_ _ _ _ _ _} j => hd.mu j
section
variable {S : Type} {J : S → Hp → Hp → Prop} {σ : L2.St} {s : S} {F : Hp} {R : V → S → Hp → Prop} {tr : TA} {A : List V → Hp → VK → Prop} {E : XK}
theorem ew_call (hd : Hid J) (h : AW J tr σ s F fun vs s1 F1 => A vs F1 fun v F' => R v s1 F') : EW J (tCall (LS A) [] E tr) σ s F R := fun H j Q q =>
  h H j _ fun vs s1 F1 H1 j1 a => by
    show LS A (vs ++ []) H1 Q E
    rw [List.append_nil]
    exact ⟨_, F1, _, hd.unit s1, j1, a, fun v F' H' j' r => q v s1 F' H' j' r⟩
end

/-! ### forgetting: G knows more than F -/
def GJ {S : Type} (J : S → Hp → Hp → Prop) : S → Hp → Hp → Prop := fun s F H => ∃ G, (∀ a o, F a = some o → G a = some o) ∧ J s G H
theorem Hid.gj {S : Type} {J : S → Hp → Hp → Prop} (hd : Hid J) : Hid (GJ J) where
  ex := fun {s F H} ⟨G, g, j⟩ a o h => hd.ex j a o (g a o h)
  al := fun {s F H p o} ⟨G, g, j⟩ h => ⟨upd G p o, fun a u e => by
    by_cases c : a = p
    · subst c; rw [upd_same] at e ⊢; exact e
    · rw [upd_ne c] at e ⊢; exact g a u e, hd.al j h⟩
  mu := fun {s F H a o o'} ⟨G, g, j⟩ h => ⟨upd G a o', fun b u e => by
    by_cases c : b = a
    · subst c; rw [upd_same] at e ⊢; exact e
    · rw [upd_ne c] at e ⊢; exact g b u e, hd.mu j (g _ _ h)⟩
theorem gj_of {S : Type} {J : S → Hp → Hp → Prop} {s : S} {F H : Hp} (j : J s F H) : GJ J s F H := ⟨F, fun _ _ e => e, j⟩
theorem gj_less {S : Type} {J : S → Hp → Hp → Prop} {s : S} {F F0 H : Hp} (j : GJ J s F H) (h : ∀ a o, F0 a = some o → F a = some o) : GJ J s F0 H := by
  obtain ⟨G, g, j⟩ := j
  exact ⟨G, fun a o e => g a o (h a o e), j⟩
/-! ### what is drawn from, hidden: the list at h (a number, the cells at c, a place) -/
def hL (c : Addr) (m p : Int) : HO := .lst [.int m, .ref c, .int p]
def cL (cells : List Int) : HO := .lst (cells.map V.int)
def HJ (h c : Addr) {S : Type} (J : S → Hp → Hp → Prop) : S → Hp → Hp → Prop := fun s F H =>
  ∃ (G : Hp) (m p : Int) (cells : List Int), Ex F G ∧ F h = none ∧ F c = none ∧ 0 ≤ m ∧ m < 2147483647 ∧ 0 ≤ p ∧ cells.length ≤ 63 ∧ G h = some (hL c m p) ∧ G c = some (cL cells) ∧ J s G H
theorem Hid.hj {h c : Addr} {S : Type} {J : S → Hp → Hp → Prop} (hd : Hid J) : Hid (HJ h c J) where
  ex := fun {s F H} ⟨G, m, p, cells, g, _, _, _, _, _, _, _, _, j⟩ a o e => hd.ex j a o (g a o e)
  al := fun {s F H p' o} ⟨G, m, p, cells, g, fh, fc, m0, m1, p0, l, gh, gc, j⟩ hp => by
    have e1 := hd.fresh j hp
    have pc : c ≠ p' := ne_of_none gc e1
    have ph : h ≠ p' := ne_of_none gh e1
    exact ⟨upd G p' o, m, p, cells, g.upd, by rw [upd_ne ph]; exact fh, by rw [upd_ne pc]; exact fc, m0, m1, p0, l, by rw [upd_ne ph]; exact gh, by rw [upd_ne pc]; exact gc, hd.al j hp⟩
  mu := fun {s F H a o o'} ⟨G, m, p, cells, g, fh, fc, m0, m1, p0, l, gh, gc, j⟩ e => by
    have pc : c ≠ a := fun q => by rw [q, e] at fc; cases fc
    have ph : h ≠ a := fun q => by rw [q, e] at fh; cases fh
    exact ⟨upd G a o', m, p, cells, g.upd, by rw [upd_ne ph]; exact fh, by rw [upd_ne pc]; exact fc, m0, m1, p0, l, by rw [upd_ne ph]; exact gh, by rw [upd_ne pc]; exact gc, hd.mu j (g _ _ e)⟩
/-- a promise of a def whose first argument is what is drawn from -/
def LN (A : List V → Hp → VK → Prop) : Sp := fun vs H Q _ => ∃ (h c : Addr) (J : Unit → Hp → Hp → Prop) (F : Hp) (R : VK) (ws : List V), Hid J ∧ vs = .ref h :: ws ∧ HJ h c J () F H ∧ A ws F R ∧ ∀ v F' H', HJ h c J () F' H' → R v F' → Q v H'
section
variable {S : Type} {J : S → Hp → Hp → Prop} {h c : Addr} {σ : L2.St} {s : S} {F : Hp} {R : V → S → Hp → Prop} {tr : TA} {A : List V → Hp → VK → Prop} {E : XK}
theorem ew_draw (hd : Hid J) (k : AW (HJ h c J) tr σ s F fun vs s1 F1 => ∃ ws, vs = .ref h :: ws ∧ A ws F1 fun v F' => R v s1 F') : EW (HJ h c J) (tCall (LN A) [] E tr) σ s F R := fun H j Q q =>
  k H j _ fun vs s1 F1 H1 j1 ⟨ws, e, a⟩ => by
    show LN A (vs ++ []) H1 Q E
    rw [List.append_nil]
    exact ⟨h, c, fun _ F H => J s1 F H, F1, _, ws, hd.unit s1, e, j1, a, fun v F' H' j' r => q v s1 F' H' j' r⟩
end

/-! ### the promises -/
/-- _law_mix -/
def aMix (K : PySem.W.Frag) : List V → Hp → VK → Prop := fun vs F R => ∃ (a : Addr) (ns : List Int) (z : Int), vs = [.ref a, .int z] ∧ SqL K F a (ns.map V.int) ∧ 0 ≤ z ∧ z < 2147483647 ∧
  ∀ (m : Int) (c h : Addr), 0 ≤ m → m < 2147483647 → F c = none → F h = none → c ≠ h → R (.ref h) (L2.upd (L2.upd F c (cL ns)) h (hL c m 0))
/-- _law_next -/
def aNext : List V → Hp → VK → Prop := fun ws F R => ∃ n : Int, ws = [.int n] ∧ 0 < n ∧ n ≤ 10000000000000 ∧ ∀ r : Int, 0 ≤ r → r < n → R (.int r) F
end Obr
namespace Obr
open PySem L2
theorem at_ints {ns : List Int} {i : Int} (h0 : 0 ≤ i) (h1 : i < ns.length) : atI (ns.map V.int) i = some (V.int (ns.getD i.toNat 0)) := by
  obtain ⟨j, rfl⟩ : ∃ j : Nat, i = (j : Int) := ⟨i.toNat, by omega⟩
  have hj : j < ns.length := by omega
  refine atI_nat (j := j) ?_
  rw [List.getElem?_map, List.getElem?_eq_getElem hj]
  simp [List.getD, List.getElem?_eq_getElem hj]
theorem ixN_of {n : Nat} {i : Int} (h0 : 0 ≤ i) (h1 : i < n) : ixN n i = some i.toNat := by
  unfold ixN
  rw [if_pos h0, if_pos h1]
theorem map_set_int (ns : List Int) (j : Nat) (z : Int) : (ns.map V.int).set j (V.int z) = (ns.set j z).map V.int := by
  rw [List.map_set]
end Obr
namespace Obr
open PySem L2
theorem sw_mid {S : Type} {J : S → Hp → Hp → Prop} {t : TS} {D : En S} {σ : L2.St} {s : S} {F : Hp} (Mid : L2.St → S → Hp → Prop) (h1 : SW J t { D with nx := Mid } σ s F) (h2 : ∀ σ s F, Mid σ s F → D.nx σ s F) : SW J t D σ s F := fun H j D' l =>
  h1 H j D' ⟨fun σ s F H j k => l.nx σ s F H j (h2 σ s F k), l.rt, l.bk, l.ct⟩
end Obr
namespace Obr
open PySem L2
def top (i : Nat) : Stmt := PySem.Challenge.pw_onebreath_k07_floors_and_needs.main.body.getD i (.Pass ⟨0, 0, 0, 0⟩)

local macro_rules | `(tactic| walk_at "ob_at") => `(tactic| first
  | assumption
  | exact upd_same
  | (refine Eq.trans (upd_ne ?obn) ?obr; (case obn => walk_at "ob_ne"); (case obr => walk_at "ob_at")))
local macro_rules | `(tactic| walk_at "ob_ne") => `(tactic| first
  | assumption
  | (refine Ne.symm ?obs; (case obs => assumption))
  | (refine' ne_of_none (H := ?_) ?obe ?obh; (case obh => assumption); (case obe => walk_at "ob_at"))
  | (refine Ne.symm ?obs; (case obs => (refine' ne_of_none (H := ?_) ?obe ?obh; (case obh => assumption); (case obe => walk_at "ob_at")))))
local macro_rules | `(tactic| walk_at "ob_fr") => `(tactic| first
  | assumption
  | (refine Eq.trans (upd_ne ?obn) ?obr; (case obn => walk_at "ob_ne"); (case obr => walk_at "ob_fr"))
  | (refine Ex.free (G := ?_) (by assumption) ?obh; (case obh => walk_at "ob_fr")))
local macro_rules | `(tactic| walk_at "ob_ex") => `(tactic| first
  | assumption
  | exact Ex.refl _
  | (refine Ex.out ?obg ?obh; (case obh => assumption); (case obg => walk_at "ob_ex"))
  | (refine Ex.new ?obg ?obh; (case obh => assumption); (case obg => walk_at "ob_ex"))
  | (refine Ex.new ?obg ?obh; (case obh => walk_at "ob_fr"); (case obg => walk_at "ob_ex")))
local macro_rules | `(tactic| walk_at "ob_sq") => `(tactic| first
  | assumption
  | (refine SqL.of ?oba; (case oba => walk_at "ob_at"))
  | (refine SqT.of ?oba; (case oba => walk_at "ob_at")))
local macro_rules | `(tactic| walk_at "ob_side") => `(tactic| first | exact rfl | assumption | decide | omega | exact ⟨by decide, by decide, by decide⟩ | exact Or.inr ⟨by decide, by decide⟩ | exact Or.inl ⟨by decide, by decide⟩)
local macro_rules | `(tactic| walk_at "ob1") => `(tactic| first
  | with_reducible refine sw_seq ?_
  | with_reducible refine sw_asg ?_
  | with_reducible refine sw_ret ?_
  | with_reducible refine sw_drop ?_
  | with_reducible refine sw_if ?_
  | with_reducible refine sw_next ?_
  | with_reducible refine gw_name ?_
  | with_reducible refine ew_c ?_
  | ((with_reducible refine' ew_var (v := ?_) ?obv ?_); (case obv => exact rfl))
  | with_reducible refine ew_op ?_
  | with_reducible refine ew_un ?_
  | with_reducible refine ew_cb ?_
  | with_reducible refine ew_if ?_
  | with_reducible refine aw_nil ?_
  | with_reducible refine aw_cons ?_
  | with_reducible refine rw_I0 ?_
  | ((with_reducible refine rw_I ?obc ?_); (case obc => walk_at "ob_side"))
  | ((with_reducible refine rw_eq ?obc ?_); (case obc => exact rfl))
  | ((with_reducible refine rw_ne ?obc ?_); (case obc => exact rfl))
  | with_reducible refine cw_max2 ?_
  | with_reducible refine cw_min2 ?_
  | with_reducible refine tw_test ?_
  | with_reducible refine tw_B ?_
  | with_reducible refine tw_not ?_
  | with_reducible refine ⟨_, rfl, ?_⟩
  | ((with_reducible refine' rw_ixL (v := ?_) (xs := ?_) (by assumption) ?obl ?oba ?_); (case obl => walk_at "ob_sq"); (case oba => exact rfl))
  | ((with_reducible refine' rw_ixT (v := ?_) (xs := ?_) (by assumption) ?obl ?oba ?_); (case obl => walk_at "ob_sq"); (case oba => exact rfl))
  | ((with_reducible refine' ew_lst (by assumption) ?_))
  | ((with_reducible refine' ew_tup (by assumption) ?_)))
local macro_rules | `(tactic| walk_at "ob") => `(tactic| repeat walk_at "ob1")

abbrev sNext : Stmt := top 34
def N_next : List Str := ["_law_h", "_law_many", "_law_cell"]
theorem sc_next : FnScope N_next ["_law_h", "_law_many"] (defScope sNext) := ⟨rfl, rfl, rfl, by decide +kernel, rfl, by decide +kernel, by decide +kernel⟩
section
variable {P : Program} {w : World} {K : PySem.W.Frag} {mg : Str → Option Value} {base : Heap}

theorem ok_next {f : Addr} {fd : FuncData} (Fn : Fun K "_law_next" "_law_next" sNext f fd) (B : Blt mg) : FnOk P w K mg base CX0 1 f fd ["_law_h", "_law_many"] (LN aNext) := by
  refine Fn.ok sc_next (fun vs H Q E h => ?_) (fun cdv A outer s H vs Q E hr h => ?_)
  · obtain ⟨h, c, J, F, R, ws, hd, rfl, j, ⟨n, rfl, _⟩, _⟩ := h
    rfl
  · have nd := sc_next.nd
    obtain ⟨h, c, J, F, R, ws, hd, rfl, ⟨G, m, p, cells, g, fh, fc, m0, m1, p0, l, gh, gc, j⟩, ⟨n, rfl, n0, n1, k⟩, q⟩ := h
    have hc : h ≠ c := fun e => by
      subst e
      rw [gh] at gc
      have := Option.some.inj gc
      unfold hL cL at this
      injection this with e1
      cases cells with
      | nil => cases e1
      | cons z t => cases t with
        | nil => cases e1
        | cons z2 t =>
          have := (List.cons.inj (List.cons.inj e1).2).1
          cases this
    refine ⟨_, (pss_cons (ps_set (i := 2) nd rfl (Or.inl rfl) (pe_ix ix_list (pe_op op_cat (pe_ix ix_list (pv 0) pe_int (fun _ _ => rfl)) (pe_lst (pa_cons pe_int pa_nil))) (pe_op op_mod (pe_ix ix_list (pv 0) pe_int (fun _ _ => rfl)) (pe_callB (call_max2 rfl) (by rfl) B.max (by decide +kernel) (pa_cons pe_int (pa_cons (pe_callB call_len_seq (by rfl) B.len (by decide +kernel) (pa_cons (pe_ix ix_list (pv 0) pe_int (fun _ _ => rfl)) pa_nil)) pa_nil)))) (fun _ _ => rfl)))
      (pss_cons (ps_if (pt_cmpR op_ge (pv 2) (pe_op op_pow pe_int pe_int) (nomark _)) (pss_cons (ps_asg (pe_op op_fdivW (pv 2) (pv 1)) (pg_sub (pe_ix ix_list (pv 0) pe_int (fun _ _ => rfl)) (pe_op op_mod (pe_ix ix_list (pv 0) pe_int (fun _ _ => rfl)) (pe_callB call_len_seq (by rfl) B.len (by decide +kernel) (pa_cons (pe_ix ix_list (pv 0) pe_int (fun _ _ => rfl)) pa_nil))) set_list))
      (pss_one (ps_ret (pe_op op_mod (pv 2) (pv 1))))) pss_nil)
      (pss_cons (ps_asg (pe_op op_mod (pe_op op_add (pe_op op_add (pe_op op_mul (pe_ix ix_list (pv 0) pe_int (fun _ _ => rfl)) pe_int) (pe_op op_mul (pv 2) pe_int)) pe_int) pe_int) (pg_sub (pv 0) pe_int set_list))
      (pss_cons (ps_asg (pe_op op_add (pe_ix ix_list (pv 0) pe_int (fun _ _ => rfl)) pe_int) (pg_sub (pv 0) pe_int set_list))
      (pss_one (ps_ret (pe_op op_mod (pe_op op_fdivW (pe_ix ix_list (pv 0) pe_int (fun _ _ => rfl)) pe_int) (pv 1)))))))), ?_⟩
    refine LS.body j (R := fun v G => ∃ (m p : Int) (cells : List Int), Ex F G ∧ 0 ≤ m ∧ m < 2147483647 ∧ 0 ≤ p ∧ cells.length ≤ 63 ∧ G h = some (hL c m p) ∧ G c = some (cL cells) ∧ R v F)
      (fun v G' H' j' ⟨m', p', cells', g1, g4, g5, g6, g7, e1, e2, r⟩ => q v F H' ⟨G', m', p', cells', g1, fh, fc, g4, g5, g6, g7, e1, e2, j'⟩ r) ?_
    walk_at "ob"
    refine ⟨by decide, fun p1 hp1 => ?_⟩
    walk_at "ob"
    refine rw_cat hd (xs := cells.map V.int) (zs := [V.int 0]) (by walk_at "ob_at") (by walk_at "ob_at") (by simp; omega) fun p2 hp2 => ?_
    walk_at "ob"
    refine cw_lenS hd (ys := cells.map V.int) (Or.inl (by walk_at "ob_sq")) ?_
    walk_at "ob"
    have M0 : 0 < (if ((cells.map V.int).length : Int) > 1 then ((cells.map V.int).length : Int) else 1) := by split <;> omega
    have e0 := Int.emod_nonneg p (show (if ((cells.map V.int).length : Int) > 1 then ((cells.map V.int).length : Int) else 1) ≠ 0 by omega)
    have e1 := Int.emod_lt_of_pos p M0
    generalize ei : p % (if ((cells.map V.int).length : Int) > 1 then ((cells.map V.int).length : Int) else 1) = i at e0 e1
    have e2 : i < ((cells ++ [0]).length : Nat) := by
      rw [List.length_append]
      rw [List.length_map] at e1
      simp only [List.length_singleton]
      split at e1 <;> omega
    have e3 : (cells.map V.int) ++ [V.int 0] = (cells ++ [0]).map V.int := by rw [List.map_append]; rfl
    rw [e3]
    refine rw_ixL hd (SqL.of (by walk_at "ob_at")) (at_ints e0 e2) ?_
    generalize ez : (cells ++ [0]).getD i.toNat 0 = z
    walk_at "ob"
    have e18 : (10 : Int) ^ (18 : Int).toNat = 1000000000000000000 := by decide
    refine ⟨fun hb => ?_, fun hb => ?_⟩
    · have hz := of_decide_eq_true hb
      rw [e18] at hz
      have hcells : 0 < cells.length := by
        cases cells with
        | nil =>
          simp only [List.nil_append] at ez
          cases hi : i.toNat with
          | zero => rw [hi] at ez; simp at ez; omega
          | succ k => rw [hi] at ez; simp at ez; omega
        | cons a t => simp
      walk_at "ob"
      refine rw_I (wide_div (b := 60) n0 (by omega) (by decide) (by decide)) ?_
      refine gw_subL hd ?_
      walk_at "ob"
      refine cw_lenS hd (ys := cells.map V.int) (Or.inl (by walk_at "ob_sq")) ?_
      walk_at "ob"
      have L0 : 0 < ((cells.map V.int).length : Int) := by rw [List.length_map]; omega
      refine rw_I L0 ?_
      have f0 := Int.emod_nonneg p (show ((cells.map V.int).length : Int) ≠ 0 by omega)
      have f1 := Int.emod_lt_of_pos p L0
      refine ⟨c, _, _, _, rfl, rfl, (by walk_at "ob_at"), ixN_of f0 (by exact f1), ?_⟩
      walk_at "ob"
      refine ⟨m, p, cells.set (p % ((cells.map V.int).length : Int)).toNat (z / n), by walk_at "ob_ex", m0, m1, p0, by rw [List.length_set]; exact l, by walk_at "ob_at", ?_, k _ (Int.emod_nonneg _ (by omega)) (Int.emod_lt_of_pos _ n0)⟩
      rw [map_set_int]
      exact upd_same
    · walk_at "ob"
      refine gw_subL hd ?_
      walk_at "ob"
      refine ⟨h, _, _, _, rfl, rfl, (by walk_at "ob_at"), rfl, ?_⟩
      walk_at "ob"
      refine gw_subL hd ?_
      walk_at "ob"
      refine ⟨h, _, _, _, rfl, rfl, (by walk_at "ob_at"), rfl, ?_⟩
      walk_at "ob"
      refine rw_I (wide_div (b := 10) (by decide) (by decide) (by decide) (by decide)) ?_
      walk_at "ob"
      refine ⟨_, p + 1, cells, by walk_at "ob_ex", ?_, ?_, by omega, l, upd_same, by walk_at "ob_at", k _ (Int.emod_nonneg _ (by omega)) (Int.emod_lt_of_pos _ n0)⟩
      · exact Int.emod_nonneg _ (by decide)
      · exact Int.emod_lt_of_pos _ (by decide)
end
end Obr
namespace Obr
open PySem L2

/-! ### data as a whole, kept by whatever grows -/
mutual
theorem dp_ex {K : PySem.W.Frag} {F G : Hp} (g : Ex F G) : ∀ {d : PyData} {v : V}, Dp K F v d → Dp K G v d
  | .none, _, h => by cases h; exact .non
  | .bool b, _, h => by cases h; exact .bl b
  | .int i, _, h => by cases h; exact .int i
  | .str x, _, h => by cases h; exact .str x
  | .list ds, _, h => by
    cases h with
    | lst hs ha => exact .lst (g.sqL hs) (dps_ex g ha)
  | .tuple ds, _, h => by
    cases h with
    | tup hs ha => exact .tup (g.sqT hs) (dps_ex g ha)
  | .dict _, _, h => by cases h
theorem dps_ex {K : PySem.W.Frag} {F G : Hp} (g : Ex F G) : ∀ {ds : List PyData} {vs : List V}, DpAll K F vs ds → DpAll K G vs ds
  | [], _, h => by cases h; exact .nil
  | d :: ds, _, h => by
    cases h with
    | cons h1 h2 => exact .cons (dp_ex g h1) (dps_ex g h2)
end
section
variable {K : PySem.W.Frag} {F : Hp}
theorem dps_len {vs : List V} {ds : List PyData} : DpAll K F vs ds → vs.length = ds.length := by
  induction ds generalizing vs with
  | nil => intro h; cases h; rfl
  | cons d ds ih => intro h; cases h with
    | cons h1 h2 => simp [ih h2]
theorem dps_get {i : Nat} {vs : List V} {ds : List PyData} {d : PyData} (h : DpAll K F vs ds) (e : ds[i]? = some d) : ∃ v, vs[i]? = some v ∧ Dp K F v d := by
  induction ds generalizing vs i with
  | nil => simp at e
  | cons d0 ds ih => cases h with
    | cons h1 h2 => cases i with
      | zero => simp at e; subst e; exact ⟨_, rfl, h1⟩
      | succ i => simp at e; obtain ⟨v, e1, e2⟩ := ih h2 e; exact ⟨v, by simpa using e1, e2⟩
theorem dps_get' {i : Nat} {vs : List V} {ds : List PyData} {v : V} (h : DpAll K F vs ds) (e : vs[i]? = some v) : ∃ d, ds[i]? = some d ∧ Dp K F v d := by
  induction ds generalizing vs i with
  | nil => cases h; simp at e
  | cons d0 ds ih => cases h with
    | cons h1 h2 => cases i with
      | zero => simp at e; subst e; exact ⟨_, rfl, h1⟩
      | succ i => simp at e; obtain ⟨v, e1, e2⟩ := ih h2 e; exact ⟨v, by simpa using e1, e2⟩
theorem dps_snoc {vs : List V} {ds : List PyData} {v : V} {d : PyData} (h : DpAll K F vs ds) (h1 : Dp K F v d) : DpAll K F (vs ++ [v]) (ds ++ [d]) := by
  induction ds generalizing vs with
  | nil => cases h; exact .cons h1 .nil
  | cons d0 ds ih => cases h with
    | cons a b => exact .cons a (ih b)
theorem dps_app {vs ws : List V} {ds es : List PyData} (h : DpAll K F vs ds) (h1 : DpAll K F ws es) : DpAll K F (vs ++ ws) (ds ++ es) := by
  induction ds generalizing vs with
  | nil => cases h; exact h1
  | cons d0 ds ih => cases h with
    | cons a b => exact .cons a (ih b)
theorem dps_ints {ns : List Int} : DpAll K F (ns.map V.int) (ns.map PyData.int) := by
  induction ns with
  | nil => exact .nil
  | cons a t ih => exact .cons (.int a) ih
theorem dps_ints_iff {ns : List Int} {vs : List V} (h : DpAll K F vs (ns.map PyData.int)) : vs = ns.map V.int := by
  induction ns generalizing vs with
  | nil => cases h; rfl
  | cons a t ih => cases h with
    | cons h1 h2 => cases h1; rw [ih h2]; rfl
theorem dp_tup {v : V} {ds : List PyData} (h : Dp K F v (.tuple ds)) : ∃ a xs, v = .ref a ∧ SqT K F a xs ∧ DpAll K F xs ds := by
  cases h with
  | tup h1 h2 => exact ⟨_, _, rfl, h1, h2⟩
theorem dp_lst {v : V} {ds : List PyData} (h : Dp K F v (.list ds)) : ∃ a xs, v = .ref a ∧ SqL K F a xs ∧ DpAll K F xs ds := by
  cases h with
  | lst h1 h2 => exact ⟨_, _, rfl, h1, h2⟩
theorem dp_int {v : V} {i : Int} (h : Dp K F v (.int i)) : v = .int i := by cases h; rfl
theorem dp_str {v : V} {x : Str} (h : Dp K F v (.str x)) : v = .str x := by cases h; rfl
theorem dp_bl {v : V} {b : Bool} (h : Dp K F v (.bool b)) : v = .bl b := by cases h; rfl
theorem dp_non {v : V} (h : Dp K F v .none) : v = .non := by cases h; rfl
theorem dps1 {vs : List V} {a : PyData} (h : DpAll K F vs [a]) : ∃ x, vs = [x] ∧ Dp K F x a := by
  cases h with
  | cons h1 h2 => cases h2; exact ⟨_, rfl, h1⟩
theorem dps2 {vs : List V} {a b : PyData} (h : DpAll K F vs [a, b]) : ∃ x y, vs = [x, y] ∧ Dp K F x a ∧ Dp K F y b := by
  cases h with
  | cons h1 h2 => obtain ⟨y, rfl, h3⟩ := dps1 h2; exact ⟨_, _, rfl, h1, h3⟩
theorem dps3 {vs : List V} {a b c : PyData} (h : DpAll K F vs [a, b, c]) : ∃ x y z, vs = [x, y, z] ∧ Dp K F x a ∧ Dp K F y b ∧ Dp K F z c := by
  cases h with
  | cons h1 h2 => obtain ⟨y, z, rfl, h3, h4⟩ := dps2 h2; exact ⟨_, _, _, rfl, h1, h3, h4⟩
end

/-! ### worlds and rules -/
/-- a step: how much it draws, how long it lasts, how much it gives back -/
structure Stp where
  draw : Int
  long : Int
  back : Int
structure Wld where
  cap : Int
  start : Int
  refill : Int
  ms : List (List Stp)
def stpD (s : Stp) : PyData := .tuple [.int s.draw, .int s.long, .int s.back]
def macD (ss : List Stp) : PyData := .tuple (ss.map stpD)
def wldD (w : Wld) : PyData := .tuple [.tuple [.int w.cap, .int w.start, .int w.refill], .tuple (w.ms.map macD)]
structure StpOk (cap : Int) (s : Stp) : Prop where
  d0 : 0 ≤ s.draw
  d1 : s.draw ≤ cap
  l0 : 1 ≤ s.long
  l1 : s.long ≤ 9
  b0 : 0 ≤ s.back
  b1 : s.back ≤ s.draw
structure WldOk (w : Wld) : Prop where
  c0 : 1 ≤ w.cap
  c1 : w.cap ≤ 99
  s0 : 0 ≤ w.start
  s1 : w.start ≤ w.cap
  r0 : 0 ≤ w.refill
  r1 : w.refill ≤ 9
  m : w.ms.length ≤ 5
  n : ∀ ss ∈ w.ms, ss.length ≤ 6
  st : ∀ ss ∈ w.ms, ∀ s ∈ ss, StpOk w.cap s
/-- the rights, by number -/
inductive Rgt where
  | rank | turns | wait | least
  deriving DecidableEq
def rgtS : Rgt → Str
  | .rank => "rank"
  | .turns => "turns"
  | .wait => "wait"
  | .least => "least"
def rulD (r : Rgt) (p : Bool) : PyData := .tuple [.str (rgtS r), .bool p]

/-- _law_world: some world -/
def aWorld (K : PySem.W.Frag) : List V → Hp → VK → Prop := fun ws F R => ∃ most cap : Int, ws = [.int most, .int cap] ∧ 0 ≤ most ∧ most ≤ 5 ∧ 1 ≤ cap ∧ cap ≤ 99 ∧
  ∀ (v : V) (F' : Hp) (w : Wld), Ex F F' → Dp K F' v (wldD w) → WldOk w → w.cap ≤ cap → (w.ms.length : Int) ≤ most → (∀ ss ∈ w.ms, ss.length ≤ 4) → R v F'
/-- _law_rule: some rule -/
def aRule (K : PySem.W.Frag) : List V → Hp → VK → Prop := fun ws F R => ws = [] ∧ ∀ (v : V) (F' : Hp) (r : Rgt) (p : Bool), Ex F F' → Dp K F' v (rulD r p) → R v F'

section
variable {S : Type} {J : S → Hp → Hp → Prop} {h c : Addr} {σ : L2.St} {s : S} {F : Hp} {R : V → S → Hp → Prop} {te ta : TE} {E : XK}
theorem ew_next {i : Nat} (hd : Hid J) (hv : σ[i]? = some (some (V.ref h))) (k : EW (HJ h c J) ta σ s F fun y s2 F2 => ∃ n : Int, y = .int n ∧ 0 < n ∧ n ≤ 10000000000000 ∧ ∀ r : Int, 0 ≤ r → r < n → R (.int r) s2 F2) :
    EW (HJ h c J) (tCall (LN aNext) [] E (tCons (tVar i) (tCons ta tNil))) σ s F R := by
  refine ew_draw hd (aw_cons (ew_var hv (aw_cons (k.imp fun y s2 F2 ⟨n, e2, h0, h1, k⟩ => aw_nil ⟨[y], rfl, n, by rw [e2], h0, h1, fun r r0 r1 => k r r0 r1⟩))))
theorem ew_world {i : Nat} {K : PySem.W.Frag} {tb : TE} (hd : Hid J) (hv : σ[i]? = some (some (V.ref h))) (k : EW (HJ h c J) ta σ s F fun y s2 F2 => ∃ most : Int, y = .int most ∧ 0 ≤ most ∧ most ≤ 5 ∧ EW (HJ h c J) tb σ s2 F2 fun z s3 F3 => ∃ cap : Int, z = .int cap ∧ 1 ≤ cap ∧ cap ≤ 99 ∧
      ∀ (v : V) (F' : Hp) (w : Wld), Ex F3 F' → Dp K F' v (wldD w) → WldOk w → w.cap ≤ cap → (w.ms.length : Int) ≤ most → (∀ ss ∈ w.ms, ss.length ≤ 4) → R v s3 F') :
    EW (HJ h c J) (tCall (LN (aWorld K)) [] E (tCons (tVar i) (tCons ta (tCons tb tNil)))) σ s F R := by
  refine ew_draw hd (aw_cons (ew_var hv (aw_cons (k.imp fun y s2 F2 ⟨n, e2, h0, h1, k⟩ => aw_cons (k.imp fun z s3 F3 ⟨cp, e3, h2, h3, k⟩ => aw_nil ⟨[y, z], rfl, n, cp, by rw [e2, e3], h0, h1, h2, h3, k⟩)))))
theorem ew_rule {i : Nat} {K : PySem.W.Frag} (hd : Hid J) (hv : σ[i]? = some (some (V.ref h))) (k : ∀ (v : V) (F' : Hp) (r : Rgt) (p : Bool), Ex F F' → Dp K F' v (rulD r p) → R v s F') :
    EW (HJ h c J) (tCall (LN (aRule K)) [] E (tCons (tVar i) tNil)) σ s F R := by
  refine ew_draw hd (aw_cons (ew_var hv (aw_nil ⟨[], rfl, rfl, k⟩)))
end
theorem LN.body {h c : Addr} {J : Unit → Hp → Hp → Prop} {F H : Hp} {R Q : VK} {t : TS} {σ : L2.St} (j : HJ h c J () F H) (q : ∀ v F' H', HJ h c J () F' H' → R v F' → Q v H')
    (k : SW (HJ h c J) t { nx := fun _ _ F => R .non F, rt := fun v _ F => R v F } σ () F) : t { nx := fun _ H' => Q .non H', rt := Q } σ H := LS.body j q k
end Obr
namespace Obr
open PySem L2
local macro_rules | `(tactic| walk_at "ob_at") => `(tactic| first
  | assumption
  | exact upd_same
  | (refine Eq.trans (upd_ne ?obn) ?obr; (case obn => walk_at "ob_ne"); (case obr => walk_at "ob_at")))
local macro_rules | `(tactic| walk_at "ob_ne") => `(tactic| first
  | assumption
  | (refine Ne.symm ?obs; (case obs => assumption))
  | (refine' ne_of_none (H := ?_) ?obe ?obh; (case obh => assumption); (case obe => walk_at "ob_at"))
  | (refine Ne.symm ?obs; (case obs => (refine' ne_of_none (H := ?_) ?obe ?obh; (case obh => assumption); (case obe => walk_at "ob_at")))))
local macro_rules | `(tactic| walk_at "ob_fr") => `(tactic| first
  | assumption
  | (refine Eq.trans (upd_ne ?obn) ?obr; (case obn => walk_at "ob_ne"); (case obr => walk_at "ob_fr"))
  | (refine Ex.free (G := ?_) (by assumption) ?obh; (case obh => walk_at "ob_fr")))
local macro_rules | `(tactic| walk_at "ob_ex") => `(tactic| first
  | assumption
  | exact Ex.refl _
  | (refine Ex.out ?obg ?obh; (case obh => assumption); (case obg => walk_at "ob_ex"))
  | (refine Ex.new ?obg ?obh; (case obh => assumption); (case obg => walk_at "ob_ex"))
  | (refine Ex.new ?obg ?obh; (case obh => walk_at "ob_fr"); (case obg => walk_at "ob_ex")))
local macro_rules | `(tactic| walk_at "ob_sq") => `(tactic| first
  | assumption
  | (refine SqL.of ?oba; (case oba => walk_at "ob_at"))
  | (refine SqT.of ?oba; (case oba => walk_at "ob_at")))
local macro_rules | `(tactic| walk_at "ob_side") => `(tactic| first | exact rfl | assumption | decide | omega | exact ⟨by decide, by decide, by decide⟩ | exact Or.inr ⟨by decide, by decide⟩ | exact Or.inl ⟨by decide, by decide⟩)
local macro_rules | `(tactic| walk_at "ob1") => `(tactic| first
  | with_reducible refine sw_seq ?_
  | with_reducible refine sw_asg ?_
  | with_reducible refine sw_ret ?_
  | with_reducible refine sw_drop ?_
  | with_reducible refine sw_if ?_
  | with_reducible refine sw_next ?_
  | with_reducible refine gw_name ?_
  | with_reducible refine ew_c ?_
  | ((with_reducible refine' ew_var (v := ?_) ?obv ?_); (case obv => exact rfl))
  | ((with_reducible refine ew_next (by assumption) ?obv ?_); (case obv => exact rfl))
  | ((with_reducible refine ew_world (by assumption) ?obv ?_); (case obv => exact rfl))
  | ((with_reducible refine ew_rule (by assumption) ?obv ?_); (case obv => exact rfl))
  | with_reducible refine ew_op ?_
  | with_reducible refine ew_un ?_
  | with_reducible refine ew_cb ?_
  | with_reducible refine ew_if ?_
  | with_reducible refine aw_nil ?_
  | with_reducible refine aw_cons ?_
  | with_reducible refine rw_I0 ?_
  | ((with_reducible refine rw_I ?obc ?_); (case obc => walk_at "ob_side"))
  | ((with_reducible refine rw_eq ?obc ?_); (case obc => exact rfl))
  | ((with_reducible refine rw_ne ?obc ?_); (case obc => exact rfl))
  | with_reducible refine cw_max2 ?_
  | with_reducible refine cw_min2 ?_
  | with_reducible refine tw_test ?_
  | with_reducible refine tw_B ?_
  | with_reducible refine tw_not ?_
  | (refine' Exists.intro _ (And.intro (show V.bl _ = V.bl _ from rfl) ?_))
  | (refine' Exists.intro _ (And.intro (show V.int _ = V.int _ from rfl) ?_))
  | ((with_reducible refine' rw_ixL (v := ?_) (xs := ?_) (by assumption) ?obl ?oba ?_); (case obl => walk_at "ob_sq"); (case oba => exact rfl))
  | ((with_reducible refine' rw_ixT (v := ?_) (xs := ?_) (by assumption) ?obl ?oba ?_); (case obl => walk_at "ob_sq"); (case oba => exact rfl))
  | ((with_reducible refine' ew_lst (by assumption) ?_))
  | ((with_reducible refine' ew_tup (by assumption) ?_)))
local macro_rules | `(tactic| walk_at "ob_len") => `(tactic| first | exact Nat.le_of_ble_eq_true rfl | (simp; done) | omega)
local macro_rules | `(tactic| walk_at "ob") => `(tactic| repeat walk_at "ob1")

abbrev sMix : Stmt := top 33
def N_mix : List Str := ["_law_script", "_law_seed", "_law_mixed", "_law_cell"]
theorem sc_mix : FnScope N_mix ["_law_script", "_law_seed"] (defScope sMix) := ⟨rfl, rfl, rfl, by decide +kernel, rfl, by decide +kernel, by decide +kernel⟩
abbrev sRule : Stmt := top 37
def N_rule : List Str := ["_law_h"]
theorem sc_rule : FnScope N_rule ["_law_h"] (defScope sRule) := ⟨rfl, rfl, rfl, by decide +kernel, rfl, by decide +kernel, by decide +kernel⟩
section
variable {P : Program} {w : World} {K : PySem.W.Frag} {mg : Str → Option Value} {base : Heap}
theorem ok_mix {f : Addr} {fd : FuncData} (Fn : Fun K "_law_mix" "_law_mix" sMix f fd) (B : Blt mg) : FnOk P w K mg base CX0 1 f fd ["_law_script", "_law_seed"] (LS (aMix K)) := by
  refine Fn.ok sc_mix (fun vs H Q E h => ?_) (fun cdv A outer s H vs Q E hr h => ?_)
  · obtain ⟨J, F, R, hd, j, ⟨a, ns, z, rfl, _⟩, _⟩ := h
    rfl
  · have nd := sc_mix.nd
    obtain ⟨J, F, R, hd, j, ⟨a, ns, z, rfl, hl, z0, z1, k⟩, q⟩ := h
    refine ⟨_, (pss_cons (ps_set (i := 2) nd rfl (Or.inl rfl) (pv 1))
      (pss_cons (ps_for PassesOwn.never rfl (pi_list (pv 0)) (pg_name (i := 3) nd rfl (Or.inl rfl)) (pss_one (ps_set (i := 2) nd rfl (Or.inl rfl) (pe_op op_mod (pe_op op_add (pe_op op_add (pe_op op_mul (pv 2) pe_int) (pe_op op_mod (pv 3) pe_int)) pe_int) pe_int))))
      (pss_one (ps_ret (pe_lst (pa_cons (pv 2) (pa_cons (pe_callTy call_list_of (by rfl) B.list (by decide +kernel) (pa_cons (pv 0) pa_nil)) (pa_cons pe_int pa_nil)))))))), ?_⟩
    refine LS.body j q ?_
    walk_at "ob"
    refine sw_forL hd ?_
    walk_at "ob"
    refine ⟨a, ns.map V.int, fun i σ s G => G = F ∧ ∃ (m : Int) (y : Option V), σ = [some (.ref a), some (.int z), some (.int m), y] ∧ 0 ≤ m ∧ m < 2147483647, rfl, hl, ⟨rfl, z, none, rfl, z0, z1⟩, ?_, ?_, ?_⟩
    · rintro i σ s G hi ⟨rfl, _⟩
      exact hl
    · rintro i x σ s G hi ⟨rfl, m, y, rfl, m0, m1⟩
      obtain ⟨u, rfl⟩ : ∃ u, x = V.int u := by
        rw [List.getElem?_map] at hi
        cases e : ns[i]? with
        | none => rw [e] at hi; cases hi
        | some u => rw [e] at hi; exact ⟨u, (Option.some.inj hi).symm⟩
      walk_at "ob"
      exact ⟨rfl, _, _, rfl, Int.emod_nonneg _ (by decide), Int.emod_lt_of_pos _ (by decide)⟩
    · rintro σ s G ⟨rfl, m, y, rfl, m0, m1⟩
      walk_at "ob"
      refine cw_list hd (ys := ns.map V.int) (Or.inl (by exact hl)) fun c hc => ?_
      walk_at "ob"
      refine ⟨by walk_at "ob_len", fun h hh => ?_⟩
      exact k m c h m0 m1 hc (Ex.free (Ex.new (Ex.refl _) hc) hh) (ne_of_none upd_same hh)
theorem ok_rule {f f1 : Addr} {fd fd1 : FuncData} (Fn : Fun K "_law_rule" "_law_rule" sRule f fd) (B : Blt mg)
    (C_law_next : Cal K mg "_law_next" f1 fd1 ["_law_h", "_law_many"]) (G_law_next : FnOk P w K mg base CX0 1 f1 fd1 ["_law_h", "_law_many"] (LN aNext)) :
    FnOk P w K mg base CX0 2 f fd ["_law_h"] (LN (aRule K)) := by
  refine Fn.ok sc_rule (fun vs H Q E h => ?_) (fun cdv A outer s H vs Q E hr h => ?_)
  · obtain ⟨h, c, J, F, R, ws, hd, rfl, j, ⟨rfl, _⟩, _⟩ := h
    rfl
  · have nd := sc_rule.nd
    obtain ⟨h, c, J, F, R, ws, hd0, rfl, j, ⟨rfl, k⟩, q⟩ := h
    have hd := hd0.hj (h := h) (c := c)
    refine ⟨_, (pss_one (ps_ret (pe_tup (pa_cons (pe_ix ix_list (pe_lst (pa_cons pe_str (pa_cons pe_str (pa_cons pe_str (pa_cons pe_str pa_nil))))) (pe_call G_law_next (hr.mono (by decide)) (by rfl) C_law_next.g C_law_next.k C_law_next.a .nil pass0 (pa_cons (pv 0) (pa_cons pe_int pa_nil))) (fun _ _ => rfl)) (pa_cons (pe_cmpR op_eq (pe_call G_law_next (hr.mono (by decide)) (by rfl) C_law_next.g C_law_next.k C_law_next.a .nil pass0 (pa_cons (pv 0) (pa_cons pe_int pa_nil))) pe_int (nomark _)) pa_nil))))), ?_⟩
    refine LN.body j q ?_
    walk_at "ob"
    refine ⟨by walk_at "ob_len", fun p hp => ?_⟩
    walk_at "ob"
    refine ⟨by decide, by decide, fun r r0 r1 => ?_⟩
    obtain ⟨rg, er⟩ : ∃ rg : Rgt, atI [V.str "rank", V.str "turns", V.str "wait", V.str "least"] r = some (V.str (rgtS rg)) := by
      have : r = 0 ∨ r = 1 ∨ r = 2 ∨ r = 3 := by omega
      rcases this with rfl | rfl | rfl | rfl
      · exact ⟨.rank, rfl⟩
      · exact ⟨.turns, rfl⟩
      · exact ⟨.wait, rfl⟩
      · exact ⟨.least, rfl⟩
    refine rw_ixL hd (SqL.of upd_same) er ?_
    walk_at "ob"
    refine ⟨by decide, by decide, fun r2 r20 r21 => ?_⟩
    walk_at "ob"
    refine ⟨by walk_at "ob_len", fun t ht => ?_⟩
    exact k _ _ rg _ (by walk_at "ob_ex") (.tup (SqT.of upd_same) (.cons (.str _) (.cons (.bl _) .nil)))
end
end Obr
namespace Obr
open PySem L2
local macro_rules | `(tactic| walk_at "ob_at") => `(tactic| first
  | assumption
  | exact upd_same
  | (refine Eq.trans (upd_ne ?obn) ?obr; (case obn => walk_at "ob_ne"); (case obr => walk_at "ob_at")))
local macro_rules | `(tactic| walk_at "ob_ne") => `(tactic| first
  | assumption
  | (refine Ne.symm ?obs; (case obs => assumption))
  | (refine' ne_of_none (H := ?_) ?obe ?obh; (case obh => assumption); (case obe => walk_at "ob_at"))
  | (refine Ne.symm ?obs; (case obs => (refine' ne_of_none (H := ?_) ?obe ?obh; (case obh => assumption); (case obe => walk_at "ob_at")))))
local macro_rules | `(tactic| walk_at "ob_fr") => `(tactic| first
  | assumption
  | (refine Eq.trans (upd_ne ?obn) ?obr; (case obn => walk_at "ob_ne"); (case obr => walk_at "ob_fr"))
  | (refine Ex.free (G := ?_) (by assumption) ?obh; (case obh => walk_at "ob_fr")))
local macro_rules | `(tactic| walk_at "ob_ex") => `(tactic| first
  | assumption
  | exact Ex.refl _
  | (refine Ex.out ?obg ?obh; (case obh => assumption); (case obg => walk_at "ob_ex"))
  | (refine Ex.new ?obg ?obh; (case obh => assumption); (case obg => walk_at "ob_ex"))
  | (refine Ex.new ?obg ?obh; (case obh => walk_at "ob_fr"); (case obg => walk_at "ob_ex")))
local macro_rules | `(tactic| walk_at "ob_sq") => `(tactic| first
  | assumption
  | (refine SqL.of ?oba; (case oba => walk_at "ob_at"))
  | (refine SqT.of ?oba; (case oba => walk_at "ob_at")))
local macro_rules | `(tactic| walk_at "ob_side") => `(tactic| first | exact rfl | assumption | decide | omega | exact ⟨by decide, by decide, by decide⟩ | exact Or.inr ⟨by decide, by decide⟩ | exact Or.inl ⟨by decide, by decide⟩ | exact wide_div (b := 60) (by first | decide | omega) (by first | decide | omega) (by decide) (by decide))
local macro_rules | `(tactic| walk_at "ob1") => `(tactic| first
  | with_reducible refine sw_seq ?_
  | with_reducible refine sw_asg ?_
  | with_reducible refine sw_ret ?_
  | with_reducible refine sw_drop ?_
  | with_reducible refine sw_if ?_
  | with_reducible refine sw_next ?_
  | with_reducible refine gw_name ?_
  | with_reducible refine ew_c ?_
  | ((with_reducible refine' ew_var (v := ?_) ?obv ?_); (case obv => exact rfl))
  | ((with_reducible refine ew_next (by assumption) ?obv ?_); (case obv => exact rfl))
  | ((with_reducible refine ew_world (by assumption) ?obv ?_); (case obv => exact rfl))
  | ((with_reducible refine ew_rule (by assumption) ?obv ?_); (case obv => exact rfl))
  | with_reducible refine ew_op ?_
  | with_reducible refine ew_un ?_
  | with_reducible refine ew_cb ?_
  | with_reducible refine ew_if ?_
  | with_reducible refine aw_nil ?_
  | with_reducible refine aw_cons ?_
  | with_reducible refine rw_I0 ?_
  | ((with_reducible refine rw_I ?obc ?_); (case obc => walk_at "ob_side"))
  | ((with_reducible refine rw_eq ?obc ?_); (case obc => exact rfl))
  | ((with_reducible refine rw_ne ?obc ?_); (case obc => exact rfl))
  | with_reducible refine cw_max2 ?_
  | with_reducible refine cw_min2 ?_
  | with_reducible refine tw_test ?_
  | with_reducible refine tw_B ?_
  | with_reducible refine tw_not ?_
  | (refine' Exists.intro _ (And.intro (show V.bl _ = V.bl _ from rfl) ?_))
  | (refine' Exists.intro _ (And.intro (show V.int _ = V.int _ from rfl) ?_))
  | ((with_reducible refine' rw_ixL (v := ?_) (xs := ?_) (by assumption) ?obl ?oba ?_); (case obl => walk_at "ob_sq"); (case oba => exact rfl))
  | ((with_reducible refine' rw_ixT (v := ?_) (xs := ?_) (by assumption) ?obl ?oba ?_); (case obl => walk_at "ob_sq"); (case oba => exact rfl))
  | ((with_reducible refine' ew_lst (by assumption) ?_))
  | ((with_reducible refine' ew_tup (by assumption) ?_)))
local macro_rules | `(tactic| walk_at "ob_len") => `(tactic| first | exact Nat.le_of_ble_eq_true rfl | (simp; done) | omega)
local macro_rules | `(tactic| walk_at "ob") => `(tactic| repeat walk_at "ob1")

abbrev sWorld : Stmt := top 36
def N_world : List Str := ["_law_h", "_law_most", "_law_cap", "_law_store", "_law_machines", "_law_k", "_law_steps", "_law_time", "_law_draw", "_law_back"]
theorem sc_world : FnScope N_world ["_law_h", "_law_most", "_law_cap"] (defScope sWorld) := ⟨rfl, rfl, rfl, by decide +kernel, rfl, by decide +kernel, by decide +kernel⟩
section
variable {P : Program} {w : World} {K : PySem.W.Frag} {mg : Str → Option Value} {base : Heap}
theorem ok_world {f f1 : Addr} {fd fd1 : FuncData} (Fn : Fun K "_law_world" "_law_world" sWorld f fd) (B : Blt mg)
    (C_law_next : Cal K mg "_law_next" f1 fd1 ["_law_h", "_law_many"]) (G_law_next : FnOk P w K mg base CX0 1 f1 fd1 ["_law_h", "_law_many"] (LN aNext)) :
    FnOk P w K mg base CX0 2 f fd ["_law_h", "_law_most", "_law_cap"] (LN (aWorld K)) := by
  refine Fn.ok sc_world (fun vs H Q E h => ?_) (fun cdv A outer s H vs Q E hr h => ?_)
  · obtain ⟨h, c, J, F, R, ws, hd, rfl, j, ⟨most, cap, rfl, _⟩, _⟩ := h
    rfl
  · have nd := sc_world.nd
    obtain ⟨h, c, J, F, R, ws, hd0, rfl, j, ⟨most, cap, rfl, mo0, mo1, c0, c1, k⟩, q⟩ := h
    have hd := hd0.hj (h := h) (c := c)
    refine ⟨_, (pss_cons (ps_set (i := 3) nd rfl (Or.inl rfl) (pe_tup (pa_cons (pe_op op_add pe_int (pe_call G_law_next (hr.mono (by decide)) (by rfl) C_law_next.g C_law_next.k C_law_next.a .nil pass0 (pa_cons (pv 0) (pa_cons (pv 2) pa_nil)))) (pa_cons pe_int (pa_cons (pe_ix ix_list (pe_lst (pa_cons pe_int (pa_cons pe_int (pa_cons pe_int (pa_cons pe_int (pa_cons (pe_call G_law_next (hr.mono (by decide)) (by rfl) C_law_next.g C_law_next.k C_law_next.a .nil pass0 (pa_cons (pv 0) (pa_cons pe_int pa_nil))) pa_nil)))))) (pe_call G_law_next (hr.mono (by decide)) (by rfl) C_law_next.g C_law_next.k C_law_next.a .nil pass0 (pa_cons (pv 0) (pa_cons pe_int pa_nil))) (fun _ _ => rfl)) pa_nil)))))
      (pss_cons (ps_set (i := 3) nd rfl (Or.inl rfl) (pe_tup (pa_cons (pe_ix ix_tup (pv 3) pe_int (fun _ _ => rfl)) (pa_cons (pe_call G_law_next (hr.mono (by decide)) (by rfl) C_law_next.g C_law_next.k C_law_next.a .nil pass0 (pa_cons (pv 0) (pa_cons (pe_op op_add (pe_ix ix_tup (pv 3) pe_int (fun _ _ => rfl)) pe_int) pa_nil))) (pa_cons (pe_ix ix_tup (pv 3) pe_int (fun _ _ => rfl)) pa_nil)))))
      (pss_cons (ps_set (i := 4) nd rfl (Or.inl rfl) (pe_lst pa_nil))
      (pss_cons (ps_for PassesOwn.never rfl (pi_range1 rfl B.range (pa_cons (pe_call G_law_next (hr.mono (by decide)) (by rfl) C_law_next.g C_law_next.k C_law_next.a .nil pass0 (pa_cons (pv 0) (pa_cons (pe_op op_add (pv 1) pe_int) pa_nil))) pa_nil)) (pg_name (i := 5) nd rfl (Or.inl rfl)) (pss_cons (ps_set (i := 6) nd rfl (Or.inl rfl) (pe_lst pa_nil))
      (pss_cons (ps_for PassesOwn.never rfl (pi_range1 rfl B.range (pa_cons (pe_call G_law_next (hr.mono (by decide)) (by rfl) C_law_next.g C_law_next.k C_law_next.a .nil pass0 (pa_cons (pv 0) (pa_cons pe_int pa_nil))) pa_nil)) (pg_name (i := 7) nd rfl (Or.inl rfl)) (pss_cons (ps_set (i := 8) nd rfl (Or.inl rfl) (pe_ifExp (pt_cmpR op_eq (pe_call G_law_next (hr.mono (by decide)) (by rfl) C_law_next.g C_law_next.k C_law_next.a .nil pass0 (pa_cons (pv 0) (pa_cons pe_int pa_nil))) pe_int (nomark _)) (pe_call G_law_next (hr.mono (by decide)) (by rfl) C_law_next.g C_law_next.k C_law_next.a .nil pass0 (pa_cons (pv 0) (pa_cons (pe_op op_add (pe_ix ix_tup (pv 3) pe_int (fun _ _ => rfl)) pe_int) pa_nil))) (pe_call G_law_next (hr.mono (by decide)) (by rfl) C_law_next.g C_law_next.k C_law_next.a .nil pass0 (pa_cons (pv 0) (pa_cons (pe_op op_add (pe_callB (call_min2 rfl) (by rfl) B.min (by decide +kernel) (pa_cons pe_int (pa_cons (pe_ix ix_tup (pv 3) pe_int (fun _ _ => rfl)) pa_nil))) pe_int) pa_nil)))))
      (pss_cons (ps_set (i := 9) nd rfl (Or.inl rfl) (pe_ix ix_list (pe_lst (pa_cons pe_int (pa_cons (pv 8) (pa_cons (pe_call G_law_next (hr.mono (by decide)) (by rfl) C_law_next.g C_law_next.k C_law_next.a .nil pass0 (pa_cons (pv 0) (pa_cons (pe_op op_add (pv 8) pe_int) pa_nil))) pa_nil)))) (pe_call G_law_next (hr.mono (by decide)) (by rfl) C_law_next.g C_law_next.k C_law_next.a .nil pass0 (pa_cons (pv 0) (pa_cons pe_int pa_nil))) (fun _ _ => rfl)))
      (pss_one (ps_expr (pe_bm PySem.F.plainAttrs_list PySem.F.slot_list_append PySem.F.type_list_append mt_append (pv 6) (pa_cons (pe_tup (pa_cons (pv 8) (pa_cons (pe_op op_add pe_int (pe_call G_law_next (hr.mono (by decide)) (by rfl) C_law_next.g C_law_next.k C_law_next.a .nil pass0 (pa_cons (pv 0) (pa_cons (pe_ix ix_list (pe_lst (pa_cons pe_int (pa_cons pe_int pa_nil))) (pe_op op_fdivW (pe_call G_law_next (hr.mono (by decide)) (by rfl) C_law_next.g C_law_next.k C_law_next.a .nil pass0 (pa_cons (pv 0) (pa_cons pe_int pa_nil))) pe_int) (fun _ _ => rfl)) pa_nil)))) (pa_cons (pv 9) pa_nil)))) pa_nil)))))))
      (pss_one (ps_expr (pe_bm PySem.F.plainAttrs_list PySem.F.slot_list_append PySem.F.type_list_append mt_append (pv 4) (pa_cons (pe_callTy call_tuple_of (by rfl) B.tuple (by decide +kernel) (pa_cons (pv 6) pa_nil)) pa_nil)))))))
      (pss_one (ps_ret (pe_tup (pa_cons (pv 3) (pa_cons (pe_callTy call_tuple_of (by rfl) B.tuple (by decide +kernel) (pa_cons (pv 4) pa_nil)) pa_nil))))))))), ?_⟩
    refine LN.body j q ?_
    walk_at "ob"
    refine ⟨by omega, by omega, fun r1 r10 r11 => ?_⟩
    walk_at "ob"
    refine ⟨by decide, by decide, fun r2 r20 r21 => ?_⟩
    walk_at "ob"
    refine ⟨by walk_at "ob_len", fun p1 hp1 => ?_⟩
    walk_at "ob"
    refine ⟨by decide, by decide, fun r3 r30 r31 => ?_⟩
    obtain ⟨rf, erf, rf0, rf1⟩ : ∃ rf : Int, atI [V.int 0, V.int 1, V.int 1, V.int 2, V.int r2] r3 = some (V.int rf) ∧ 0 ≤ rf ∧ rf ≤ 9 := by
      have : r3 = 0 ∨ r3 = 1 ∨ r3 = 2 ∨ r3 = 3 ∨ r3 = 4 := by omega
      rcases this with rfl | rfl | rfl | rfl | rfl
      · exact ⟨0, rfl, by omega, by omega⟩
      · exact ⟨1, rfl, by omega, by omega⟩
      · exact ⟨1, rfl, by omega, by omega⟩
      · exact ⟨2, rfl, by omega, by omega⟩
      · exact ⟨r2, rfl, by omega, by omega⟩
    refine rw_ixL hd (SqL.of upd_same) erf ?_
    walk_at "ob"
    refine ⟨by walk_at "ob_len", fun p2 hp2 => ?_⟩
    walk_at "ob"
    refine ⟨by omega, by omega, fun r4 r40 r41 => ?_⟩
    walk_at "ob"
    refine ⟨by walk_at "ob_len", fun st hst => ?_⟩
    walk_at "ob"
    refine ⟨by walk_at "ob_len", fun ml hml => ?_⟩
    walk_at "ob"
    refine sw_forR1 ?_
    walk_at "ob"
    refine ⟨by omega, by omega, fun nm nm0 nm1 => ?_⟩
    walk_at "ob"
    refine ⟨nm, fun i σ _ G => ∃ (x5 x6 x7 x8 x9 : Option V) (G0 : Hp) (vs : List V) (mss : List (List Stp)), σ = [some (.ref h), some (.int most), some (.int cap), some (.ref st), some (.ref ml), x5, x6, x7, x8, x9] ∧
      Ex F G0 ∧ Ex G0 G ∧ G0 ml = none ∧ G ml = some (.lst vs) ∧ G0 st = some (.tup [.int (1 + r1), .int r4, .int rf]) ∧ DpAll K G0 vs (mss.map macD) ∧ mss.length = i ∧ (∀ ss ∈ mss, ss.length ≤ 4) ∧ ∀ ss ∈ mss, ∀ s ∈ ss, StpOk (1 + r1) s,
      rfl, by omega, by omega, ⟨none, none, none, none, none, _, [], [], rfl, ?_, Ex.new (Ex.refl _) hml, hml, upd_same, upd_same, .nil, rfl, ?_, ?_⟩, ?_, ?_⟩
    · walk_at "ob_ex"
    · intro ss hss; cases hss
    · intro ss hss; cases hss
    · rintro i σ _ G hi ⟨x5, x6, x7, x8, x9, G0, vs, mss, rfl, g1, g2, e1, e2, e3, dv, hl, ok1, ok2⟩
      walk_at "ob"
      refine ⟨by walk_at "ob_len", fun sl hsl => ?_⟩
      have nsl : ml ≠ sl := ne_of_none e2 hsl
      have e4 : G0 sl = none := g2.free hsl
      walk_at "ob"
      refine sw_forR1 ?_
      walk_at "ob"
      refine ⟨by decide, by decide, fun ns ns0 ns1 => ?_⟩
      walk_at "ob"
      refine ⟨ns, fun k σ _ G => ∃ (x7 x8 x9 : Option V) (G1 : Hp) (ws : List V) (ss : List Stp), σ = [some (.ref h), some (.int most), some (.int cap), some (.ref st), some (.ref ml), some (.int (i : Int)), some (.ref sl), x7, x8, x9] ∧
        Ex G0 G1 ∧ Ex G1 G ∧ G1 ml = none ∧ G1 sl = none ∧ G ml = some (.lst vs) ∧ G sl = some (.lst ws) ∧ DpAll K G1 ws (ss.map stpD) ∧ ss.length = k ∧ ∀ s ∈ ss, StpOk (1 + r1) s,
        rfl, by omega, by omega, ⟨x7, x8, x9, G0, [], [], rfl, Ex.refl _, Ex.new g2 hsl, e1, e4, by walk_at "ob_at", upd_same, .nil, rfl, ?_⟩, ?_, ?_⟩
      · intro s hs; cases hs
      · rintro kk σ _ G hk ⟨x7, x8, x9, G1, ws, ss, rfl, g3, g4, e1, e4, e2, e5, dw, hss, oks⟩
        have est : G st = some (.tup [.int (1 + r1), .int r4, .int rf]) := g4 _ _ (g3 _ _ e3)
        refine gw_name ?_
        refine sw_seq (sw_asg ?_)
        refine EW.imp (R := fun v _ G' => G' = G ∧ ∃ dr : Int, v = .int dr ∧ 0 ≤ dr ∧ dr ≤ 1 + r1) ?_ ?_
        · walk_at "ob"
          refine ⟨by decide, by decide, fun q0 q00 q01 => ?_⟩
          walk_at "ob"
          refine ⟨fun hb => ?_, fun hb => ?_⟩
          · walk_at "ob"
            exact ⟨by omega, by omega, fun r5 r50 r51 => ⟨rfl, r5, rfl, r50, by omega⟩⟩
          · walk_at "ob"
            refine ⟨by split <;> omega, by split <;> omega, fun r5 r50 r51 => ⟨rfl, r5, rfl, r50, ?_⟩⟩
            split at r51 <;> omega
        · rintro v _ G' ⟨rfl, dr, rfl, d0, d1⟩
          walk_at "ob"
          refine ⟨by omega, by omega, fun r6 r60 r61 => ?_⟩
          walk_at "ob"
          refine ⟨by walk_at "ob_len", fun p3 hp3 => ?_⟩
          walk_at "ob"
          refine ⟨by decide, by decide, fun r7 r70 r71 => ?_⟩
          obtain ⟨bk, ebk, b0, b1⟩ : ∃ bk : Int, atI [V.int 0, V.int dr, V.int r6] r7 = some (V.int bk) ∧ 0 ≤ bk ∧ bk ≤ dr := by
            have : r7 = 0 ∨ r7 = 1 ∨ r7 = 2 := by omega
            rcases this with rfl | rfl | rfl
            · exact ⟨0, rfl, by omega, by omega⟩
            · exact ⟨dr, rfl, by omega, by omega⟩
            · exact ⟨r6, rfl, by omega, by omega⟩
          refine rw_ixL hd (SqL.of upd_same) ebk ?_
          walk_at "ob"
          refine ew_bmL hd ?_
          walk_at "ob"
          refine ⟨sl, ws, rfl, SqL.of (by walk_at "ob_at"), ?_⟩
          walk_at "ob"
          refine ⟨by walk_at "ob_len", fun p4 hp4 => ?_⟩
          walk_at "ob"
          refine ⟨by decide, by decide, fun r8 r80 r81 => ?_⟩
          walk_at "ob"
          obtain ⟨lo, elo, l0, l1⟩ : ∃ lo : Int, atI [V.int 3, V.int 9] (r8 / 3) = some (V.int lo) ∧ 0 < lo ∧ lo ≤ 9 := by
            have : r8 / 3 = 0 ∨ r8 / 3 = 1 := by omega
            rcases this with e | e
            · exact ⟨3, by rw [e]; rfl, by omega, by omega⟩
            · exact ⟨9, by rw [e]; rfl, by omega, by omega⟩
          refine rw_ixL hd (SqL.of upd_same) elo ?_
          refine ⟨lo, rfl, l0, by omega, fun r9 r90 r91 => ?_⟩
          walk_at "ob"
          refine ⟨by walk_at "ob_len", fun t ht => ?_⟩
          walk_at "ob"
          refine mw_append hd (xs := ws) (by walk_at "ob_at") (by have := dps_len dw; simp at this; omega) ?_
          have n1 : ml ≠ t := by walk_at "ob_ne"
          have n2 : sl ≠ t := by walk_at "ob_ne"
          have hp5 : G1 t = none := Ex.free (Ex.new (Ex.new g4 hp3) hp4) ht
          refine ⟨_, _, _, upd G1 t (.tup [.int dr, .int (1 + r9), .int bk]), ws ++ [.ref t], ss ++ [⟨dr, 1 + r9, bk⟩], rfl, Ex.new g3 hp5, ?_, ?_, ?_, by walk_at "ob_at", upd_same, ?_, by simp [hss], ?_⟩
          · refine Ex.out (Ex.upd (by walk_at "ob_ex")) ?_
            refine Eq.trans (upd_ne ?_) e4
            walk_at "ob_ne"
          · refine Eq.trans (upd_ne ?_) e1
            walk_at "ob_ne"
          · refine Eq.trans (upd_ne ?_) e4
            walk_at "ob_ne"
          · rw [List.map_append]
            refine dps_snoc (dps_ex (Ex.new (Ex.refl _) hp5) dw) (.tup (SqT.of upd_same) (.cons (.int _) (.cons (.int _) (.cons (.int _) .nil))))
          · intro s hs
            rcases List.mem_append.mp hs with hs | hs
            · exact oks s hs
            · simp at hs
              subst hs
              exact ⟨d0, d1, by show 1 ≤ 1 + r9; omega, by show 1 + r9 ≤ 9; omega, b0, b1⟩
      · rintro σ _ G ⟨x7, x8, x9, G1, ws, ss, rfl, g3, g4, e1, e4, e2, e5, dw, hss, oks⟩
        walk_at "ob"
        refine ew_bmL hd ?_
        walk_at "ob"
        refine ⟨ml, vs, rfl, SqL.of e2, ?_⟩
        walk_at "ob"
        refine cw_tuple hd (ys := ws) (SqL.of e5) fun t ht => ?_
        walk_at "ob"
        refine mw_append hd (xs := vs) (by walk_at "ob_at") (by have := dps_len dv; simp at this; omega) ?_
        have n1 : ml ≠ t := by walk_at "ob_ne"
        have hp5 : G1 t = none := g4.free ht
        refine ⟨_, _, _, _, _, upd G1 t (.tup ws), vs ++ [.ref t], mss ++ [ss], rfl, g1.trans (Ex.new g3 hp5), ?_, ?_, upd_same, ?_, ?_, by simp [hl], ?_, ?_⟩
        · refine Ex.out (Ex.upd g4) ?_
          refine Eq.trans (upd_ne ?_) e1
          walk_at "ob_ne"
        · refine Eq.trans (upd_ne ?_) e1
          walk_at "ob_ne"
        · exact Ex.new g3 hp5 _ _ e3
        · rw [List.map_append]
          refine dps_snoc (dps_ex (Ex.new g3 hp5) dv) (.tup (SqT.of upd_same) (dps_ex (Ex.new (Ex.refl _) hp5) dw))
        · intro s hs
          rcases List.mem_append.mp hs with hs | hs
          · exact ok1 s hs
          · simp at hs
            subst hs
            omega
        · intro s hs
          rcases List.mem_append.mp hs with hs | hs
          · exact ok2 s hs
          · simp at hs
            subst hs
            exact oks
    · rintro σ _ G ⟨x5, x6, x7, x8, x9, G0, vs, mss, rfl, g1, g2, e1, e2, e3, dv, hl, ok1, ok2⟩
      walk_at "ob"
      refine cw_tuple hd (ys := vs) (SqL.of e2) fun t ht => ?_
      walk_at "ob"
      refine ⟨by walk_at "ob_len", fun a ha => ?_⟩
      have gA : Ex G0 (upd (upd G t (.tup vs)) a (.tup [.ref st, .ref t])) := by walk_at "ob_ex"
      refine k _ _ ⟨1 + r1, r4, rf, mss⟩ (g1.trans gA) ?_ ⟨?_, ?_, r40, ?_, rf0, rf1, ?_, ?_, ok2⟩ ?_ ?_ ok1
      · refine .tup (SqT.of upd_same) (.cons (.tup (SqT.of (gA _ _ e3)) (.cons (.int _) (.cons (.int _) (.cons (.int _) .nil)))) (.cons (.tup (SqT.of (xs := vs) ?_) (dps_ex gA dv)) .nil))
        walk_at "ob_at"
      · show 1 ≤ 1 + r1; omega
      · show 1 + r1 ≤ 99; omega
      · show r4 ≤ 1 + r1; omega
      · show mss.length ≤ 5; omega
      · intro ss hs
        have := ok1 ss hs
        omega
      · show 1 + r1 ≤ cap; omega
      · show ((mss.length : Nat) : Int) ≤ most; omega
end
end Obr
namespace PySem.SeqAt
open AutoSeq1 (wpAny_loadPart')
open MeetsSeq MeetsSeq2 MeetsSeq3 SeqRoads2
theorem remove_loopAt (l : Addr) (items : Array Value) (n : Nat) (x : Value) (e : Value → Bool) (j : Nat) (hj : j < items.size) (hit : e items[j] = true) (k : Nat) (hs1 : items.size ≤ sizeLine) :
    ∀ i : Nat, j - i = k → i ≤ j → (∀ m (hm : m < items.size), i ≤ m → m < j → e items[m] = false) → Meets (Builtin.«list.remove.loop» ⟨[.ref l, x, rawInt i], []⟩)
      (fun A R s => s.heap.get? l = some { cls := .type "list", dict := none, data := .seq items n, slots := #[] } ∧ (∀ y, y ∈ items → EqAt A.in1 s y x (e y)) ∧ R (.ok (.ret .none)) { s with heap := s.heap.update l (Obj.mapSeq fun xs => xs.eraseIdxIfInBounds j) }) := by
  induction k with
  | zero =>
    intro i hk hij hno prog w A R s h
    obtain ⟨hp, g, d, tk, os⟩ := s; obtain ⟨hl, he, h⟩ := h
    have hij' : i = j := by omega
    subst hij'
    wp_walk using wpAny_loadPart' hl
    have hi : items[((i : Nat) : Int).toNat]? = some items[i] := by simp [hj]
    rw [hi]
    refine wpAny_bind (he _ (Array.getElem_mem hj) prog w _ _ ?_)
    rw [hit]
    have hz' : (items.eraseIdxIfInBounds i).size ≤ sizeLine + 1 := Nat.le_trans (size_erased items _) (Nat.le_succ_of_le hs1)
    wp_walk using (wpAny_updateSeq hl rfl (hz := hs1) (_hz' := hz')), wpAny_loadPart' hl
    simpa using h
  | succ k ih =>
    intro i hk hij hno prog w A R s h
    obtain ⟨hp, g, d, tk, os⟩ := s; obtain ⟨hl, he, h⟩ := h
    have hlt : i < items.size := by omega
    wp_walk using wpAny_loadPart' hl
    have hi : items[((i : Nat) : Int).toNat]? = some items[i] := by simp [hlt]
    have hc : ((i : Int) + 1) = ((i + 1 : Nat) : Int) := by push_cast; rfl
    rw [hi]
    refine wpAny_bind (he _ (Array.getElem_mem hlt) prog w _ _ ?_)
    rw [hno i hlt (Nat.le_refl _) (by omega)]
    wp_walk
    rw [hc]
    exact ⟨plainId_quiet plain_remove_loop _, codeAny_builtin entry_remove_loop (by
      rw [Around.under_plainId plain_remove_loop _]
      exact ih (i + 1) (by omega) (by omega) (fun m hm h1 h2 => hno m hm (by omega) h2) prog w A R _ ⟨hl, he, h⟩)⟩
theorem list_removeAt (l : Addr) (items : Array Value) (n : Nat) (x : Value) (e : Value → Bool) (j : Nat) (hj : j < items.size)
    (hit : e items[j] = true) (hno : ∀ m (hm : m < items.size), m < j → e items[m] = false) (hs1 : items.size ≤ sizeLine) :
    Meets (Builtin.«list.remove» ⟨[.ref l, x], []⟩)
      (fun A R s => s.heap.get? l = some { cls := .type "list", dict := none, data := .seq items n, slots := #[] } ∧ (∀ y, y ∈ items → EqAt A.in1 s y x (e y)) ∧ R (.ok (.ret .none)) { s with heap := s.heap.update l (Obj.mapSeq fun xs => xs.eraseIdxIfInBounds j) }) := by
  intro prog w A R s h
  obtain ⟨hp, g, d, tk, os⟩ := s; obtain ⟨hl, he, h⟩ := h
  wp_walk using wpAny_loadPart' hl
  exact ⟨plainId_quiet plain_remove_loop _, codeAny_builtin entry_remove_loop (by
    rw [Around.under_plainId plain_remove_loop _]
    exact remove_loopAt l items n x e j hj hit _ hs1 0 rfl (Nat.zero_le _) (fun m hm _ h2 => hno m hm h2) prog w A R _ ⟨hl, he, h⟩)⟩
end PySem.SeqAt
namespace Obr
open PySem L2 PySem.Spec PyProof.Rows
section
variable {X : Cx}
/-- xs.remove(y), the items data of any depth: the first that is equal goes -/
def rRemD (K : PySem.W.Frag) : V → List V → Hp → VK → Prop := fun x xs H Q => ∃ (a : Addr) (vs : List V) (y : V) (d : PyData) (ds : List PyData) (j : Nat) (z : PyData), x = V.ref a ∧ xs = [y] ∧ H a = some (.lst vs) ∧ DpAll K H vs ds ∧ Dp K H y d ∧
  SeqAt.shaped (.list ds) = true ∧ SeqAt.shaped d = true ∧ ds[j]? = some z ∧ PyData.eqv z d = true ∧ (∀ (m : Nat) (z' : PyData), m < j → ds[m]? = some z' → PyData.eqv z' d = false) ∧ Q .non (upd H a (.lst (vs.eraseIdx j)))
theorem mt_removeD (hu : X.A.units + 65 < cLine) : MtM X "list.remove" (rRemD X.K) := by
  intro pins s σ H x xs v us Q I rx rxs h
  obtain ⟨a, vs, y, d, ds, j, z, rfl, rfl, hH, ha, hy, sl, sd, hz, hzj, hno, q⟩ := h
  cases rx
  obtain ⟨uy, rfl, ry⟩ := rxs.one
  obtain ⟨bs, r1⟩ := Dp.reads I d y uy hy ry
  have hxs : PyData.canLayAll0 ds = true := SeqAt.canLay_of_shaped sl
  have hroom : X.A.units + 1 + min (PyData.depthAll ds) d.depth < cLine := room_in_shaped sd hu
  obtain ⟨hsz, its, n, rv, hlen, ho⟩ := I.lstM hH
  obtain ⟨as, h4⟩ := Dp.readsAll I ds _ its ha rv
  have hn : its.length = ds.length := SeqAt.ReadsAll.length ds its as h4
  have hmap : its.map (SeqAt.readOf s.heap) = ds := SeqAt.readsAll_map ds its as hxs h4
  obtain ⟨hjd, _⟩ := List.getElem?_eq_some_iff.mp hz
  have hjl : j < its.length := by omega
  have hj : j < its.toArray.size := by simpa using hjl
  have at_ : ∀ (m : Nat) (hm : m < its.toArray.size) (z' : PyData), ds[m]? = some z' → SeqAt.readOf s.heap its.toArray[m] = z' := by
    intro m hm z' hz'
    have hml : m < its.length := by simpa using hm
    rw [← hmap, List.getElem?_map, List.getElem?_eq_getElem hml] at hz'
    have e1 : SeqAt.readOf s.heap its[m] = z' := Option.some.inj (show some (SeqAt.readOf s.heap its[m]) = some z' from hz')
    simpa using e1
  refine call_meets PySem.F.slot_list_remove ⟨_, ho, rfl⟩ PySem.F.entry_list_remove (PySem.F.args_list_remove_2 _ _)
    (SeqAt.list_removeAt a its.toArray n uy (fun u => PyData.eqv (SeqAt.readOf s.heap u) d) j hj ?_ ?_ (by rw [List.size_toArray]; omega)) ⟨ho, SeqAt.items_eqAt (vs := its.toArray) (show ReadsAll s.heap its.toArray.toList ds as from h4) r1 hxs (SeqAt.canLay_of_shaped sd) hroom, ?_⟩
  · show PyData.eqv (SeqAt.readOf s.heap its.toArray[j]) d = true
    rw [at_ j hj z hz]
    exact hzj
  · intro m hm hmj
    have hmd : m < ds.length := by omega
    have hz' : ds[m]? = some ds[m] := List.getElem?_eq_getElem hmd
    show PyData.eqv (SeqAt.readOf s.heap its.toArray[m]) d = false
    rw [at_ m hm _ hz']
    exact hno m _ hmj hz'
  · refine ⟨.non, _, I.lset hH ho (its' := its.eraseIdx j) (by rw [Array.eraseIdxIfInBounds, dif_pos hj]; simp) (rv.eraseIdx j) (Nat.le_trans (len_erase _ _) hsz), rfl, q⟩
/-- tuples of whole numbers and truth values, by < -/
def numV : V → Option Int
  | .int i => some i
  | .bl b => some (b2i b)
  | _ => none
def rLtM (K : PySem.W.Frag) : R2 := fun x y H Q => ∃ (a b : Addr) (xs ys : List V) (ns ms : List Int), x = .ref a ∧ y = .ref b ∧ SqT K H a xs ∧ SqT K H b ys ∧ xs.map numV = ns.map some ∧ ys.map numV = ms.map some ∧
  (∀ (j : Nat) (x y : V), xs[j]? = some x → ys[j]? = some y → (∃ i k, x = V.int i ∧ y = V.int k) ∨ ∃ i k, x = V.bl i ∧ y = V.bl k) ∧
  Q (.bl (Ob.lexAt (fun j => decide (ns.getD j 0 = ms.getD j 0)) (fun j => decide (ns.getD j 0 < ms.getD j 0)) (decide (ns.length < ms.length)) 0 (min ns.length ms.length))) H
theorem rcLt_bool {A : Around} {s : Shared} (p q : Bool) : Ob.RcOp .Lt A s (.bool p) (.bool q) (decide (b2i p < b2i q)) := fun _ _ _ _ h => PyProof.Rows.lt_bool h
theorem op_ltM (hu : X.A.units < cLine) : OpR X (compareOp .Lt) (rLtM X.K) := by
  intro pins s σ H x y v u Q I rx ry h
  obtain ⟨a, b, xs, ys, ns, ms, rfl, rfl, ha, hb, en, em, hk, q⟩ := h
  cases rx
  cases ry
  obtain ⟨its, r1, p1, _⟩ := I.tuple ha
  obtain ⟨its2, r2, p2, _⟩ := I.tuple hb
  have l1 : xs.length = ns.length := by have := congrArg List.length en; simpa using this
  have l2 : ys.length = ms.length := by have := congrArg List.length em; simpa using this
  have e1 : its.toArray.size = ns.length := by rw [List.size_toArray, ← r1.length]; exact l1
  have e2 : its2.toArray.size = ms.length := by rw [List.size_toArray, ← r2.length]; exact l2
  have nn : ∀ j (h1 : j < xs.length), numV xs[j] = some (ns.getD j 0) := fun j h1 => by
    have h2 : j < ns.length := by omega
    have := congrArg (fun l : List (Option Int) => l[j]?) en
    simp only [List.getElem?_map, List.getElem?_eq_getElem h1, List.getElem?_eq_getElem h2, Option.map_some] at this
    have e := Option.some.inj this
    rw [e]
    simp [List.getD, List.getElem?_eq_getElem h2]
  have mm : ∀ j (h1 : j < ys.length), numV ys[j] = some (ms.getD j 0) := fun j h1 => by
    have h2 : j < ms.length := by omega
    have := congrArg (fun l : List (Option Int) => l[j]?) em
    simp only [List.getElem?_map, List.getElem?_eq_getElem h1, List.getElem?_eq_getElem h2, Option.map_some] at this
    have e := Option.some.inj this
    rw [e]
    simp [List.getD, List.getElem?_eq_getElem h2]
  have both : ∀ j (h1 : j < its.toArray.size) (h2 : j < its2.toArray.size), (∃ i t k t', its.toArray[j] = .int i t ∧ its2.toArray[j] = .int k t' ∧ ns.getD j 0 = i ∧ ms.getD j 0 = k) ∨ ∃ i k, its.toArray[j] = .bool i ∧ its2.toArray[j] = .bool k ∧ ns.getD j 0 = b2i i ∧ ms.getD j 0 = b2i k := fun j h1 h2 => by
    have j1 : j < xs.length := by omega
    have j2 : j < ys.length := by omega
    obtain ⟨u1, g1, q1⟩ := r1.get (List.getElem?_eq_getElem j1)
    obtain ⟨u2, g2, q2⟩ := r2.get (List.getElem?_eq_getElem j2)
    have n1 := nn j j1
    have n2 := mm j j2
    have f1 : its.toArray[j] = u1 := by
      obtain ⟨_, e⟩ := List.getElem?_eq_some_iff.mp g1
      simpa using e
    have f2 : its2.toArray[j] = u2 := by
      obtain ⟨_, e⟩ := List.getElem?_eq_some_iff.mp g2
      simpa using e
    rcases hk j _ _ (List.getElem?_eq_getElem j1) (List.getElem?_eq_getElem j2) with ⟨i, k, ei, ek⟩ | ⟨i, k, ei, ek⟩
    · rw [ei] at q1 n1
      rw [ek] at q2 n2
      obtain ⟨t, rfl⟩ := q1
      obtain ⟨t', rfl⟩ := q2
      exact .inl ⟨i, t, k, t', f1, f2, (Option.some.inj n1).symm, (Option.some.inj n2).symm⟩
    · rw [ei] at q1 n1
      rw [ek] at q2 n2
      cases q1
      cases q2
      exact .inr ⟨i, k, f1, f2, (Option.some.inj n1).symm, (Option.some.inj n2).symm⟩
  have R := Ob.RcOp.tuples_lt (A := X.A) (s := s) (e := fun j => decide (ns.getD j 0 = ms.getD j 0)) (r := fun j => decide (ns.getD j 0 < ms.getD j 0)) p1 p2 hu (fun j h1 h2 => by
    rcases both j h1 h2 with ⟨i, t, k, t', q1, q2, e1, e2⟩ | ⟨i, k, q1, q2, e1, e2⟩
    · rw [q1, q2, e1, e2]
      have z : (i == k) = decide (i = k) := by
        by_cases q : i = k
        · rw [decide_eq_true q]; exact beq_iff_eq.mpr q
        · rw [decide_eq_false q]; exact beq_eq_false_iff_ne.mpr q
      rw [← z]
      exact SeqAt.EqAt.int_int _ _ _ _
    · rw [q1, q2, e1, e2]
      have z : decide (b2i i = b2i k) = eqV (.bl i) (.bl k) := by cases i <;> cases k <;> rfl
      rw [z]
      exact eqAt_V (y := .bl i) (x := .bl k) rfl rfl rfl rfl) (fun j h1 h2 _ => by
    rcases both j h1 h2 with ⟨i, t, k, t', q1, q2, e1, e2⟩ | ⟨i, k, q1, q2, e1, e2⟩
    · rw [q1, q2, e1, e2]
      exact Ob.RcOp.lt_int _ _ _ _
    · rw [q1, q2, e1, e2]
      exact rcLt_bool _ _)
  rw [e1, e2] at R
  have z : wpAny (model X.prog X.w) X.A (compareOp .Lt (.ref a) (.ref b)) (EP X pins σ Q) X.xe s := R X.prog X.w X.xe (EP X pins σ Q) ⟨.bl _, H, I, rfl, q⟩
  exact z
end
end Obr
namespace Obr
open PySem L2 PySem.Spec PyProof.Rows
section
variable {S : Type} {J : S → Hp → Hp → Prop} {K : PySem.W.Frag} {s : S} {F : Hp} {R : V → S → Hp → Prop}
/-- two pairs, by < -/
theorem rw_lt2 (hd : Hid J) {a b : Addr} {x1 x2 : V} {n1 n2 k1 k2 : Int} (ha : SqT K F a [x1, .int k1]) (hb : SqT K F b [x2, .int k2]) (e1 : numV x1 = some n1) (e2 : numV x2 = some n2)
    (hk : (∃ i k, x1 = V.int i ∧ x2 = V.int k) ∨ ∃ i k, x1 = V.bl i ∧ x2 = V.bl k) (h : R (.bl (decide (n1 < n2 ∨ (n1 = n2 ∧ k1 < k2)))) s F) : RW J (rLtM K) (.ref a) (.ref b) s F R := fun H j Q q => by
  refine ⟨a, b, [x1, .int k1], [x2, .int k2], [n1, k1], [n2, k2], rfl, rfl, hd.sqT j ha, hd.sqT j hb, ?_, ?_, ?_, ?_⟩
  · show [numV x1, some k1] = [some n1, some k1]
    rw [e1]
  · show [numV x2, some k2] = [some n2, some k2]
    rw [e2]
  · intro i x y hx hy
    match i, hx, hy with
    | 0, hx, hy =>
      have := Option.some.inj hx
      have := Option.some.inj hy
      subst_vars
      exact hk
    | 1, hx, hy =>
      have := Option.some.inj hx
      have := Option.some.inj hy
      subst_vars
      exact .inl ⟨_, _, rfl, rfl⟩
    | i + 2, hx, hy => simp at hx
  · have e : Ob.lexAt (fun j => decide (([n1, k1] : List Int).getD j 0 = ([n2, k2] : List Int).getD j 0)) (fun j => decide (([n1, k1] : List Int).getD j 0 < ([n2, k2] : List Int).getD j 0)) (decide (([n1, k1] : List Int).length < ([n2, k2] : List Int).length)) 0 (min ([n1, k1] : List Int).length ([n2, k2] : List Int).length) = decide (n1 < n2 ∨ (n1 = n2 ∧ k1 < k2)) := by
      show (if decide (n1 = n2) = true then (if decide (k1 = k2) = true then decide (2 < 2) else decide (k1 < k2)) else decide (n1 < n2)) = _
      by_cases c1 : n1 = n2
      · rw [if_pos (decide_eq_true c1)]
        by_cases c2 : k1 = k2
        · rw [if_pos (decide_eq_true c2)]
          rw [decide_eq_false (by omega), decide_eq_false (by omega)]
        · rw [if_neg (by simpa using c2)]
          by_cases c3 : k1 < k2
          · rw [decide_eq_true c3, decide_eq_true (by omega)]
          · rw [decide_eq_false c3, decide_eq_false (by omega)]
      · rw [if_neg (by simpa using c1)]
        by_cases c3 : n1 < n2
        · rw [decide_eq_true c3, decide_eq_true (by omega)]
        · rw [decide_eq_false c3, decide_eq_false (by omega)]
    rw [e]
    exact q _ _ _ _ j h
theorem rw_eqD (hd : Hid J) {x y : V} {d e : PyData} (h1 : Dp K F x d) (h2 : Dp K F y e) (s1 : SeqAt.shaped d = true) (s2 : SeqAt.shaped e = true) (h : R (.bl (PyData.eqv d e)) s F) : RW J (rEqD K) x y s F R := fun H j Q q =>
  ⟨d, e, dp_ex (hd.ex j) h1, dp_ex (hd.ex j) h2, s1, s2, q _ _ _ _ j h⟩
theorem rw_neD (hd : Hid J) {x y : V} {d e : PyData} (h1 : Dp K F x d) (h2 : Dp K F y e) (s1 : SeqAt.shaped d = true) (s2 : SeqAt.shaped e = true) (h : R (.bl (!PyData.eqv d e)) s F) : RW J (rNeD K) x y s F R := fun H j Q q =>
  ⟨d, e, dp_ex (hd.ex j) h1, dp_ex (hd.ex j) h2, s1, s2, q _ _ _ _ j h⟩
theorem mw_remD (hd : Hid J) {a : Addr} {vs : List V} {y : V} {d : PyData} {ds : List PyData} {j0 : Nat} {z : PyData} (h1 : F a = some (.lst vs)) (h2 : DpAll K F vs ds) (h3 : Dp K F y d) (s1 : SeqAt.shaped (.list ds) = true) (s2 : SeqAt.shaped d = true)
    (hz : ds[j0]? = some z) (he : PyData.eqv z d = true) (hno : ∀ (m : Nat) (z' : PyData), m < j0 → ds[m]? = some z' → PyData.eqv z' d = false) (h : R .non s (upd F a (.lst (vs.eraseIdx j0)))) : MW J (rRemD K) (.ref a) [y] s F R := fun H j Q q =>
  ⟨a, vs, y, d, ds, j0, z, rfl, rfl, hd.ex j _ _ h1, dps_ex (hd.ex j) h2, dp_ex (hd.ex j) h3, s1, s2, hz, he, hno, q _ _ _ _ (hd.mu j h1) h⟩
end
/-! ### flat data is shaped -/
def flatD : PyData → Bool
  | .none => true
  | .bool _ => true
  | .int _ => true
  | .str _ => true
  | _ => false
/-- data of depth n at most -/
def lowD : Nat → PyData → Bool
  | _, .none => true
  | _, .bool _ => true
  | _, .int _ => true
  | _, .str x => PyData.strOk x
  | n + 1, .list ds => ds.all (lowD n)
  | n + 1, .tuple ds => ds.all (lowD n)
  | _, _ => false
theorem lowD_ok : ∀ (n : Nat) (d : PyData), lowD n d = true → d.canLay0 = true ∧ d.depth ≤ n
  | _, .none, _ => by simp [PyData.canLay0, PyData.depth]
  | _, .bool _, _ => by simp [PyData.canLay0, PyData.depth]
  | _, .int _, _ => by simp [PyData.canLay0, PyData.depth]
  | _, .str x, h => by
    have h' : PyData.strOk x = true := by simpa [lowD] using h
    simp [PyData.canLay0, PyData.depth, h']
  | 0, .list ds, h => by simp [lowD] at h
  | 0, .tuple ds, h => by simp [lowD] at h
  | _, .dict ds, h => by simp [lowD] at h
  | n + 1, .list ds, h => by
    have : ∀ ds : List PyData, ds.all (lowD n) = true → PyData.canLayAll0 ds = true ∧ PyData.depthAll ds ≤ n := fun ds => by
      induction ds with
      | nil => intro _; simp [PyData.canLayAll0, PyData.depthAll]
      | cons d ds ih =>
        intro h
        simp only [List.all_cons, Bool.and_eq_true] at h
        have a := lowD_ok n d h.1
        have b := ih h.2
        simp only [PyData.canLayAll0, PyData.depthAll, Bool.and_eq_true]
        exact ⟨⟨a.1, b.1⟩, by omega⟩
    simp only [lowD] at h
    have := this ds h
    simp only [PyData.canLay0, PyData.depth]
    exact ⟨this.1, by omega⟩
  | n + 1, .tuple ds, h => by
    have : ∀ ds : List PyData, ds.all (lowD n) = true → PyData.canLayAll0 ds = true ∧ PyData.depthAll ds ≤ n := fun ds => by
      induction ds with
      | nil => intro _; simp [PyData.canLayAll0, PyData.depthAll]
      | cons d ds ih =>
        intro h
        simp only [List.all_cons, Bool.and_eq_true] at h
        have a := lowD_ok n d h.1
        have b := ih h.2
        simp only [PyData.canLayAll0, PyData.depthAll, Bool.and_eq_true]
        exact ⟨⟨a.1, b.1⟩, by omega⟩
    simp only [lowD] at h
    have := this ds h
    simp only [PyData.canLay0, PyData.depth]
    exact ⟨this.1, by omega⟩
theorem shaped_low {n : Nat} {d : PyData} (h : lowD n d = true) (hn : n ≤ 64 := by decide) : SeqAt.shaped d = true := by
  have := lowD_ok n d h
  show (d.canLay0 && decide (d.depth ≤ 64)) = true
  rw [Bool.and_eq_true]
  exact ⟨this.1, decide_eq_true (by omega)⟩
end Obr
theorem L2.Room.u65 {k : Nat} {A : PySem.Around} (r : L2.Room k A) : A.units + 65 < PySem.cLine := by have := r.un; omega
namespace Obr
open PySem L2
theorem cutV_one (a : V) (l : List V) : cutV (a :: l) (some 1) none = l := by
  unfold cutV HT.sIx
  simp
theorem at_zero {x : V} {xs : List V} : atI (x :: xs) 0 = some x := by
  have h : ixN (x :: xs).length 0 = some 0 := by
    unfold ixN
    rw [if_pos (by decide), if_pos (by simp only [List.length_cons]; omega)]
    rfl
  unfold atI
  rw [h]
  rfl
theorem nodup_map_inj {α β : Type} {f : α → β} : ∀ {l : List α} {a b : α}, (l.map f).Nodup → a ∈ l → b ∈ l → f a = f b → a = b
  | [], _, _, _, h, _, _ => by cases h
  | x :: l, a, b, hn, ha, hb, e => by
    rw [List.map_cons, List.nodup_cons] at hn
    rcases List.mem_cons.mp ha with ea | ha2
    · rcases List.mem_cons.mp hb with eb | hb2
      · rw [ea, eb]
      · exact absurd (by rw [← ea, e]; exact List.mem_map_of_mem hb2) hn.1
    · rcases List.mem_cons.mp hb with eb | hb2
      · exact absurd (by rw [← eb, ← e]; exact List.mem_map_of_mem ha2) hn.1
      · exact nodup_map_inj hn.2 ha2 hb2 e
theorem map_eraseIdx' {α β : Type} (f : α → β) : ∀ (l : List α) (j : Nat), (l.eraseIdx j).map f = (l.map f).eraseIdx j
  | [], _ => by simp
  | a :: l, 0 => by simp
  | a :: l, j + 1 => by simp [map_eraseIdx' f l j]
theorem perm_eraseIdx {α : Type} : ∀ {l : List α} {j : Nat} {b : α}, l[j]? = some b → l.Perm (b :: l.eraseIdx j)
  | [], _, _, h => by simp at h
  | a :: l, 0, b, h => by
    simp at h
    subst h
    exact .refl _
  | a :: l, j + 1, b, h => by
    simp only [List.getElem?_cons_succ] at h
    have := perm_eraseIdx h
    exact (List.Perm.cons a this).trans (List.Perm.swap b a _)
theorem dps_eraseIdx {K : PySem.W.Frag} {F : Hp} : ∀ {ds : List PyData} {vs : List V} (j : Nat), DpAll K F vs ds → DpAll K F (vs.eraseIdx j) (ds.eraseIdx j)
  | [], _, _, h => by cases h; exact .nil
  | d :: ds, _, 0, h => by cases h with | cons h1 h2 => exact h2
  | d :: ds, _, j + 1, h => by cases h with | cons h1 h2 => exact .cons h1 (dps_eraseIdx j h2)
theorem first_ix {α : Type} [DecidableEq α] : ∀ {l : List α} {b : α}, b ∈ l → ∃ j : Nat, l[j]? = some b ∧ ∀ (m : Nat) (x : α), m < j → l[m]? = some x → x ≠ b
  | [], _, h => by cases h
  | a :: l, b, h => by
    by_cases e : a = b
    · exact ⟨0, by simp [e], fun m x hm => by omega⟩
    · have h2 : b ∈ l := by
        rcases List.mem_cons.mp h with h | h
        · exact absurd h.symm e
        · exact h
      obtain ⟨j, h3, h4⟩ := first_ix h2
      refine ⟨j + 1, by simpa using h3, fun m x hm hx => ?_⟩
      cases m with
      | zero => simp at hx; rw [← hx]; exact e
      | succ m => exact h4 m x (by omega) (by simpa using hx)
end Obr
namespace Obr
open PySem L2 PySem.Spec PyProof.Rows

/-! ### dicts by keys -/
section
variable {κ : Type} [DecidableEq κ]
theorem valV_nd : ∀ {kvs : List (κ × V)} {i : Nat} {k : κ} {v : V}, (kvs.map (·.1)).Nodup → kvs[i]? = some (k, v) → valV kvs k = some v
  | [], _, _, _, _, h => by simp at h
  | p :: r, 0, k, v, _, h => by
    simp at h
    subst h
    exact valV_pos rfl
  | p :: r, i + 1, k, v, hn, h => by
    rw [List.map_cons, List.nodup_cons] at hn
    simp only [List.getElem?_cons_succ] at h
    have : p.1 ≠ k := fun e => hn.1 (by rw [e]; exact List.mem_map.mpr ⟨(k, v), List.mem_of_getElem? h, rfl⟩)
    rw [valV_neg this]
    exact valV_nd hn.2 h
theorem map_put {k : κ} {v : V} : ∀ {kvs : List (κ × V)} {i : Nat} {v0 : V}, (kvs.map (·.1)).Nodup → kvs[i]? = some (k, v0) → kvs.map (fun kv => if kv.1 = k then (kv.1, v) else kv) = kvs.set i (k, v)
  | [], _, _, _, h => by simp at h
  | p :: r, 0, v0, hn, h => by
    simp at h
    subst h
    rw [List.map_cons, List.nodup_cons] at hn
    have : r.map (fun kv => if kv.1 = k then (kv.1, v) else kv) = r := by
      conv => rhs; rw [← List.map_id r]
      refine List.map_congr_left fun x hx => ?_
      have : x.1 ≠ k := fun e => hn.1 (by show k ∈ _; rw [← e]; exact List.mem_map_of_mem hx)
      simp [this]
    simp [this]
  | p :: r, i + 1, v0, hn, h => by
    rw [List.map_cons, List.nodup_cons] at hn
    simp only [List.getElem?_cons_succ] at h
    have : p.1 ≠ k := fun e => hn.1 (by rw [e]; exact List.mem_map.mpr ⟨(k, v0), List.mem_of_getElem? h, rfl⟩)
    simp only [List.map_cons, if_neg this, List.set_cons_succ]
    rw [map_put hn.2 h]
theorem putK_nd {kvs : List (κ × V)} {i : Nat} {k : κ} {v v0 : V} (hn : (kvs.map (·.1)).Nodup) (h : kvs[i]? = some (k, v0)) : putK kvs k v = kvs.set i (k, v) := by
  unfold putK
  have : (kvs.any fun kv => decide (kv.1 = k)) = true := by
    rw [valV_any, valV_nd hn h]
    rfl
  rw [if_pos this]
  exact map_put hn h
end
section
variable {S : Type} {J : S → Hp → Hp → Prop} {K : PySem.W.Frag} {σ : L2.St} {s : S} {F : Hp} {R : V → S → Hp → Prop} {td ty tv te : TE} {D : En S}
theorem ew_dget (hd : Hid J) (h : EW J td σ s F fun x s1 F1 => EW J ty σ s1 F1 fun y s2 F2 => ∃ a kvs k v, x = .ref a ∧ y = kV k ∧ F2 a = some (.dK kvs) ∧ valV kvs k = some v ∧ R v s2 F2) : EW J (tDGet td ty) σ s F R := fun H j Q q =>
  h H j _ fun x s1 F1 H1 j1 h1 => h1 H1 j1 _ fun y s2 F2 H2 j2 ⟨a, kvs, k, v, e1, e2, hf, hv, k2⟩ => ⟨a, v, e1, by subst e2; rw [← hv]; exact DGet.k (hd.ex j2 _ _ hf), q _ _ _ _ j2 k2⟩
theorem sw_dput (hd : Hid J) (h : EW J tv σ s F fun v s1 F1 => EW J td σ s1 F1 fun x s2 F2 => EW J ty σ s2 F2 fun y s3 F3 => ∃ a kvs k, x = .ref a ∧ y = kV k ∧ F3 a = some (.dK kvs) ∧ kvs.length < 100000 ∧ D.nx σ s3 (upd F3 a (.dK (putK kvs k v)))) :
    SW J (sDPut td ty tv) D σ s F := fun H j D' l =>
  h H j _ fun v s1 F1 H1 j1 h1 => h1 H1 j1 _ fun x s2 F2 H2 j2 h2 => h2 H2 j2 _ fun y s3 F3 H3 j3 ⟨a, kvs, k, e1, e2, hf, hl, k2⟩ =>
    ⟨a, upd H3 a (.dK (putK kvs k v)), e1, by subst e2; exact DPut.k (hd.ex j3 _ _ hf) (Nat.lt_of_lt_of_le hl (by decide)), l.nx _ _ _ _ (hd.mu j3 hf) k2⟩
/-- the pairs of a display -/
def PPW {S : Type} (J : S → Hp → Hp → Prop) (trs : List (TE × TE)) (σ : L2.St) (s : S) (F : Hp) (R : List (V × V) → S → Hp → Prop) : Prop :=
  ∀ H, J s F H → ∀ Q : List (V × V) → Hp → Prop, (∀ ps s' F' H', J s' F' H' → R ps s' F' → Q ps H') → tPairs trs σ H Q
theorem ppw_nil {R : List (V × V) → S → Hp → Prop} (k : R [] s F) : PPW J [] σ s F R := fun H j Q q => q _ _ _ _ j k
theorem ppw_cons {tk tv : TE} {trs : List (TE × TE)} {R : List (V × V) → S → Hp → Prop} (h : EW J tk σ s F fun x s1 F1 => EW J tv σ s1 F1 fun y s2 F2 => PPW J trs σ s2 F2 fun ps s3 F3 => R ((x, y) :: ps) s3 F3) : PPW J ((tk, tv) :: trs) σ s F R := fun H j Q q =>
  h H j _ fun x s1 F1 H1 j1 h1 => h1 H1 j1 _ fun y s2 F2 H2 j2 h2 => h2 H2 j2 _ fun ps s3 F3 H3 j3 k => q _ _ _ _ j3 k
theorem ew_disp (hd : Hid J) {trs : List (TE × TE)} (h : ∀ p, F p = none → PPW J trs σ s (upd F p (.dK [])) fun ps s1 F1 => F1 p = some (.dK []) ∧ ∃ kvs : List (Key × V), ps = kvs.map (fun kv => (kV kv.1, kv.2)) ∧ kvs.length ≤ 15 ∧ R (.ref p) s1 (upd F1 p (.dK (mergeK [] kvs)))) :
    EW J (tDisp trs) σ s F R := fun H j Q q p hp => h p (hd.fresh j hp) _ (hd.al j hp) _ fun ps s1 F1 H1 j1 ⟨e, kvs, ek, hl, k⟩ => ⟨hd.ex j1 _ _ e, kvs, ek, hl, q _ _ _ _ (hd.mu j1 e) k⟩
end
section
variable {X : Cx}
/-- d.update(e), two dicts -/
def rUpdD : V → List V → Hp → VK → Prop := fun x vs H Q => ∃ d o kvs more, x = .ref d ∧ vs = [.ref o] ∧ d ≠ o ∧ H d = some (.dK kvs) ∧ H o = some (.dK more) ∧ kvs.length + more.length ≤ 1000 ∧ Q .non (upd H d (.dK (mergeK kvs more)))
theorem mt_dupdate : MtM X "dict.update" rUpdD := by
  intro pins s σ H x xs v us Q I rx rxs h
  obtain ⟨d, o, kvs, more, rfl, rfl, hne, e1, e2, hl, q⟩ := h
  cases rx
  obtain ⟨u, rfl, ru⟩ := rxs.one
  cases ru
  obtain ⟨z1, hd1, vs1, rel1, dd1⟩ := dk_of I.hok e1
  obtain ⟨z2, hd2, vs2, rel2, dd2⟩ := dk_of I.hok e2
  refine call_meetsIn PySem.F.slot_dict_update dd1.typeIs PySem.F.entry_dict_update (PySem.F.args_dict_update_2 _ _) (meets_dict_update (mixKind X.prog X.w) d o hne hd2)
    ⟨vs1, vs2, dd1, dd2, by rw [← rel1.length, ← rel2.length]; rw [sizeLine_eq]; omega, fun h' dd' _ hs => ?_⟩
  have he : ∃ q, h'.get? d = some q := let ⟨q, _, _, hq, _⟩ := dd'; ⟨q, hq⟩
  refine ⟨.non, _, d_write (t' := s.toks) I (by rw [e1]; exact True.intro) hs he (dk_new ?_ hd1 (rel2.merge rel1) dd'), rfl, q⟩
  have := length_mergeK more kvs
  rw [sizeLine_eq]
  omega
end
section
variable {S : Type} {J : S → Hp → Hp → Prop} {K : PySem.W.Frag} {σ : L2.St} {s : S} {F : Hp} {R : V → S → Hp → Prop} {te : TE} {tr : TA}
theorem ew_bmD (hd : Hid J) {r : V → List V → Hp → VK → Prop} (h : EW J te σ s F fun x s1 F1 => ∃ a kvs, x = .ref a ∧ F1 a = some (.dK kvs) ∧ AW J tr σ s1 F1 fun vs s2 F2 => MW J r x vs s2 F2 R) : EW J (tBM K "dict" r te tr) σ s F R := fun H j Q q =>
  h H j _ fun x s1 F1 H1 j1 ⟨a, kvs, e, l, h1⟩ => ⟨by subst e; exact Or.inr (Or.inr (Or.inl ⟨rfl, Or.inl ⟨kvs, hd.ex j1 _ _ l⟩⟩)), h1 H1 j1 _ fun vs s2 F2 H2 j2 h2 => h2 H2 j2 Q q⟩
theorem mw_upd (hd : Hid J) {d o : Addr} {kvs more : List (Key × V)} (hne : d ≠ o) (h1 : F d = some (.dK kvs)) (h2 : F o = some (.dK more)) (hl : kvs.length + more.length ≤ 1000) (h : R .non s (upd F d (.dK (mergeK kvs more)))) : MW J rUpdD (.ref d) [.ref o] s F R := fun H j Q q =>
  ⟨d, o, kvs, more, rfl, rfl, hne, hd.ex j _ _ h1, hd.ex j _ _ h2, hl, q _ _ _ _ (hd.mu j h1) h⟩
end

/-! ### owned cells: F0 knows none of them, F holds each -/
structure Own (F0 F : Hp) (own : List (Addr × HO)) : Prop where
  ex : Ex F0 F
  out : ∀ p ∈ own, F0 p.1 = none
  at_ : ∀ p ∈ own, F p.1 = some p.2
  nd : (own.map (·.1)).Nodup
section
variable {F0 F : Hp} {own : List (Addr × HO)}
theorem Own.get (h : Own F0 F own) {i : Nat} {a : Addr} {o : HO} (e : own[i]? = some (a, o)) : F a = some o := h.at_ (a, o) (List.mem_of_getElem? e)
theorem Own.none (h : Own F0 F own) {i : Nat} {a : Addr} {o : HO} (e : own[i]? = some (a, o)) : F0 a = Option.none := h.out (a, o) (List.mem_of_getElem? e)
theorem own_map_set {i : Nat} {a : Addr} {o o' : HO} (e : own[i]? = some (a, o)) : (own.set i (a, o')).map (·.1) = own.map (·.1) := by
  rw [List.map_set]
  have h : (own.map (·.1))[i]? = some a := by rw [List.getElem?_map, e]; rfl
  refine List.ext_getElem? fun j => ?_
  rw [List.getElem?_set]
  by_cases c : i = j
  · subst c
    rw [if_pos rfl, h]
    have hi : i < own.length := (List.getElem?_eq_some_iff.mp e).1
    simp [hi]
  · rw [if_neg c]
theorem Own.set (h : Own F0 F own) {i : Nat} {a : Addr} {o o' : HO} (e : own[i]? = some (a, o)) : Own F0 (upd F a o') (own.set i (a, o')) where
  ex := h.ex.out (h.none e)
  out := fun p hp => by
    rcases List.mem_or_eq_of_mem_set hp with hp | rfl
    · exact h.out p hp
    · exact h.none e
  at_ := fun p hp => by
    obtain ⟨j, hj⟩ := List.getElem?_of_mem hp
    rw [List.getElem?_set] at hj
    by_cases c : i = j
    · subst c
      rw [if_pos rfl] at hj
      simp at hj
      rw [← hj.2]
      exact upd_same
    · rw [if_neg c] at hj
      have : p.1 ≠ a := fun q => c (nd_ix h.nd (x := a) (by rw [List.getElem?_map, e]; rfl) (by rw [List.getElem?_map, hj]; exact congrArg some q))
      rw [upd_ne this]
      exact h.at_ p (List.mem_of_getElem? hj)
  nd := by rw [own_map_set e]; exact h.nd
/-- a new thing: known to both, or to F alone -/
theorem Own.new (h : Own F0 F own) {p : Addr} {o : HO} (hp : F p = Option.none) : Own (upd F0 p o) (upd F p o) own where
  ex := h.ex.upd
  out := fun q hq => by rw [upd_ne (ne_of_none (h.at_ q hq) hp)]; exact h.out q hq
  at_ := fun q hq => by rw [upd_ne (ne_of_none (h.at_ q hq) hp)]; exact h.at_ q hq
  nd := h.nd
theorem Own.new' (h : Own F0 F own) {p : Addr} {o : HO} (hp : F p = Option.none) : Own F0 (upd F p o) own where
  ex := h.ex.new hp
  out := h.out
  at_ := fun q hq => by rw [upd_ne (ne_of_none (h.at_ q hq) hp)]; exact h.at_ q hq
  nd := h.nd
/-- a new thing that is owned -/
theorem Own.more (h : Own F0 F own) {p : Addr} {o : HO} (hp : F p = Option.none) : Own F0 (upd F p o) ((p, o) :: own) where
  ex := h.ex.new hp
  out := fun q hq => by
    rcases List.mem_cons.mp hq with rfl | hq
    · exact h.ex.free hp
    · exact h.out q hq
  at_ := fun q hq => by
    rcases List.mem_cons.mp hq with rfl | hq
    · exact upd_same
    · rw [upd_ne (ne_of_none (h.at_ q hq) hp)]; exact h.at_ q hq
  nd := by
    rw [List.map_cons, List.nodup_cons]
    refine ⟨fun hm => ?_, h.nd⟩
    obtain ⟨q, hq, e⟩ := List.mem_map.mp hm
    have := h.at_ q hq
    rw [e, hp] at this
    cases this
theorem Own.perm (h : Own F0 F own) {own' : List (Addr × HO)} (p : own'.Perm own) : Own F0 F own' where
  ex := h.ex
  out := fun q hq => h.out q (p.mem_iff.mp hq)
  at_ := fun q hq => h.at_ q (p.mem_iff.mp hq)
  nd := (p.map (·.1)).nodup_iff.mpr h.nd
/-- what is no longer written is known to F0 -/
theorem Own.freeze (h : Own F0 F own) {a : Addr} {o : HO} {own' : List (Addr × HO)} (e : own = (a, o) :: own') : Own (upd F0 a o) F own' := by
  subst e
  exact {
    ex := fun b u hb => by
      by_cases c : b = a
      · subst c
        rw [upd_same] at hb
        rw [← hb]
        exact h.at_ (b, o) List.mem_cons_self
      · rw [upd_ne c] at hb
        exact h.ex b u hb
    out := fun q hq => by
      have : q.1 ≠ a := fun c => by
        have hn := h.nd
        rw [List.map_cons, List.nodup_cons] at hn
        exact hn.1 (by show a ∈ _; rw [← c]; exact List.mem_map_of_mem hq)
      rw [upd_ne this]
      exact h.out q (List.mem_cons_of_mem _ hq)
    at_ := fun q hq => h.at_ q (List.mem_cons_of_mem _ hq)
    nd := (List.nodup_cons.mp (by have := h.nd; rwa [List.map_cons] at this)).2 }
theorem own_nil {F : Hp} : Own F F [] := ⟨.refl _, (fun _ h => by cases h), (fun _ h => by cases h), List.nodup_nil⟩
end
end Obr
namespace Obr
open PySem L2 PySem.Spec PyProof.Rows
theorem Own.grow {F0 F F' : Hp} {own : List (Addr × HO)} (h : Own F0 F own) (g : Ex F F') : Own F0 F' own := ⟨h.ex.trans g, h.out, fun p hp => g _ _ (h.at_ p hp), h.nd⟩
theorem mergeK_nd : ∀ (more acc : List (Key × V)), ((acc ++ more).map (·.1)).Nodup → mergeK acc more = acc ++ more
  | [], acc, _ => by simp [mergeK]
  | (k, v) :: more, acc, h => by
    have h1 : valV acc k = none := by
      have : (acc.any fun kv => decide (kv.1 = k)) = false := by
        rw [List.any_eq_false]
        intro x hx
        simp only [decide_eq_true_eq]
        intro e
        rw [List.map_append, List.map_cons, List.nodup_append] at h
        exact h.2.2 x.1 (List.mem_map_of_mem hx) k List.mem_cons_self e
      rw [valV_any] at this
      cases e : valV acc k with
      | none => rfl
      | some y => rw [e] at this; cases this
    have : mergeK acc ((k, v) :: more) = mergeK (acc ++ [(k, v)]) more := by
      show mergeK (putK acc k v) more = _
      rw [putK_new v h1]
    rw [this, mergeK_nd more (acc ++ [(k, v)]) (by simpa using h)]
    simp
theorem rep_flat (n : Nat) (v : V) : (List.replicate n [v]).flatten = List.replicate n v := by
  induction n with
  | zero => rfl
  | succ n ih => simp [List.replicate_succ, ih]
theorem map_const {α : Type} (l : List α) (v : V) : l.map (fun _ => v) = List.replicate l.length v := by
  induction l with
  | nil => rfl
  | cons a l ih => simp [List.replicate_succ, ih]
end Obr
namespace Obr
open PySem L2 PySem.Spec PyProof.Rows
/-- some of what is owned, in another turn -/
theorem Own.pick {F0 F : Hp} {own : List (Addr × HO)} (h : Own F0 F own) (idx : List Nat) (hn : idx.Nodup) : Own F0 F (idx.filterMap fun i => own[i]?) where
  ex := h.ex
  out := fun p hp => by
    obtain ⟨i, _, e⟩ := List.mem_filterMap.mp hp
    exact h.out p (List.mem_of_getElem? e)
  at_ := fun p hp => by
    obtain ⟨i, _, e⟩ := List.mem_filterMap.mp hp
    exact h.at_ p (List.mem_of_getElem? e)
  nd := by
    induction idx with
    | nil => exact List.nodup_nil
    | cons i idx ih =>
      rw [List.nodup_cons] at hn
      rw [List.filterMap_cons]
      cases e : own[i]? with
      | none => exact ih hn.2
      | some p =>
        show (p.1 :: _).Nodup
        rw [List.nodup_cons]
        refine ⟨fun hm => ?_, ih hn.2⟩
        obtain ⟨q, hq, eq⟩ := List.mem_map.mp hm
        obtain ⟨j, hj, e2⟩ := List.mem_filterMap.mp hq
        have : i = j := nd_ix h.nd (x := p.1) (by rw [List.getElem?_map, e]; rfl) (by rw [List.getElem?_map, e2]; exact congrArg some eq)
        exact hn.1 (this ▸ hj)
end Obr
namespace Obr
open PySem L2 PySem.Spec PyProof.Rows
/-- the list that a comprehension makes stands at D, hidden, with what it has so far -/
def JD {S : Type} (J : S → Hp → Hp → Prop) (D : Addr) (acc : List V) : S → Hp → Hp → Prop := fun s F H => F D = none ∧ J s (upd F D (.lst acc)) H
theorem Hid.jd {S : Type} {J : S → Hp → Hp → Prop} {D : Addr} {acc : List V} (hd : Hid J) : Hid (JD J D acc) where
  ex := fun {s F H} ⟨fd, j⟩ a o e => hd.ex j a o (by rw [upd_ne (fun q => by rw [q, fd] at e; cases e)]; exact e)
  al := fun {s F H p o} ⟨fd, j⟩ hp => by
    have e := hd.fresh j hp
    have n : p ≠ D := fun q => by rw [q, upd_same] at e; cases e
    refine ⟨by rw [upd_ne n.symm]; exact fd, ?_⟩
    have c : upd (upd F p o) D (.lst acc) = upd (upd F D (.lst acc)) p o := by
      funext x
      unfold upd
      by_cases h1 : x = D
      · by_cases h2 : x = p
        · exact absurd (h2.symm.trans h1) n
        · simp [h1, n.symm]
      · by_cases h2 : x = p
        · simp [h2, n]
        · simp [h1, h2]
    rw [c]
    exact hd.al j hp
  mu := fun {s F H a o o'} ⟨fd, j⟩ e => by
    have n : a ≠ D := fun q => by rw [q, fd] at e; cases e
    refine ⟨by rw [upd_ne n.symm]; exact fd, ?_⟩
    have c : upd (upd F a o') D (.lst acc) = upd (upd F D (.lst acc)) a o' := by
      funext x
      unfold upd
      by_cases h1 : x = D
      · by_cases h2 : x = a
        · exact absurd (h2.symm.trans h1) n
        · simp [h1, n.symm]
      · by_cases h2 : x = a
        · simp [h2, n]
        · simp [h1, h2]
    rw [c]
    refine hd.mu j (o := o) ?_
    rw [upd_ne n]
    exact e
section
variable {S : Type} {J : S → Hp → Hp → Prop} {K : PySem.W.Frag} {σ : L2.St} {s : S} {F : Hp} {R : V → S → Hp → Prop} {tl te : TE} {g : TG} {tt : TT} {vs : List Nat} {ta : TA}
/-- what one turn of a comprehension asks -/
def LcTurn (J : S → Hp → Hp → Prop) (Dl : Addr) (g : TG) (tt : TT) (te : TE) (vs : List Nat) (σ : L2.St) (acc : List V) (x : V) (s : S) (F : Hp) (P : List V → S → Hp → Prop) : Prop :=
  GW (JD J Dl acc) g x (wipe σ vs) s F fun σ2 s2 F2 => wipe σ2 vs = wipe σ vs ∧ TW (JD J Dl acc) tt σ2 s2 F2 fun b s3 F3 => (b = true → EW (JD J Dl acc) te σ2 s3 F3 fun y s4 F4 => P (acc ++ [y]) s4 F4) ∧ (b = false → P acc s3 F3)
theorem lc_step (hd : Hid J) {Dl : Addr} {acc : List V} {x : V} {P : List V → S → Hp → Prop} (hz : acc.length < 100000) (h : LcTurn J Dl g tt te vs σ acc x s F P) {H : Hp} (fd : F Dl = none) (j : J s (upd F Dl (.lst acc)) H) {Nx : Hp → Prop}
    (q : ∀ acc s F H, F Dl = none → J s (upd F Dl (.lst acc)) H → P acc s F → Nx H) : g x (wipe σ vs) H fun σ2 H2 => wipe σ2 vs = wipe σ vs ∧ tt σ2 H2 fun b H3 =>
      if b = true then te σ2 H3 fun y H4 => ∃ acc, H4 Dl = some (.lst acc) ∧ acc.length < sizeLine ∧ Nx (upd H4 Dl (.lst (acc ++ [y]))) else Nx H3 :=
  h H ⟨fd, j⟩ _ fun σ2 s2 F2 H2 j2 ⟨hw, k⟩ => ⟨hw, k H2 j2 _ fun b s3 F3 H3 j3 k => by
    cases b with
    | true =>
      refine k.1 rfl H3 j3 _ fun y s4 F4 H4 ⟨fd4, j4⟩ k4 => ⟨acc, hd.ex j4 _ _ upd_same, Nat.lt_of_lt_of_le hz (by decide), q (acc ++ [y]) s4 F4 _ fd4 ?_ k4⟩
      have := hd.mu (o' := .lst (acc ++ [y])) j4 upd_same
      rw [upd_upd] at this
      exact this
    | false => exact q acc s3 F3 _ j3.1 j3.2 (k.2 rfl)⟩
theorem ew_lcT (hd : Hid J) (h : EW J tl σ s F fun v s1 F1 => ∃ a xs, v = .ref a ∧ SqT K F1 a xs ∧ xs.length ≤ 100000 ∧ ∀ Dl, F1 Dl = none → ∃ Pv : Nat → List V → S → Hp → Prop, Pv 0 [] s1 F1 ∧
      (∀ i acc s F, i ≤ xs.length → F Dl = none → Pv i acc s F → SqT K F a xs ∧ acc.length ≤ i) ∧ (∀ (i : Nat) acc x s F, xs[i]? = some x → F Dl = none → Pv i acc s F → LcTurn J Dl g tt te vs σ acc x s F (Pv (i + 1))) ∧
      (∀ acc s F, F Dl = none → Pv xs.length acc s F → R (.ref Dl) s (upd F Dl (.lst acc)))) : EW J (tLc (iTup K tl) g tt te vs) σ s F R := fun H j Q q =>
  h H j _ fun v s1 F1 H1 j1 ⟨a, xs, e, l1, hz, k⟩ => ⟨a, e, ⟨xs, hd.sqT j1 l1⟩, fun Dl hD => by
    have fD := hd.fresh j1 hD
    obtain ⟨Pv, h0, hl, hs, hdn⟩ := k Dl fD
    refine lc_tup (xs := xs) (fun i H => ∃ acc s F, i ≤ xs.length ∧ F Dl = none ∧ J s (upd F Dl (.lst acc)) H ∧ Pv i acc s F) ⟨[], s1, F1, Nat.zero_le _, fD, hd.al j1 hD, h0⟩ (fun i H' hi ⟨acc, s', F', _, f1, j', p⟩ => ?_) (fun i x H' hi ⟨acc, s', F', hle, f1, j', p⟩ => ?_) (fun H' ⟨acc, s', F', _, f1, j', p⟩ => q _ _ _ _ j' (hdn acc s' F' f1 p))
    · refine hd.sqT j' ?_
      obtain ⟨f2, _⟩ := hl i acc s' F' hi f1 p
      exact Ex.sqT (Ex.out (Ex.refl _) f1) f2
    · have hlt := (List.getElem?_eq_some_iff.mp hi).1
      obtain ⟨f2, f3⟩ := hl i acc s' F' hle f1 p
      exact lc_step hd (by omega) (hs i acc x s' F' hi f1 p) f1 j' fun acc s F H fd j p => ⟨acc, s, F, by omega, fd, j, p⟩⟩
theorem ew_lcL (hd : Hid J) (h : EW J tl σ s F fun v s1 F1 => ∃ a xs, v = .ref a ∧ SqL K F1 a xs ∧ xs.length ≤ 100000 ∧ ∀ Dl, F1 Dl = none → ∃ Pv : Nat → List V → S → Hp → Prop, Pv 0 [] s1 F1 ∧
      (∀ i acc s F, i ≤ xs.length → F Dl = none → Pv i acc s F → SqL K F a xs ∧ acc.length ≤ i) ∧ (∀ (i : Nat) acc x s F, xs[i]? = some x → F Dl = none → Pv i acc s F → LcTurn J Dl g tt te vs σ acc x s F (Pv (i + 1))) ∧
      (∀ acc s F, F Dl = none → Pv xs.length acc s F → R (.ref Dl) s (upd F Dl (.lst acc)))) : EW J (tLc (iList K tl) g tt te vs) σ s F R := fun H j Q q =>
  h H j _ fun v s1 F1 H1 j1 ⟨a, xs, e, l1, hz, k⟩ => ⟨a, e, ⟨xs, hd.sqL j1 l1⟩, fun Dl hD => by
    have fD := hd.fresh j1 hD
    obtain ⟨Pv, h0, hl, hs, hdn⟩ := k Dl fD
    refine lc_list (xs := xs) (fun i H => ∃ acc s F, i ≤ xs.length ∧ F Dl = none ∧ J s (upd F Dl (.lst acc)) H ∧ Pv i acc s F) ⟨[], s1, F1, Nat.zero_le _, fD, hd.al j1 hD, h0⟩ (fun i H' hi ⟨acc, s', F', _, f1, j', p⟩ => ?_) (fun i x H' hi ⟨acc, s', F', hle, f1, j', p⟩ => ?_) (fun H' ⟨acc, s', F', _, f1, j', p⟩ => q _ _ _ _ j' (hdn acc s' F' f1 p))
    · refine hd.sqL j' ?_
      obtain ⟨f2, _⟩ := hl i acc s' F' hi f1 p
      exact Ex.sqL (Ex.out (Ex.refl _) f1) f2
    · have hlt := (List.getElem?_eq_some_iff.mp hi).1
      obtain ⟨f2, f3⟩ := hl i acc s' F' hle f1 p
      exact lc_step hd (by omega) (hs i acc x s' F' hi f1 p) f1 j' fun acc s F H fd j p => ⟨acc, s, F, by omega, fd, j, p⟩⟩
theorem ew_lcR (hd : Hid J) (h : AW J ta σ s F fun ws s1 F1 => ∃ n : Int, ws = [.int n] ∧ n ≤ 100000 ∧ -100000 ≤ n ∧ ∀ Dl, F1 Dl = none → ∃ Pv : Nat → List V → S → Hp → Prop, Pv 0 [] s1 F1 ∧
      (∀ (i : Nat) acc s F, i ≤ n.toNat → F Dl = none → Pv i acc s F → acc.length ≤ i) ∧ (∀ (i : Nat) acc s F, (i : Int) < n → F Dl = none → Pv i acc s F → LcTurn J Dl g tt te vs σ acc (.int (i : Int)) s F (Pv (i + 1))) ∧
      (∀ acc s F, F Dl = none → Pv n.toNat acc s F → R (.ref Dl) s (upd F Dl (.lst acc)))) : EW J (tLc (iRng1 ta) g tt te vs) σ s F R := fun H j Q q =>
  h H j _ fun v s1 F1 H1 j1 ⟨n, e, hz, hz2, k⟩ => ⟨n, e, by omega, by omega, fun Dl hD => by
    have fD := hd.fresh j1 hD
    obtain ⟨Pv, h0, hl, hs, hdn⟩ := k Dl fD
    refine lc_range (lo := 0) (n := n.toNat) (fun i H => ∃ acc s F, i ≤ n.toNat ∧ F Dl = none ∧ J s (upd F Dl (.lst acc)) H ∧ Pv i acc s F) ⟨[], s1, F1, Nat.zero_le _, fD, hd.al j1 hD, h0⟩ (fun i H' hi ⟨acc, s', F', hle, f1, j', p⟩ => ?_) (fun H' ⟨acc, s', F', _, f1, j', p⟩ => q _ _ _ _ j' (hdn acc s' F' f1 p))
    have f3 := hl i acc s' F' hle f1 p
    have e0 : (0 : Int) + (i : Int) = (i : Int) := Int.zero_add _
    rw [e0]
    exact lc_step hd (by omega) (hs i acc s' F' (by omega) f1 p) f1 j' fun acc s F H fd j p => ⟨acc, s, F, by omega, fd, j, p⟩⟩
end
end Obr
namespace Obr
open PySem L2 PyProof.Rows
/-! ### what laws share -/
theorem sw_hide {S : Type} {J : S → Hp → Hp → Prop} {t : TS} {σ : L2.St} {s : S} {F : Hp} {h c : Addr} {m : Int} {ns : List Int} {N : L2.St → S → Hp → Prop} {R : V → S → Hp → Prop} (fc : F c = none) (fh : F h = none) (hne : c ≠ h) (m0 : 0 ≤ m) (m1 : m < 2147483647) (hn : ns.length ≤ 63) (hR : ∀ s F, R (.bl true) s F)
    (hw : SW (HJ h c J) t { nx := fun _ _ _ => False, rt := fun v _ _ => v = .bl true } σ s F) : SW J t { nx := N, rt := R } σ s (upd (upd F c (cL ns)) h (hL c m 0)) := fun H j D' l =>
  hw H ⟨_, m, 0, ns, Ex.new (Ex.new (.refl _) fc) (by rw [upd_ne hne.symm]; exact fh), fh, fc, m0, m1, by decide, hn, upd_same, (upd_ne hne).trans upd_same, j⟩ D'
    ⟨fun _ _ _ _ _ k => k.elim, fun v s F H ⟨G, _, _, _, _, _, _, _, _, _, _, _, _, j⟩ k => by subst k; exact l.rt _ s G H j (hR s G), fun _ _ _ _ _ k => k.elim, fun _ _ _ _ _ k => k.elim⟩
theorem sw_par3 {S : Type} {J : S → Hp → Hp → Prop} {σ : L2.St} {s : S} {F : Hp} {D : En S} {i k l : Nat} {ta : TA} (h : AW J ta σ s F fun vs s1 F1 => ∃ u v w, vs = [u, v, w] ∧ D.nx (((σ.set i (some u)).set k (some v)).set l (some w)) s1 F1) : SW J (tPar3 i k l ta) D σ s F := fun H j D' l' =>
  h H j _ fun vs s1 F1 H1 j1 ⟨u, v, w, e, k⟩ => ⟨u, v, w, e, l'.nx _ _ _ _ j1 k⟩
theorem cw_intB {S : Type} {J : S → Hp → Hp → Prop} {s : S} {F : Hp} {R : V → S → Hp → Prop} {b : Bool} (h : R (.int (if b then 1 else 0)) s F) : CW J (fun xs H Q => (∃ i, xs = [.int i] ∧ Q (.int i) H) ∨ ∃ k, xs = [.bl k] ∧ Q (.int (if k then 1 else 0)) H) [.bl b] s F R := fun H j Q q =>
  Or.inr ⟨b, rfl, q _ _ _ _ j h⟩
theorem dps_ext {K : PySem.W.Frag} {F : Hp} : ∀ {vs : List V} {ds : List PyData}, vs.length = ds.length → (∀ (i : Nat) (v : V) (d : PyData), vs[i]? = some v → ds[i]? = some d → Dp K F v d) → DpAll K F vs ds
  | [], [], _, _ => .nil
  | [], _ :: _, h, _ => by simp at h
  | _ :: _, [], h, _ => by simp at h
  | v :: vs, d :: ds, h, k => .cons (k 0 v d rfl rfl) (dps_ext (by simpa using h) fun i v d h1 h2 => k (i + 1) v d (by simpa using h1) (by simpa using h2))
theorem eqv_ints : ∀ {a b : List Int}, PyData.eqv (.list (a.map PyData.int)) (.list (b.map PyData.int)) = decide (a = b)
  | [], [] => rfl
  | [], _ :: _ => rfl
  | _ :: _, [] => rfl
  | x :: a, y :: b => by
    have h := eqv_ints (a := a) (b := b)
    have e : ∀ u v : List PyData, PyData.eqv (.list u) (.list v) = PyData.eqvAll u v := fun u v => by simp only [PyData.eqv]
    rw [e] at h ⊢
    show PyData.eqvAll (PyData.int x :: a.map PyData.int) (PyData.int y :: b.map PyData.int) = _
    have : PyData.eqvAll (PyData.int x :: a.map PyData.int) (PyData.int y :: b.map PyData.int) = ((x == y) && PyData.eqvAll (a.map PyData.int) (b.map PyData.int)) := by simp only [PyData.eqvAll, PyData.eqv]
    rw [this, h]
    by_cases c : x = y <;> by_cases d : a = b <;> simp [c, d]
theorem low_ints {n : Nat} {l : List Int} : lowD (n + 1) (.list (l.map PyData.int)) = true := by
  show (l.map PyData.int).all (lowD n) = true
  rw [List.all_eq_true]
  intro d hd
  obtain ⟨i, _, rfl⟩ := List.mem_map.mp hd
  cases n <;> rfl
end Obr
/-! max(xs, default=d) of a list of ints -/
namespace Obr
open PySem PySem.Spec L2 PyProof.Rows
section
variable {prog : Program} {w : World} {A : Around} {E : Value → Shared → Prop} {s : Shared} {its : List Value} {ns : List Int} {l : Addr} {Q : Value → Shared → Prop}
theorem maxD_raw {d : Value} (hh : A.handled = none) (hl : s.heap.IsList l its.toArray) (hi : IntsAre its ns)
    (h0 : ns = [] → ∀ h' tk, (∀ b o, s.heap.get? b = some o → h'.get? b = some o) → Q d { s with heap := h', toks := tk })
    (h : ∀ h' tk M t', (∀ b o, s.heap.get? b = some o → h'.get? b = some o) → M ∈ ns → (∀ a, a ∈ ns → a ≤ M) → Q (.int M t') { s with heap := h', toks := tk }) : wpAny (model prog w) A (call (.builtin "max") [.ref l] [(Str.ofString "default", d)]) Q E s := by
  obtain ⟨xs, e⟩ := hi.allInts.items
  have hn : numsOf (intItems xs).toList = ns := by rw [← e]; exact hi.numsOf
  rw [nums_intItems] at hn
  subst hn
  rw [e] at hl
  have hs : (intItems xs).size = xs.size := by simp [intItems]
  refine call_max_walkD (PySem.W.iter_listW (A := A.in1) hh hl fun s₂ e2 W st hfp hw hk => ?_)
  refine ⟨_, _, _, _, _, _, _, s.heap, (fun i j => decide (numAt xs i > numAt xs j)), rfl, W, st, hfp, hw, hk, fun hz s' m => ?_, fun hp => ⟨fun i j vi vj s3 Q3 E3 _ hi hj hq => CmpOf.ints_gt (numAt xs) (fun _ _ => intItems_at) i j vi vj s3 Q3 E3 hi hj hq, fun v s' hP m => ?_⟩⟩
  · obtain ⟨h', tk, rfl, hk'⟩ := PySem.W.moved_old e2 rfl m
    refine h0 ?_ h' tk hk'
    have hz' : xs.size = 0 := by omega
    exact List.eq_nil_of_length_eq_zero (by rw [List.length_map, Array.length_toList]; exact hz')
  · obtain ⟨h', tk, rfl, hk'⟩ := PySem.W.moved_old e2 rfl m
    obtain ⟨t, rfl⟩ := intItems_at hP
    rw [hs] at hp hP
    obtain ⟨h1, h2⟩ := argBest_gt (numAt xs) (xs.size - 1)
    have e3 : argBest (fun i j => decide (numAt xs i > numAt xs j)) ((intItems xs).size - 1) = argBest (fun i j => decide (numAt xs i > numAt xs j)) (xs.size - 1) := by rw [hs]
    rw [e3]
    refine h h' tk _ t hk' ?_ fun a ha => ?_
    · rw [numAt_eq]; exact PySem.getD_mem (by rw [List.length_map, Array.length_toList]; omega)
    · obtain ⟨j, hj, rfl⟩ := mem_getD ha
      rw [List.length_map, Array.length_toList] at hj
      rw [← numAt_eq]; exact h2 j (by omega)
end
/-- the greatest, 0 for none -/
def maxZ (ns : List Int) : Int := ns.foldl max 0
theorem foldl_max_le {m : Int} : ∀ (ns : List Int) (a : Int), a ≤ m → (∀ y ∈ ns, y ≤ m) → ns.foldl max a ≤ m
  | [], a, h, _ => h
  | x :: ns, a, h, h2 => foldl_max_le ns (max a x) (by have := h2 x (.head _); omega) fun y hy => h2 y (.tail _ hy)
theorem le_foldl_max : ∀ (ns : List Int) (a : Int), a ≤ ns.foldl max a ∧ ∀ y ∈ ns, y ≤ ns.foldl max a
  | [], a => ⟨Int.le_refl _, fun y hy => by cases hy⟩
  | x :: ns, a => by
    obtain ⟨h1, h2⟩ := le_foldl_max ns (max a x)
    refine ⟨by have : max a x ≤ List.foldl max (max a x) ns := h1; show a ≤ List.foldl max (max a x) ns; omega, fun y hy => ?_⟩
    rcases List.mem_cons.mp hy with rfl | hy
    · show y ≤ List.foldl max (max a y) ns; omega
    · exact h2 y hy
theorem maxZ_eq {m : Int} {ns : List Int} (h0 : ∀ y ∈ ns, 0 ≤ y) (hm : m ∈ ns) (h : ∀ y ∈ ns, y ≤ m) : m = maxZ ns := by
  have h1 := foldl_max_le ns 0 (h0 m hm) h
  have h2 := (le_foldl_max ns 0).2 m hm
  exact Int.le_antisymm h2 h1
def rMaxDf (K : PySem.W.Frag) : List V → List V → Hp → VK → Prop := fun vs zs H Q => ∃ (a : Addr) (ns : List Int), vs = [V.ref a] ∧ zs = [.int 0] ∧ SqL K H a (ns.map V.int) ∧ (∀ y ∈ ns, 0 ≤ y) ∧ Q (.int (maxZ ns)) H
theorem cr_maxD {X : Cx} (hc : X.calm = true) : CallRK X (.builtin "max") [Str.ofString "default"] (rMaxDf X.K) := by
  intro pins s σ H vs zs us ws Q I r rz h
  obtain ⟨a, ns, rfl, rfl, hs, h0, q⟩ := h
  obtain ⟨its, rv, hl, _⟩ := I.list hs
  obtain rfl := Vals.ref1 r
  obtain ⟨w1, rfl, e1⟩ := vals1 rz
  obtain ⟨t0, rfl⟩ := e1
  refine maxD_raw (I.ok.hd hc) hl.isList rv.ints (fun e h' tk hk => ?_) fun h' tk m t' hk h1 h2 => ?_
  · subst e
    exact ⟨.int _, H, I.kept hk, ⟨_, rfl⟩, q⟩
  · refine ⟨.int _, H, I.kept hk, ⟨_, rfl⟩, ?_⟩
    rw [maxZ_eq h0 h1 h2]
    exact q
section
variable {S : Type} {J : S → Hp → Hp → Prop} {K : PySem.W.Frag} {σ : L2.St} {s : S} {F : Hp} {R : V → S → Hp → Prop} {t tk : TA}
theorem ew_maxD (hd : Hid J) (h : AW J t σ s F fun vs s1 F1 => ∃ (a : Addr) (ns : List Int), vs = [V.ref a] ∧ SqL K F1 a (ns.map V.int) ∧ (∀ y ∈ ns, 0 ≤ y) ∧ AW J tk σ s1 F1 fun zs s2 F2 => zs = [.int 0] ∧ SqL K F2 a (ns.map V.int) ∧ R (.int (maxZ ns)) s2 F2) : EW J (tCKw (rMaxDf K) t tk) σ s F R := fun H j Q q =>
  h H j _ fun vs s1 F1 H1 j1 ⟨a, ns, e, l, h0, k⟩ => k H1 j1 _ fun zs s2 F2 H2 j2 ⟨ez, l2, r⟩ => ⟨a, ns, e, ez, hd.sqL j2 l2, h0, q _ _ _ _ j2 r⟩
end
/-! ### [e for x in tuple for z in tuple]: e reads what is there and makes nothing -/
theorem flat_len {β : Type} {n : Nat} : ∀ (l : List (List β)), (∀ x ∈ l, x.length ≤ n) → l.flatten.length ≤ l.length * n
  | [], _ => Nat.zero_le _
  | x :: l, h => by
    have h1 := h x (.head _)
    have h2 := flat_len l fun y hy => h y (.tail _ hy)
    rw [List.flatten_cons, List.length_append, List.length_cons, Nat.add_mul, Nat.one_mul]
    omega
theorem flat_take {β : Type} {l : List (List β)} {i : Nat} {x : List β} (h : l[i]? = some x) : (l.take (i + 1)).flatten = (l.take i).flatten ++ x := by
  rw [List.take_succ, h, List.flatten_append]
  simp
section
variable {S : Type} {J : S → Hp → Hp → Prop} {K : PySem.W.Frag} {σ : L2.St} {s : S} {F : Hp} {R : V → S → Hp → Prop} {tl tl1 te : TE} {g g1 : TG} {vs vs1 : List Nat}
theorem tYes_ok {σ : L2.St} {H : Hp} {A B : Hp → Prop} (h : A H) : tYes σ H fun b H3 => if b = true then A H3 else B H3 := h
theorem ew_lc2T (hd : Hid J) (h : EW J tl σ s F fun v s1 F1 => ∃ (a : Addr) (xs : List V) (ws : List (List V)), v = .ref a ∧ SqT K F1 a xs ∧ xs.length = ws.length ∧ ws.length ≤ 100 ∧ (∀ us ∈ ws, us.length ≤ 100) ∧
      (∀ (i : Nat) x us, xs[i]? = some x → ws[i]? = some us → ∀ (Dl : Addr) (acc : List V), F1 Dl = none → GW (JD J Dl acc) g x (wipe σ vs) s1 F1 fun σ2 s2 F2 => s2 = s1 ∧ F2 = F1 ∧ wipe σ2 vs = wipe σ vs ∧ EW (JD J Dl acc) tl1 σ2 s1 F1 fun v2 s3 F3 => s3 = s1 ∧ F3 = F1 ∧ ∃ b zs, v2 = .ref b ∧ SqT K F1 b zs ∧ zs.length = us.length ∧
        ∀ (k : Nat) z u, zs[k]? = some z → us[k]? = some u → ∀ acc' : List V, GW (JD J Dl acc') g1 z (wipe σ2 vs1) s1 F1 fun σ3 s4 F4 => s4 = s1 ∧ F4 = F1 ∧ wipe σ3 vs1 = wipe σ2 vs1 ∧ EW (JD J Dl acc') te σ3 s1 F1 fun y s5 F5 => s5 = s1 ∧ F5 = F1 ∧ y = u) ∧
      ∀ Dl, F1 Dl = none → R (.ref Dl) s1 (upd F1 Dl (.lst ws.flatten))) : EW J (tLc2 (iTup K tl) g tYes (iTup K tl1) g1 tYes te vs vs1) σ s F R := fun H j Q q =>
  h H j _ fun v s1 F1 H1 j1 ⟨a, xs, ws, e, l1, hxw, hx, hz, hs, hR⟩ => ⟨a, e, ⟨xs, hd.sqT j1 l1⟩, fun Dl hD => by
    have fD := hd.fresh j1 hD
    have gD : ∀ acc : List V, Ex F1 (upd F1 Dl (.lst acc)) := fun acc => Ex.new (.refl _) fD
    refine ⟨fun i m H => m = xs.length - i ∧ i ≤ xs.length ∧ J s1 (upd F1 Dl (.lst (ws.take i).flatten)) H, ⟨_, rfl, Nat.zero_le _, hd.al j1 hD⟩, ?_⟩
    rintro i m H ⟨rfl, hi, j'⟩
    have q0 : SqT K H a xs := hd.sqT j' ((gD _).sqT l1)
    by_cases hlt : i < xs.length
    · refine .inr ⟨⟨xs, xs[i], q0, by simp [hlt]⟩, fun H' => J s1 (upd F1 Dl (.lst (ws.take (i + 1)).flatten)) H', fun H' p' => ⟨xs.length - (i + 1), by omega, rfl, hlt, p'⟩, fun x H' y => ?_⟩
      obtain ⟨e, y⟩ := y
      subst e
      have hxi := y xs q0
      obtain ⟨us, hui⟩ : ∃ us, ws[i]? = some us := ⟨_, List.getElem?_eq_getElem (by omega)⟩
      have hul := hz us (List.mem_of_getElem? hui)
      refine hs i x us hxi hui Dl _ fD _ ⟨fD, j'⟩ _ fun σ2 s2 F2 H2 j2 ⟨es, eF, hw, k⟩ => ⟨hw, ?_⟩
      subst es eF
      refine tYes_ok ?_
      refine k H2 j2 _ fun v2 s3 F3 H3 j3 ⟨es3, eF3, b, zs, eb, l2, hzl, k2⟩ => ⟨b, eb, ⟨zs, hd.sqT (j3.2) (Ex.sqT (by rw [eF3]; exact gD _) l2)⟩, ?_⟩
      subst es3 eF3
      refine ⟨fun jj k H => k = zs.length - jj ∧ jj ≤ zs.length ∧ J s3 (upd F3 Dl (.lst ((ws.take i).flatten ++ us.take jj))) H, ⟨_, rfl, Nat.zero_le _, by simpa using j3.2⟩, ?_⟩
      rintro jj m1 H4 ⟨rfl, hj, j4⟩
      have sq : SqT K H4 b zs := hd.sqT j4 ((gD _).sqT l2)
      by_cases hlt2 : jj < zs.length
      · refine .inr ⟨⟨zs, zs[jj], sq, by simp [hlt2]⟩, fun H' => J s3 (upd F3 Dl (.lst ((ws.take i).flatten ++ us.take (jj + 1)))) H', fun H' p' => ⟨zs.length - (jj + 1), by omega, rfl, hlt2, p'⟩, fun z H5 y5 => ?_⟩
        obtain ⟨e5, y5⟩ := y5
        subst e5
        have hz5 := y5 zs sq
        obtain ⟨u, hu5⟩ : ∃ u, us[jj]? = some u := ⟨_, List.getElem?_eq_getElem (by omega)⟩
        refine k2 jj z u hz5 hu5 _ _ ⟨fD, j4⟩ _ fun σ3 s6 F6 H6 j6 ⟨e1, e2, hw3, k3⟩ => ⟨hw3, ?_⟩
        subst e1 e2
        refine tYes_ok ?_
        refine k3 H6 j6 _ fun y s7 F7 H7 j7 ⟨e1, e2, e3⟩ => ?_
        subst e1 e2 e3
        refine ⟨_, hd.ex j7.2 _ _ upd_same, ?_, ?_⟩
        · have h1 := flat_len (n := 100) (ws.take i) fun y hy => hz y (List.mem_of_mem_take hy)
          have h2 : (ws.take i).length ≤ 100 := Nat.le_trans (List.length_take_le _ _) (by omega)
          have h3 : (us.take jj).length ≤ 100 := Nat.le_trans (List.length_take_le _ _) (by omega)
          rw [List.length_append]
          have h4 : (ws.take i).length * 100 ≤ 10000 := Nat.le_trans (Nat.mul_le_mul_right 100 h2) (by decide)
          have h5 : (20000 : Nat) < sizeLine := by decide
          omega
        · have z9 := hd.mu (o' := .lst (((ws.take i).flatten ++ us.take jj) ++ [y])) j7.2 upd_same
          rw [upd_upd] at z9
          rw [List.take_succ, hu5, ← List.append_assoc]
          exact z9
      · have e5 : jj = zs.length := by omega
        subst e5
        refine .inl ⟨⟨zs, sq, Nat.le_refl _⟩, ?_⟩
        show J s3 _ H4
        rw [flat_take hui]
        rw [hzl, List.take_length] at j4
        exact j4
    · have e5 : i = xs.length := by omega
      subst e5
      refine .inl ⟨⟨xs, q0, Nat.le_refl _⟩, ?_⟩
      rw [hxw, List.take_length] at j'
      exact q _ _ _ _ j' (hR Dl fD)⟩
end
end Obr
namespace Obr
open PySem L2 PyProof.Rows
local macro_rules | `(tactic| walk_at "ob_at") => `(tactic| first
  | assumption
  | exact upd_same
  | (refine Eq.trans (upd_ne ?obn) ?obr; (case obn => walk_at "ob_ne"); (case obr => walk_at "ob_at")))
local macro_rules | `(tactic| walk_at "ob_ne") => `(tactic| first
  | assumption
  | (refine Ne.symm ?obs; (case obs => assumption))
  | (refine' ne_of_none (H := ?_) ?obe ?obh; (case obh => assumption); (case obe => walk_at "ob_at"))
  | (refine Ne.symm ?obs; (case obs => (refine' ne_of_none (H := ?_) ?obe ?obh; (case obh => assumption); (case obe => walk_at "ob_at")))))
local macro_rules | `(tactic| walk_at "ob_fr") => `(tactic| first
  | assumption
  | (refine Eq.trans (upd_ne ?obn) ?obr; (case obn => walk_at "ob_ne"); (case obr => walk_at "ob_fr"))
  | (refine Ex.free (G := ?_) (by assumption) ?obh; (case obh => walk_at "ob_fr")))
local macro_rules | `(tactic| walk_at "ob_ex") => `(tactic| first
  | assumption
  | exact Ex.refl _
  | (refine Ex.out ?obg ?obh; (case obh => assumption); (case obg => walk_at "ob_ex"))
  | (refine Ex.new ?obg ?obh; (case obh => assumption); (case obg => walk_at "ob_ex"))
  | (refine Ex.new ?obg ?obh; (case obh => walk_at "ob_fr"); (case obg => walk_at "ob_ex")))
local macro_rules | `(tactic| walk_at "ob_sq") => `(tactic| first
  | assumption
  | (refine SqL.of ?oba; (case oba => walk_at "ob_at"))
  | (refine Ex.sqT (F := ?_) ?obg ?obh; (case obh => assumption); (case obg => walk_at "ob_ex"))
  | (refine Ex.sqL (F := ?_) ?obg ?obh; (case obh => assumption); (case obg => walk_at "ob_ex"))
  | (refine SqT.of ?oba; (case oba => walk_at "ob_at")))
local macro_rules | `(tactic| walk_at "ob_side") => `(tactic| first | exact rfl | assumption | decide | omega | exact ⟨by decide, by decide, by decide⟩ | exact Or.inr ⟨by decide, by decide⟩ | exact Or.inl ⟨by decide, by decide⟩ | exact wide_div (b := 60) (by first | decide | omega) (by first | decide | omega) (by decide) (by decide))
local macro_rules | `(tactic| walk_at "ob1") => `(tactic| first
  | with_reducible refine sw_seq ?_
  | with_reducible refine sw_asg ?_
  | with_reducible refine sw_ret ?_
  | with_reducible refine sw_par ?_
  | with_reducible refine ⟨_, _, rfl, ?_⟩
  | with_reducible refine sw_drop ?_
  | with_reducible refine sw_if ?_
  | with_reducible refine sw_next ?_
  | with_reducible refine gw_name ?_
  | with_reducible refine ew_c ?_
  | ((with_reducible refine' ew_var (v := ?_) ?obv ?_); (case obv => exact rfl))
  | ((with_reducible refine ew_next (by assumption) ?obv ?_); (case obv => exact rfl))
  | ((with_reducible refine ew_world (by assumption) ?obv ?_); (case obv => exact rfl))
  | ((with_reducible refine ew_rule (by assumption) ?obv ?_); (case obv => exact rfl))
  | with_reducible refine ew_op ?_
  | with_reducible refine ew_un ?_
  | with_reducible refine ew_cb ?_
  | with_reducible refine ew_if ?_
  | with_reducible refine ew_slL (by assumption) ?_
  | with_reducible refine ow_some ?_
  | with_reducible refine ow_none ?_
  | with_reducible refine aw_nil ?_
  | with_reducible refine aw_cons ?_
  | with_reducible refine rw_I0 ?_
  | ((with_reducible refine rw_I ?obc ?_); (case obc => walk_at "ob_side"))
  | ((with_reducible refine rw_eq ?obc ?_); (case obc => exact rfl))
  | ((with_reducible refine rw_ne ?obc ?_); (case obc => exact rfl))
  | with_reducible refine cw_max2 ?_
  | with_reducible refine cw_min2 ?_
  | with_reducible refine tw_test ?_
  | with_reducible refine tw_B ?_
  | with_reducible refine tw_not ?_
  | (refine' Exists.intro _ (And.intro (show V.bl _ = V.bl _ from rfl) ?_))
  | (refine' Exists.intro _ (And.intro (show V.int _ = V.int _ from rfl) ?_))
  | ((with_reducible refine' rw_ixL (v := ?_) (xs := ?_) (by assumption) ?obl ?oba ?_); (case obl => walk_at "ob_sq"); (case oba => first | exact rfl | exact at_zero))
  | ((with_reducible refine' rw_ixT (v := ?_) (xs := ?_) (by assumption) ?obl ?oba ?_); (case obl => walk_at "ob_sq"); (case oba => first | exact rfl | exact at_zero))
  | ((with_reducible refine' ew_lst (by assumption) ?_))
  | ((with_reducible refine' ew_tup (by assumption) ?_)))
local macro_rules | `(tactic| walk_at "ob_len") => `(tactic| first | exact Nat.le_of_ble_eq_true rfl | (simp; done) | omega)
local macro_rules | `(tactic| walk_at "ob") => `(tactic| repeat walk_at "ob1")

/-! ### _law_turn: the claims by their keys -/
structure Clm where
  k : Int
  draw : Int
  since : Int
  deriving DecidableEq
def clmD (c : Clm) : PyData := .tuple [.int c.k, .int c.draw, .int c.since]
def ckey (r : Rgt) (last : Int) (c : Clm) : Int := match r with
  | .rank => 0
  | .turns => b2i (decide (c.k ≤ last))
  | .wait => c.since
  | .least => c.draw
def cLt (r : Rgt) (last : Int) (a b : Clm) : Prop := ckey r last a < ckey r last b ∨ (ckey r last a = ckey r last b ∧ a.k < b.k)
instance (r : Rgt) (last : Int) (a b : Clm) : Decidable (cLt r last a b) := by unfold cLt; infer_instance
theorem cLt_trans {r last a b c} (h : cLt r last a b) (h2 : cLt r last b c) : cLt r last a c := by unfold cLt at *; omega
theorem cLt_or {r last a b} (h : a.k ≠ b.k) : cLt r last a b ∨ cLt r last b a := by unfold cLt at *; omega
theorem clmD_eqv (a b : Clm) : PyData.eqv (clmD a) (clmD b) = decide (a = b) := by
  have e : PyData.eqv (clmD a) (clmD b) = ((a.k == b.k) && ((a.draw == b.draw) && ((a.since == b.since) && true))) := by simp only [clmD, PyData.eqv, PyData.eqvAll]
  rw [e]
  obtain ⟨a1, a2, a3⟩ := a
  obtain ⟨b1, b2, b3⟩ := b
  by_cases h : (⟨a1, a2, a3⟩ : Clm) = ⟨b1, b2, b3⟩
  · cases h; simp
  · rw [decide_eq_false h]
    simp only [Clm.mk.injEq, not_and] at h
    by_cases h1 : a1 = b1
    · by_cases h2 : a2 = b2
      · simp [h1, h2, h h1 h2]
      · simp [h1, h2]
    · simp [h1]
theorem clmD_low (c : Clm) : lowD 1 (clmD c) = true := by simp [clmD, lowD]
theorem clmsD_low (cs : List Clm) : lowD 2 (.list (cs.map clmD)) = true := by
  simp only [lowD, List.all_map, List.all_eq_true]
  intro c _
  exact clmD_low c
/-- _law_turn(right, claims, last): the claims in their turn -/
def aTurn (K : PySem.W.Frag) : List V → Hp → VK → Prop := fun vs F R => ∃ (F0 : Hp) (r : Rgt) (last : Int) (ca : Addr) (cvs : List V) (cs : List Clm), vs = [.str (rgtS r), .ref ca, .int last] ∧ Ex F0 F ∧ SqL K F ca cvs ∧ DpAll K F0 cvs (cs.map clmD) ∧ cs.length ≤ 60 ∧ (cs.map Clm.k).Nodup ∧
  ∀ (p : Addr) (F' : Hp) (ts : List Clm) (vs2 : List V), Ex F F' → F p = none → F' p = some (.lst vs2) → DpAll K F0 vs2 (ts.map clmD) → ts.Perm cs → ts.Pairwise (cLt r last) → R (.ref p) F'
section
variable {P : Program} {w : World} {K : PySem.W.Frag} {mg : Str → Option Value} {base : Heap}
end
end Obr
namespace Obr
open PySem L2 PyProof.Rows
local macro_rules | `(tactic| walk_at "ob_at") => `(tactic| first
  | assumption
  | exact upd_same
  | (refine Eq.trans (upd_ne ?obn) ?obr; (case obn => walk_at "ob_ne"); (case obr => walk_at "ob_at")))
local macro_rules | `(tactic| walk_at "ob_ne") => `(tactic| first
  | assumption
  | (refine Ne.symm ?obs; (case obs => assumption))
  | (refine' ne_of_none (H := ?_) ?obe ?obh; (case obh => assumption); (case obe => walk_at "ob_at"))
  | (refine Ne.symm ?obs; (case obs => (refine' ne_of_none (H := ?_) ?obe ?obh; (case obh => assumption); (case obe => walk_at "ob_at")))))
local macro_rules | `(tactic| walk_at "ob_fr") => `(tactic| first
  | assumption
  | (refine Eq.trans (upd_ne ?obn) ?obr; (case obn => walk_at "ob_ne"); (case obr => walk_at "ob_fr"))
  | (refine Ex.free (G := ?_) (by assumption) ?obh; (case obh => walk_at "ob_fr")))
local macro_rules | `(tactic| walk_at "ob_ex") => `(tactic| first
  | assumption
  | exact Ex.refl _
  | (refine Ex.out ?obg ?obh; (case obh => assumption); (case obg => walk_at "ob_ex"))
  | (refine Ex.new ?obg ?obh; (case obh => assumption); (case obg => walk_at "ob_ex"))
  | (refine Ex.new ?obg ?obh; (case obh => walk_at "ob_fr"); (case obg => walk_at "ob_ex")))
local macro_rules | `(tactic| walk_at "ob_sq") => `(tactic| first
  | assumption
  | (refine SqL.of ?oba; (case oba => walk_at "ob_at"))
  | (refine Ex.sqT (F := ?_) ?obg ?obh; (case obh => assumption); (case obg => walk_at "ob_ex"))
  | (refine Ex.sqL (F := ?_) ?obg ?obh; (case obh => assumption); (case obg => walk_at "ob_ex"))
  | (refine SqT.of ?oba; (case oba => walk_at "ob_at")))
local macro_rules | `(tactic| walk_at "ob_side") => `(tactic| first | exact rfl | assumption | decide | omega | exact ⟨by decide, by decide, by decide⟩ | exact Or.inr ⟨by decide, by decide⟩ | exact Or.inl ⟨by decide, by decide⟩ | exact wide_div (b := 60) (by first | decide | omega) (by first | decide | omega) (by decide) (by decide))
local macro_rules | `(tactic| walk_at "ob1") => `(tactic| first
  | with_reducible refine sw_seq ?_
  | with_reducible refine sw_asg ?_
  | with_reducible refine sw_ret ?_
  | with_reducible refine sw_par ?_
  | with_reducible refine ⟨_, _, rfl, ?_⟩
  | with_reducible refine sw_drop ?_
  | with_reducible refine sw_if ?_
  | with_reducible refine sw_next ?_
  | with_reducible refine gw_name ?_
  | with_reducible refine ew_c ?_
  | ((with_reducible refine' ew_var (v := ?_) ?obv ?_); (case obv => exact rfl))
  | ((with_reducible refine ew_next (by assumption) ?obv ?_); (case obv => exact rfl))
  | ((with_reducible refine ew_world (by assumption) ?obv ?_); (case obv => exact rfl))
  | ((with_reducible refine ew_rule (by assumption) ?obv ?_); (case obv => exact rfl))
  | with_reducible refine ew_op ?_
  | with_reducible refine ew_un ?_
  | with_reducible refine ew_dget (by assumption) ?_
  | with_reducible refine uw_I ?_
  | with_reducible refine ppw_nil ?_
  | with_reducible refine ppw_cons ?_
  | with_reducible refine sw_dput (by assumption) ?_
  | with_reducible refine ew_cb ?_
  | with_reducible refine ew_if ?_
  | with_reducible refine ew_slL (by assumption) ?_
  | with_reducible refine ow_some ?_
  | with_reducible refine ow_none ?_
  | with_reducible refine aw_nil ?_
  | with_reducible refine aw_cons ?_
  | with_reducible refine rw_I0 ?_
  | ((with_reducible refine rw_I ?obc ?_); (case obc => walk_at "ob_side"))
  | ((with_reducible refine rw_eq ?obc ?_); (case obc => exact rfl))
  | ((with_reducible refine rw_ne ?obc ?_); (case obc => exact rfl))
  | with_reducible refine cw_max2 ?_
  | with_reducible refine cw_min2 ?_
  | with_reducible refine tw_test ?_
  | with_reducible refine tw_B ?_
  | with_reducible refine tw_not ?_
  | (refine' Exists.intro _ (And.intro (show V.bl _ = V.bl _ from rfl) ?_))
  | (refine' Exists.intro _ (And.intro (show V.int _ = V.int _ from rfl) ?_))
  | ((with_reducible refine' rw_ixL (v := ?_) (xs := ?_) (by assumption) ?obl ?oba ?_); (case obl => walk_at "ob_sq"); (case oba => first | exact rfl | exact at_zero))
  | ((with_reducible refine' rw_ixT (v := ?_) (xs := ?_) (by assumption) ?obl ?oba ?_); (case obl => walk_at "ob_sq"); (case oba => first | exact rfl | exact at_zero))
  | ((with_reducible refine' ew_lst (by assumption) ?_))
  | ((with_reducible refine' ew_tup (by assumption) ?_)))
local macro_rules | `(tactic| walk_at "ob_len") => `(tactic| first | exact Nat.le_of_ble_eq_true rfl | (simp; done) | omega)
local macro_rules | `(tactic| walk_at "ob") => `(tactic| repeat walk_at "ob1")
/-! ### the law's own machines: their state, and where it stands -/
structure Mac where
  at_ : Int
  over : Int
  since : Int
  done : Int
  waits : Int
  ends : Option Int
structure LSt where
  level : Int
  last : Int
  beat : Int
  ms : List Mac
structure WAd where
  w : Addr
  at_ : Addr
  over : Addr
  since : Addr
  done : Addr
  waits : Addr
  ends : Addr
  store : V
  machines : V
  rule : V
def oV : Option Int → V
  | none => .non
  | some i => .int i
def wkeys : List Key := [.inr "store", .inr "machines", .inr "rule", .inr "level", .inr "at", .inr "over", .inr "since", .inr "last", .inr "beat", .inr "done", .inr "waits", .inr "ends"]
theorem wkeys_nd : wkeys.Nodup := by decide +kernel
def wkvs (A : WAd) (t : LSt) : List (Key × V) := [(.inr "store", A.store), (.inr "machines", A.machines), (.inr "rule", A.rule), (.inr "level", .int t.level), (.inr "at", .ref A.at_), (.inr "over", .ref A.over), (.inr "since", .ref A.since),
  (.inr "last", .int t.last), (.inr "beat", .int t.beat), (.inr "done", .ref A.done), (.inr "waits", .ref A.waits), (.inr "ends", .ref A.ends)]
theorem wkvs_nd (A : WAd) (t : LSt) : ((wkvs A t).map (·.1)).Nodup := wkeys_nd
def wown (A : WAd) (t : LSt) : List (Addr × HO) := [(A.w, .dK (wkvs A t)), (A.at_, .lst (t.ms.map fun m => .int m.at_)), (A.over, .lst (t.ms.map fun m => .int m.over)), (A.since, .lst (t.ms.map fun m => .int m.since)),
  (A.done, .lst (t.ms.map fun m => .int m.done)), (A.waits, .lst (t.ms.map fun m => .int m.waits)), (A.ends, .lst (t.ms.map fun m => oV m.ends))]
def stoD (w : Wld) : PyData := .tuple [.int w.cap, .int w.start, .int w.refill]
structure WAt (K : PySem.W.Frag) (F0 F : Hp) (A : WAd) (t : LSt) (w : Wld) (r : Rgt) (p : Bool) (ex : List (Addr × HO)) : Prop where
  own : Own F0 F (wown A t ++ ex)
  st : Dp K F0 A.store (stoD w)
  mc : Dp K F0 A.machines (.tuple (w.ms.map macD))
  ru : Dp K F0 A.rule (rulD r p)
  len : t.ms.length = w.ms.length
/-- all as it is ahead of beat 0 -/
def lBegun (w : Wld) : LSt := ⟨w.start, -1, 0, w.ms.map fun ss => ⟨0, -1, 0, 0, 0, if ss.isEmpty then some 0 else none⟩⟩
/-- _law_begun(world, rule) -/
def aBegun (K : PySem.W.Frag) : List V → Hp → VK → Prop := fun vs F R => ∃ (x y : V) (w : Wld) (r : Rgt) (p : Bool), vs = [x, y] ∧ Dp K F x (wldD w) ∧ Dp K F y (rulD r p) ∧ w.ms.length ≤ 5 ∧ (∀ ss ∈ w.ms, ss.length ≤ 12) ∧
  ∀ (F0 F' : Hp) (A : WAd), Ex F F0 → WAt K F0 F' A (lBegun w) w r p [] → R (.ref A.w) F'
def bk1 (sa ma : Addr) (y : V) (z : Int) (c1 : Addr) : List (Key × V) := [(.inr "store", .ref sa), (.inr "machines", .ref ma), (.inr "rule", y), (.inr "level", .int z), (.inr "at", .ref c1)]
def bk2 (c2 c3 c4 c5 : Addr) : List (Key × V) := [(.inr "over", .ref c2), (.inr "since", .ref c3), (.inr "last", .int (-1)), (.inr "beat", .int 0), (.inr "done", .ref c4), (.inr "waits", .ref c5)]
theorem bk1_m {sa ma y z c1} : mergeK [] (bk1 sa ma y z c1) = bk1 sa ma y z c1 := mergeK_nd _ [] (show (wkeys.take 5).Nodup from by decide +kernel)
theorem bk2_m {c2 c3 c4 c5} : mergeK [] (bk2 c2 c3 c4 c5) = bk2 c2 c3 c4 c5 := mergeK_nd _ [] (show ((wkeys.drop 5).take 6).Nodup from by decide +kernel)
theorem bk12_m {sa ma y z c1 c2 c3 c4 c5} : mergeK (bk1 sa ma y z c1) (bk2 c2 c3 c4 c5) = bk1 sa ma y z c1 ++ bk2 c2 c3 c4 c5 := mergeK_nd _ _ (show (wkeys.take 11).Nodup from by decide +kernel)
theorem bk12_e {sa ma y z c1 c2 c3 c4 c5} {v : V} : putK (bk1 sa ma y z c1 ++ bk2 c2 c3 c4 c5) (.inr "ends") v = bk1 sa ma y z c1 ++ bk2 c2 c3 c4 c5 ++ [(.inr "ends", v)] := mergeK_nd [(.inr "ends", v)] (bk1 sa ma y z c1 ++ bk2 c2 c3 c4 c5) (show wkeys.Nodup from by decide +kernel)
theorem stpD_low (s : Stp) : lowD 1 (stpD s) = true := by simp [stpD, lowD]
theorem macD_low (ss : List Stp) : lowD 2 (macD ss) = true := by
  simp only [macD, lowD, List.all_map, List.all_eq_true]
  intro s _
  exact stpD_low s
section
variable {P : Program} {w : World} {K : PySem.W.Frag} {mg : Str → Option Value} {base : Heap}
end
end Obr
namespace Obr
open PySem L2 PyProof.Rows
/-! ### reading and writing the law's machines -/
theorem atI_int {xs : List V} {i : Int} {v : V} (h0 : 0 ≤ i) (h : xs[i.toNat]? = some v) : atI xs i = some v := by
  obtain ⟨j, rfl⟩ : ∃ j : Nat, i = (j : Int) := ⟨i.toNat, by omega⟩
  exact atI_nat (by simpa using h)
theorem map_at {α β : Type} {f : α → β} {l : List α} {k : Nat} {m : α} (h : l[k]? = some m) : (l.map f)[k]? = some (f m) := by rw [List.getElem?_map, h]; rfl
theorem set_same {α β : Type} {f : α → β} {l : List α} {k : Nat} {m : α} (h : l[k]? = some m) : (l.map f).set k (f m) = l.map f := by
  refine List.ext_getElem? fun j => ?_
  rw [List.getElem?_set]
  by_cases c : k = j
  · subst c
    rw [if_pos rfl, map_at h]
    have : k < (l.map f).length := by rw [List.length_map]; exact (List.getElem?_eq_some_iff.mp h).1
    rw [if_pos this]
  · rw [if_neg c]
section
variable {S : Type} {J : S → Hp → Hp → Prop} {K : PySem.W.Frag} {σ : L2.St} {s : S} {F0 F : Hp} {A : WAd} {t : LSt} {w : Wld} {r : Rgt} {p : Bool} {ex : List (Addr × HO)} {R : V → S → Hp → Prop} {D : L2.St → S → Hp → Prop}
theorem WAt.dg (h : WAt K F0 F A t w r p ex) {i : Nat} {k : Key} {v : V} {R : V → Prop} (e : (wkvs A t)[i]? = some (k, v)) (hR : R v) :
    ∃ a kvs k' v', V.ref A.w = .ref a ∧ kV k = kV k' ∧ F a = some (.dK kvs) ∧ valV kvs k' = some v' ∧ R v' :=
  ⟨A.w, wkvs A t, k, v, rfl, rfl, h.own.get (i := 0) rfl, valV_nd (wkvs_nd A t) e, hR⟩
theorem WAt.g_store (h : WAt K F0 F A t w r p ex) {R : V → Prop} (hR : R (A.store)) : ∃ a kvs k' v', V.ref A.w = .ref a ∧ V.str "store" = kV k' ∧ F a = some (.dK kvs) ∧ valV kvs k' = some v' ∧ R v' := h.dg (i := 0) (k := .inr "store") rfl hR
theorem WAt.g_machines (h : WAt K F0 F A t w r p ex) {R : V → Prop} (hR : R (A.machines)) : ∃ a kvs k' v', V.ref A.w = .ref a ∧ V.str "machines" = kV k' ∧ F a = some (.dK kvs) ∧ valV kvs k' = some v' ∧ R v' := h.dg (i := 1) (k := .inr "machines") rfl hR
theorem WAt.g_rule (h : WAt K F0 F A t w r p ex) {R : V → Prop} (hR : R (A.rule)) : ∃ a kvs k' v', V.ref A.w = .ref a ∧ V.str "rule" = kV k' ∧ F a = some (.dK kvs) ∧ valV kvs k' = some v' ∧ R v' := h.dg (i := 2) (k := .inr "rule") rfl hR
theorem WAt.g_level (h : WAt K F0 F A t w r p ex) {R : V → Prop} (hR : R (.int t.level)) : ∃ a kvs k' v', V.ref A.w = .ref a ∧ V.str "level" = kV k' ∧ F a = some (.dK kvs) ∧ valV kvs k' = some v' ∧ R v' := h.dg (i := 3) (k := .inr "level") rfl hR
theorem WAt.g_at (h : WAt K F0 F A t w r p ex) {R : V → Prop} (hR : R (.ref A.at_)) : ∃ a kvs k' v', V.ref A.w = .ref a ∧ V.str "at" = kV k' ∧ F a = some (.dK kvs) ∧ valV kvs k' = some v' ∧ R v' := h.dg (i := 4) (k := .inr "at") rfl hR
theorem WAt.g_over (h : WAt K F0 F A t w r p ex) {R : V → Prop} (hR : R (.ref A.over)) : ∃ a kvs k' v', V.ref A.w = .ref a ∧ V.str "over" = kV k' ∧ F a = some (.dK kvs) ∧ valV kvs k' = some v' ∧ R v' := h.dg (i := 5) (k := .inr "over") rfl hR
theorem WAt.g_since (h : WAt K F0 F A t w r p ex) {R : V → Prop} (hR : R (.ref A.since)) : ∃ a kvs k' v', V.ref A.w = .ref a ∧ V.str "since" = kV k' ∧ F a = some (.dK kvs) ∧ valV kvs k' = some v' ∧ R v' := h.dg (i := 6) (k := .inr "since") rfl hR
theorem WAt.g_last (h : WAt K F0 F A t w r p ex) {R : V → Prop} (hR : R (.int t.last)) : ∃ a kvs k' v', V.ref A.w = .ref a ∧ V.str "last" = kV k' ∧ F a = some (.dK kvs) ∧ valV kvs k' = some v' ∧ R v' := h.dg (i := 7) (k := .inr "last") rfl hR
theorem WAt.g_beat (h : WAt K F0 F A t w r p ex) {R : V → Prop} (hR : R (.int t.beat)) : ∃ a kvs k' v', V.ref A.w = .ref a ∧ V.str "beat" = kV k' ∧ F a = some (.dK kvs) ∧ valV kvs k' = some v' ∧ R v' := h.dg (i := 8) (k := .inr "beat") rfl hR
theorem WAt.g_done (h : WAt K F0 F A t w r p ex) {R : V → Prop} (hR : R (.ref A.done)) : ∃ a kvs k' v', V.ref A.w = .ref a ∧ V.str "done" = kV k' ∧ F a = some (.dK kvs) ∧ valV kvs k' = some v' ∧ R v' := h.dg (i := 9) (k := .inr "done") rfl hR
theorem WAt.g_waits (h : WAt K F0 F A t w r p ex) {R : V → Prop} (hR : R (.ref A.waits)) : ∃ a kvs k' v', V.ref A.w = .ref a ∧ V.str "waits" = kV k' ∧ F a = some (.dK kvs) ∧ valV kvs k' = some v' ∧ R v' := h.dg (i := 10) (k := .inr "waits") rfl hR
theorem WAt.g_ends (h : WAt K F0 F A t w r p ex) {R : V → Prop} (hR : R (.ref A.ends)) : ∃ a kvs k' v', V.ref A.w = .ref a ∧ V.str "ends" = kV k' ∧ F a = some (.dK kvs) ∧ valV kvs k' = some v' ∧ R v' := h.dg (i := 11) (k := .inr "ends") rfl hR
theorem WAt.r_at_ (h : WAt K F0 F A t w r p ex) (hd : Hid J) {k : Nat} {m : Mac} (hm : t.ms[k]? = some m) (hR : R (.int m.at_) s F) : RW J (rIxL K) (.ref A.at_) (.int (k : Int)) s F R :=
  rw_ixL hd (SqL.of (h.own.get (i := 1) rfl)) (atI_nat (map_at hm)) hR
theorem WAt.r_over (h : WAt K F0 F A t w r p ex) (hd : Hid J) {k : Nat} {m : Mac} (hm : t.ms[k]? = some m) (hR : R (.int m.over) s F) : RW J (rIxL K) (.ref A.over) (.int (k : Int)) s F R :=
  rw_ixL hd (SqL.of (h.own.get (i := 2) rfl)) (atI_nat (map_at hm)) hR
theorem WAt.r_since (h : WAt K F0 F A t w r p ex) (hd : Hid J) {k : Nat} {m : Mac} (hm : t.ms[k]? = some m) (hR : R (.int m.since) s F) : RW J (rIxL K) (.ref A.since) (.int (k : Int)) s F R :=
  rw_ixL hd (SqL.of (h.own.get (i := 3) rfl)) (atI_nat (map_at hm)) hR
theorem WAt.r_done (h : WAt K F0 F A t w r p ex) (hd : Hid J) {k : Nat} {m : Mac} (hm : t.ms[k]? = some m) (hR : R (.int m.done) s F) : RW J (rIxL K) (.ref A.done) (.int (k : Int)) s F R :=
  rw_ixL hd (SqL.of (h.own.get (i := 4) rfl)) (atI_nat (map_at hm)) hR
theorem WAt.r_waits (h : WAt K F0 F A t w r p ex) (hd : Hid J) {k : Nat} {m : Mac} (hm : t.ms[k]? = some m) (hR : R (.int m.waits) s F) : RW J (rIxL K) (.ref A.waits) (.int (k : Int)) s F R :=
  rw_ixL hd (SqL.of (h.own.get (i := 5) rfl)) (atI_nat (map_at hm)) hR
theorem WAt.r_mac (h : WAt K F0 F A t w r p ex) (hd : Hid J) {k : Nat} {ss : List Stp} (hs : w.ms[k]? = some ss) (hR : ∀ v, Dp K F0 v (macD ss) → R v s F) : RW J (rIxT K) A.machines (.int (k : Int)) s F R := by
  obtain ⟨a, xs, e, l, d⟩ := dp_tup h.mc
  obtain ⟨v, hv, dv⟩ := dps_get d (map_at hs)
  rw [e]
  exact rw_ixT hd (h.own.ex.sqT l) (atI_nat hv) (hR v dv)
theorem TW.imp {tt : TT} {R R' : Bool → S → Hp → Prop} (h : TW J tt σ s F R) (i : ∀ b s' F', R b s' F' → R' b s' F') : TW J tt σ s F R' := fun H j Q q => h H j Q fun v s' F' H' j' r => q v s' F' H' j' (i _ _ _ r)
theorem r_stp (hd : Hid J) (g : Ex F0 F) {v : V} {ss : List Stp} {i : Int} {st : Stp} (hv : Dp K F0 v (macD ss)) (h0 : 0 ≤ i) (hs : ss[i.toNat]? = some st) (hR : ∀ u, Dp K F0 u (stpD st) → R u s F) : RW J (rIxT K) v (.int i) s F R := by
  obtain ⟨a, xs, e, l, d⟩ := dp_tup hv
  obtain ⟨u, hu, du⟩ := dps_get d (map_at hs)
  rw [e]
  exact rw_ixT hd (g.sqT l) (atI_int h0 hu) (hR u du)
theorem r_fld (hd : Hid J) (g : Ex F0 F) {u : V} {st : Stp} (hu : Dp K F0 u (stpD st)) : (R (.int st.draw) s F → RW J (rIxT K) u (.int 0) s F R) ∧ (R (.int st.long) s F → RW J (rIxT K) u (.int 1) s F R) ∧ (R (.int st.back) s F → RW J (rIxT K) u (.int 2) s F R) := by
  obtain ⟨a, xs, e, l, d⟩ := dp_tup hu
  obtain ⟨_, _, _, rfl, d1, d2, d3⟩ := dps3 d
  cases dp_int d1; cases dp_int d2; cases dp_int d3
  rw [e]
  exact ⟨fun hR => rw_ixT hd (g.sqT l) rfl hR, fun hR => rw_ixT hd (g.sqT l) rfl hR, fun hR => rw_ixT hd (g.sqT l) rfl hR⟩
theorem WAt.r_right (h : WAt K F0 F A t w r p ex) (hd : Hid J) (hR : R (.str (rgtS r)) s F) : RW J (rIxT K) A.rule (.int 0) s F R := by
  obtain ⟨a, xs, e, l, d⟩ := dp_tup h.ru
  obtain ⟨_, _, rfl, d1, d2⟩ := dps2 d
  cases dp_str d1; cases dp_bl d2
  rw [e]
  exact rw_ixT hd (h.own.ex.sqT l) rfl hR
theorem WAt.r_pass (h : WAt K F0 F A t w r p ex) (hd : Hid J) (hR : R (.bl p) s F) : RW J (rIxT K) A.rule (.int 1) s F R := by
  obtain ⟨a, xs, e, l, d⟩ := dp_tup h.ru
  obtain ⟨_, _, rfl, d1, d2⟩ := dps2 d
  cases dp_str d1; cases dp_bl d2
  rw [e]
  exact rw_ixT hd (h.own.ex.sqT l) rfl hR
/-- the value under a written key is put anew -/
theorem WAt.dp (h : WAt K F0 F A t w r p ex) {i : Nat} {k : Key} {v v0 : V} {t' : LSt} (e : (wkvs A t)[i]? = some (k, v0)) (e2 : wkvs A t' = (wkvs A t).set i (k, v)) (em : t'.ms = t.ms) (hN : ∀ F', WAt K F0 F' A t' w r p ex → D σ s F') :
    ∃ a kvs k', V.ref A.w = .ref a ∧ kV k = kV k' ∧ F a = some (.dK kvs) ∧ kvs.length < 100000 ∧ D σ s (upd F a (.dK (putK kvs k' v))) := by
  refine ⟨A.w, wkvs A t, k, rfl, rfl, h.own.get (i := 0) rfl, Nat.lt_of_le_of_lt (Nat.le_of_ble_eq_true (m := 12) rfl) (by decide), hN _ ⟨?_, h.st, h.mc, h.ru, by rw [em]; exact h.len⟩⟩
  have o := h.own.set (i := 0) (a := A.w) (o' := .dK (putK (wkvs A t) k v)) rfl
  have e3 : wown A t' ++ ex = (wown A t ++ ex).set 0 (A.w, .dK (putK (wkvs A t) k v)) := by
    rw [putK_nd (wkvs_nd A t) e, ← e2]
    unfold wown
    rw [em]
    rfl
  rw [e3]
  exact o
theorem WAt.p_level (h : WAt K F0 F A t w r p ex) {z : Int} (hN : ∀ F', WAt K F0 F' A { t with level := z } w r p ex → D σ s F') :
    ∃ a kvs k', V.ref A.w = .ref a ∧ V.str "level" = kV k' ∧ F a = some (.dK kvs) ∧ kvs.length < 100000 ∧ D σ s (upd F a (.dK (putK kvs k' (.int z)))) := h.dp (i := 3) (k := .inr "level") (v := .int z) (t' := { t with level := z }) rfl rfl rfl hN
theorem WAt.p_last (h : WAt K F0 F A t w r p ex) {z : Int} (hN : ∀ F', WAt K F0 F' A { t with last := z } w r p ex → D σ s F') :
    ∃ a kvs k', V.ref A.w = .ref a ∧ V.str "last" = kV k' ∧ F a = some (.dK kvs) ∧ kvs.length < 100000 ∧ D σ s (upd F a (.dK (putK kvs k' (.int z)))) := h.dp (i := 7) (k := .inr "last") (v := .int z) (t' := { t with last := z }) rfl rfl rfl hN
theorem WAt.p_beat (h : WAt K F0 F A t w r p ex) {z : Int} (hN : ∀ F', WAt K F0 F' A { t with beat := z } w r p ex → D σ s F') :
    ∃ a kvs k', V.ref A.w = .ref a ∧ V.str "beat" = kV k' ∧ F a = some (.dK kvs) ∧ kvs.length < 100000 ∧ D σ s (upd F a (.dK (putK kvs k' (.int z)))) := h.dp (i := 8) (k := .inr "beat") (v := .int z) (t' := { t with beat := z }) rfl rfl rfl hN
theorem WAt.s_at_ (h : WAt K F0 F A t w r p ex) {k : Nat} {m : Mac} {z : Int} (hm : t.ms[k]? = some m) (hN : ∀ F', WAt K F0 F' A { t with ms := t.ms.set k { m with at_ := z } } w r p ex → D σ s F') :
    ∃ p xs k' j, V.ref A.at_ = .ref p ∧ V.int (k : Int) = .int k' ∧ F p = some (.lst xs) ∧ ixN xs.length k' = some j ∧ D σ s (upd F p (.lst (xs.set j (.int z)))) := by
  have hk : k < t.ms.length := (List.getElem?_eq_some_iff.mp hm).1
  have o := h.own.set (i := 1) (a := A.at_) (o' := .lst ((t.ms.map fun m => V.int m.at_).set k (.int z))) rfl
  refine ⟨A.at_, _, _, k, rfl, rfl, h.own.get (i := 1) rfl, ?_, hN _ ⟨?_, h.st, h.mc, h.ru, by rw [List.length_set]; exact h.len⟩⟩
  · have := ixN_of (n := (t.ms.map fun m : Mac => V.int m.at_).length) (i := (k : Int)) (by omega) (by rw [List.length_map]; omega)
    exact this
  · have e3 : wown A { t with ms := t.ms.set k { m with at_ := z } } ++ ex = (wown A t ++ ex).set 1 (A.at_, .lst ((t.ms.map fun m => V.int m.at_).set k (.int z))) := by
      unfold wown
      simp only [List.map_set]
      rw [set_same (f := fun m : Mac => V.int m.over) hm, set_same (f := fun m : Mac => V.int m.since) hm, set_same (f := fun m : Mac => V.int m.done) hm, set_same (f := fun m : Mac => V.int m.waits) hm, set_same (f := fun m : Mac => oV m.ends) hm]
      rfl
    rw [e3]
    exact o
theorem WAt.s_over (h : WAt K F0 F A t w r p ex) {k : Nat} {m : Mac} {z : Int} (hm : t.ms[k]? = some m) (hN : ∀ F', WAt K F0 F' A { t with ms := t.ms.set k { m with over := z } } w r p ex → D σ s F') :
    ∃ p xs k' j, V.ref A.over = .ref p ∧ V.int (k : Int) = .int k' ∧ F p = some (.lst xs) ∧ ixN xs.length k' = some j ∧ D σ s (upd F p (.lst (xs.set j (.int z)))) := by
  have hk : k < t.ms.length := (List.getElem?_eq_some_iff.mp hm).1
  have o := h.own.set (i := 2) (a := A.over) (o' := .lst ((t.ms.map fun m => V.int m.over).set k (.int z))) rfl
  refine ⟨A.over, _, _, k, rfl, rfl, h.own.get (i := 2) rfl, ?_, hN _ ⟨?_, h.st, h.mc, h.ru, by rw [List.length_set]; exact h.len⟩⟩
  · have := ixN_of (n := (t.ms.map fun m : Mac => V.int m.over).length) (i := (k : Int)) (by omega) (by rw [List.length_map]; omega)
    exact this
  · have e3 : wown A { t with ms := t.ms.set k { m with over := z } } ++ ex = (wown A t ++ ex).set 2 (A.over, .lst ((t.ms.map fun m => V.int m.over).set k (.int z))) := by
      unfold wown
      simp only [List.map_set]
      rw [set_same (f := fun m : Mac => V.int m.at_) hm, set_same (f := fun m : Mac => V.int m.since) hm, set_same (f := fun m : Mac => V.int m.done) hm, set_same (f := fun m : Mac => V.int m.waits) hm, set_same (f := fun m : Mac => oV m.ends) hm]
      rfl
    rw [e3]
    exact o
theorem WAt.s_since (h : WAt K F0 F A t w r p ex) {k : Nat} {m : Mac} {z : Int} (hm : t.ms[k]? = some m) (hN : ∀ F', WAt K F0 F' A { t with ms := t.ms.set k { m with since := z } } w r p ex → D σ s F') :
    ∃ p xs k' j, V.ref A.since = .ref p ∧ V.int (k : Int) = .int k' ∧ F p = some (.lst xs) ∧ ixN xs.length k' = some j ∧ D σ s (upd F p (.lst (xs.set j (.int z)))) := by
  have hk : k < t.ms.length := (List.getElem?_eq_some_iff.mp hm).1
  have o := h.own.set (i := 3) (a := A.since) (o' := .lst ((t.ms.map fun m => V.int m.since).set k (.int z))) rfl
  refine ⟨A.since, _, _, k, rfl, rfl, h.own.get (i := 3) rfl, ?_, hN _ ⟨?_, h.st, h.mc, h.ru, by rw [List.length_set]; exact h.len⟩⟩
  · have := ixN_of (n := (t.ms.map fun m : Mac => V.int m.since).length) (i := (k : Int)) (by omega) (by rw [List.length_map]; omega)
    exact this
  · have e3 : wown A { t with ms := t.ms.set k { m with since := z } } ++ ex = (wown A t ++ ex).set 3 (A.since, .lst ((t.ms.map fun m => V.int m.since).set k (.int z))) := by
      unfold wown
      simp only [List.map_set]
      rw [set_same (f := fun m : Mac => V.int m.at_) hm, set_same (f := fun m : Mac => V.int m.over) hm, set_same (f := fun m : Mac => V.int m.done) hm, set_same (f := fun m : Mac => V.int m.waits) hm, set_same (f := fun m : Mac => oV m.ends) hm]
      rfl
    rw [e3]
    exact o
theorem WAt.s_done (h : WAt K F0 F A t w r p ex) {k : Nat} {m : Mac} {z : Int} (hm : t.ms[k]? = some m) (hN : ∀ F', WAt K F0 F' A { t with ms := t.ms.set k { m with done := z } } w r p ex → D σ s F') :
    ∃ p xs k' j, V.ref A.done = .ref p ∧ V.int (k : Int) = .int k' ∧ F p = some (.lst xs) ∧ ixN xs.length k' = some j ∧ D σ s (upd F p (.lst (xs.set j (.int z)))) := by
  have hk : k < t.ms.length := (List.getElem?_eq_some_iff.mp hm).1
  have o := h.own.set (i := 4) (a := A.done) (o' := .lst ((t.ms.map fun m => V.int m.done).set k (.int z))) rfl
  refine ⟨A.done, _, _, k, rfl, rfl, h.own.get (i := 4) rfl, ?_, hN _ ⟨?_, h.st, h.mc, h.ru, by rw [List.length_set]; exact h.len⟩⟩
  · have := ixN_of (n := (t.ms.map fun m : Mac => V.int m.done).length) (i := (k : Int)) (by omega) (by rw [List.length_map]; omega)
    exact this
  · have e3 : wown A { t with ms := t.ms.set k { m with done := z } } ++ ex = (wown A t ++ ex).set 4 (A.done, .lst ((t.ms.map fun m => V.int m.done).set k (.int z))) := by
      unfold wown
      simp only [List.map_set]
      rw [set_same (f := fun m : Mac => V.int m.at_) hm, set_same (f := fun m : Mac => V.int m.over) hm, set_same (f := fun m : Mac => V.int m.since) hm, set_same (f := fun m : Mac => V.int m.waits) hm, set_same (f := fun m : Mac => oV m.ends) hm]
      rfl
    rw [e3]
    exact o
theorem WAt.s_waits (h : WAt K F0 F A t w r p ex) {k : Nat} {m : Mac} {z : Int} (hm : t.ms[k]? = some m) (hN : ∀ F', WAt K F0 F' A { t with ms := t.ms.set k { m with waits := z } } w r p ex → D σ s F') :
    ∃ p xs k' j, V.ref A.waits = .ref p ∧ V.int (k : Int) = .int k' ∧ F p = some (.lst xs) ∧ ixN xs.length k' = some j ∧ D σ s (upd F p (.lst (xs.set j (.int z)))) := by
  have hk : k < t.ms.length := (List.getElem?_eq_some_iff.mp hm).1
  have o := h.own.set (i := 5) (a := A.waits) (o' := .lst ((t.ms.map fun m => V.int m.waits).set k (.int z))) rfl
  refine ⟨A.waits, _, _, k, rfl, rfl, h.own.get (i := 5) rfl, ?_, hN _ ⟨?_, h.st, h.mc, h.ru, by rw [List.length_set]; exact h.len⟩⟩
  · have := ixN_of (n := (t.ms.map fun m : Mac => V.int m.waits).length) (i := (k : Int)) (by omega) (by rw [List.length_map]; omega)
    exact this
  · have e3 : wown A { t with ms := t.ms.set k { m with waits := z } } ++ ex = (wown A t ++ ex).set 5 (A.waits, .lst ((t.ms.map fun m => V.int m.waits).set k (.int z))) := by
      unfold wown
      simp only [List.map_set]
      rw [set_same (f := fun m : Mac => V.int m.at_) hm, set_same (f := fun m : Mac => V.int m.over) hm, set_same (f := fun m : Mac => V.int m.since) hm, set_same (f := fun m : Mac => V.int m.done) hm, set_same (f := fun m : Mac => oV m.ends) hm]
      rfl
    rw [e3]
    exact o
theorem WAt.s_ends (h : WAt K F0 F A t w r p ex) {k : Nat} {m : Mac} {z : Option Int} (hm : t.ms[k]? = some m) (hN : ∀ F', WAt K F0 F' A { t with ms := t.ms.set k { m with ends := z } } w r p ex → D σ s F') :
    ∃ p xs k' j, V.ref A.ends = .ref p ∧ V.int (k : Int) = .int k' ∧ F p = some (.lst xs) ∧ ixN xs.length k' = some j ∧ D σ s (upd F p (.lst (xs.set j (oV z)))) := by
  have hk : k < t.ms.length := (List.getElem?_eq_some_iff.mp hm).1
  have o := h.own.set (i := 6) (a := A.ends) (o' := .lst ((t.ms.map fun m => oV m.ends).set k (oV z))) rfl
  refine ⟨A.ends, _, _, k, rfl, rfl, h.own.get (i := 6) rfl, ?_, hN _ ⟨?_, h.st, h.mc, h.ru, by rw [List.length_set]; exact h.len⟩⟩
  · have := ixN_of (n := (t.ms.map fun m : Mac => oV m.ends).length) (i := (k : Int)) (by omega) (by rw [List.length_map]; omega)
    exact this
  · have e3 : wown A { t with ms := t.ms.set k { m with ends := z } } ++ ex = (wown A t ++ ex).set 6 (A.ends, .lst ((t.ms.map fun m => oV m.ends).set k (oV z))) := by
      unfold wown
      simp only [List.map_set]
      rw [set_same (f := fun m : Mac => V.int m.at_) hm, set_same (f := fun m : Mac => V.int m.over) hm, set_same (f := fun m : Mac => V.int m.since) hm, set_same (f := fun m : Mac => V.int m.done) hm, set_same (f := fun m : Mac => V.int m.waits) hm]
      rfl
    rw [e3]
    exact o
/-- what is new is known to F0 from now on, or is forgotten, or is owned -/
theorem WAt.new (h : WAt K F0 F A t w r p ex) {a : Addr} {o : HO} (ha : F a = none) : WAt K (upd F0 a o) (upd F a o) A t w r p ex :=
  ⟨h.own.new ha, dp_ex (Ex.new (.refl _) (h.own.ex.free ha)) h.st, dp_ex (Ex.new (.refl _) (h.own.ex.free ha)) h.mc, dp_ex (Ex.new (.refl _) (h.own.ex.free ha)) h.ru, h.len⟩
theorem WAt.new' (h : WAt K F0 F A t w r p ex) {a : Addr} {o : HO} (ha : F a = none) : WAt K F0 (upd F a o) A t w r p ex := ⟨h.own.new' ha, h.st, h.mc, h.ru, h.len⟩
theorem perm_more {α : Type} (l : List α) (x : α) (m : List α) : (l ++ x :: m).Perm (x :: (l ++ m)) := List.perm_middle
theorem WAt.more (h : WAt K F0 F A t w r p ex) {a : Addr} {o : HO} (ha : F a = none) : WAt K F0 (upd F a o) A t w r p ((a, o) :: ex) := ⟨(h.own.more ha).perm List.perm_middle, h.st, h.mc, h.ru, h.len⟩
theorem WAt.grow (h : WAt K F0 F A t w r p ex) {F' : Hp} (g : Ex F F') : WAt K F0 F' A t w r p ex := ⟨h.own.grow g, h.st, h.mc, h.ru, h.len⟩
/-- the first of the cells besides is written -/
theorem WAt.exset {a : Addr} {o o' : HO} {ex : List (Addr × HO)} (h : WAt K F0 F A t w r p ((a, o) :: ex)) : WAt K F0 (upd F a o') A t w r p ((a, o') :: ex) := ⟨h.own.set (i := 7) (a := a) (o' := o') rfl, h.st, h.mc, h.ru, h.len⟩
theorem WAt.ex0 {a : Addr} {o : HO} {ex : List (Addr × HO)} (h : WAt K F0 F A t w r p ((a, o) :: ex)) : F a = some o := h.own.get (i := 7) rfl
/-- the first of the cells besides is written no more -/
theorem WAt.freeze {a : Addr} {o : HO} {ex : List (Addr × HO)} (h : WAt K F0 F A t w r p ((a, o) :: ex)) : WAt K (upd F0 a o) F A t w r p ex := by
  have h0 : F0 a = none := h.own.none (i := 7) rfl
  exact ⟨(h.own.perm (own' := (a, o) :: (wown A t ++ ex)) List.perm_middle.symm).freeze rfl, dp_ex (Ex.new (.refl _) h0) h.st, dp_ex (Ex.new (.refl _) h0) h.mc, dp_ex (Ex.new (.refl _) h0) h.ru, h.len⟩
/-- what was not there ahead is owned from now on -/
theorem WAt.adopt (h : WAt K F0 F A t w r p ex) {F' : Hp} (g : Ex F F') {a : Addr} {o : HO} (ha : F a = none) (hv : F' a = some o) : WAt K F0 F' A t w r p ((a, o) :: ex) := by
  refine ⟨?_, h.st, h.mc, h.ru, h.len⟩
  have h1 : Own F0 F' ((a, o) :: (wown A t ++ ex)) := {
    ex := h.own.ex.trans g
    out := fun q hq => by
      rcases List.mem_cons.mp hq with rfl | hq
      · exact h.own.ex.free ha
      · exact h.own.out q hq
    at_ := fun q hq => by
      rcases List.mem_cons.mp hq with rfl | hq
      · exact hv
      · exact g _ _ (h.own.at_ q hq)
    nd := by
      rw [List.map_cons, List.nodup_cons]
      refine ⟨fun hm => ?_, h.own.nd⟩
      obtain ⟨q, hq, e⟩ := List.mem_map.mp hm
      have := h.own.at_ q hq
      rw [e, ha] at this
      cases this }
  exact h1.perm List.perm_middle
theorem WAt.exset2 {x : Addr × HO} {a : Addr} {o o' : HO} {ex : List (Addr × HO)} (h : WAt K F0 F A t w r p (x :: (a, o) :: ex)) : WAt K F0 (upd F a o') A t w r p (x :: (a, o') :: ex) := ⟨h.own.set (i := 8) (a := a) (o' := o') rfl, h.st, h.mc, h.ru, h.len⟩
theorem WAt.swap {x y : Addr × HO} {ex : List (Addr × HO)} (h : WAt K F0 F A t w r p (x :: y :: ex)) : WAt K F0 F A t w r p (y :: x :: ex) := ⟨h.own.perm (List.Perm.append_left _ (List.Perm.swap x y ex)), h.st, h.mc, h.ru, h.len⟩
theorem WAt.drop {x : Addr × HO} {ex : List (Addr × HO)} (h : WAt K F0 F A t w r p (x :: ex)) : WAt K F0 F A t w r p ex := ⟨⟨h.own.ex, fun q hq => h.own.out q (by rcases List.mem_append.mp hq with h | h; exact List.mem_append.mpr (.inl h); exact List.mem_append.mpr (.inr (List.mem_cons_of_mem _ h))),
  fun q hq => h.own.at_ q (by rcases List.mem_append.mp hq with h | h; exact List.mem_append.mpr (.inl h); exact List.mem_append.mpr (.inr (List.mem_cons_of_mem _ h))), by
    have := (h.own.perm (own' := x :: (wown A t ++ ex)) List.perm_middle.symm).nd
    rw [List.map_cons, List.nodup_cons] at this
    exact this.2⟩, h.st, h.mc, h.ru, h.len⟩
end
end Obr
namespace Obr
open PySem L2 PyProof.Rows
/-! ### a beat of the law's machines -/
def minI (a b : Int) : Int := if b < a then b else a
def lEnd (w : Wld) (anew : Bool) (t : LSt) (k : Nat) : LSt :=
  match t.ms[k]?, w.ms[k]? with
  | some m, some ss =>
    if m.over = t.beat then
      match ss[m.at_.toNat]? with
      | some s =>
        if m.at_ + 1 = ss.length then { t with level := minI w.cap (t.level + s.back), ms := t.ms.set k ⟨if anew then 0 else m.at_ + 1, -1, t.beat, m.done + 1, m.waits, some t.beat⟩ }
        else { t with level := minI w.cap (t.level + s.back), ms := t.ms.set k ⟨m.at_ + 1, -1, t.beat, m.done + 1, m.waits, m.ends⟩ }
      | none => t
    else t
  | _, _ => t
def lEnds (w : Wld) (anew : Bool) (t : LSt) : Nat → LSt
  | 0 => t
  | n + 1 => lEnd w anew (lEnds w anew t n) n
def lFill (w : Wld) (t : LSt) : LSt := if 0 < t.beat then { t with level := minI w.cap (t.level + w.refill) } else t
def lClaim (w : Wld) (t : LSt) (k : Nat) : List Clm :=
  match t.ms[k]?, w.ms[k]? with
  | some m, some ss => if m.over < 0 ∧ m.at_ < ss.length then (match ss[m.at_.toNat]? with | some s => [⟨k, s.draw, m.since⟩] | none => []) else []
  | _, _ => []
def lClaims (w : Wld) (t : LSt) : Nat → List Clm
  | 0 => []
  | n + 1 => lClaims w t n ++ lClaim w t n
def lDraw (w : Wld) (p : Bool) (x : LSt × List Int × Bool) (c : Clm) : LSt × List Int × Bool :=
  match x.1.ms[c.k.toNat]?, w.ms[c.k.toNat]? with
  | some m, some ss =>
    if x.2.2 = true ∧ c.draw ≤ x.1.level then
      match ss[m.at_.toNat]? with
      | some s => ({ x.1 with level := x.1.level - c.draw, ms := x.1.ms.set c.k.toNat { m with over := x.1.beat + s.long } }, x.2.1 ++ [c.k], x.2.2)
      | none => x
    else ({ x.1 with ms := x.1.ms.set c.k.toNat { m with waits := m.waits + 1 } }, x.2.1, x.2.2 && p)
  | _, _ => x
def lDraws (w : Wld) (p : Bool) (ts : List Clm) (t : LSt) : LSt × List Int × Bool := ts.foldl (lDraw w p) (t, [], true)
def lLast (t : LSt) (bg : List Int) : LSt := { t with last := (if bg.isEmpty then t.last else bg.getLastD 0), beat := t.beat + 1 }
/-- the claims in their turn: any list that is that -/
structure TurnOk (r : Rgt) (last : Int) (cs ts : List Clm) : Prop where
  perm : ts.Perm cs
  srt : ts.Pairwise (cLt r last)
/-- a beat: from t to t', told (level, began) -/
structure LBeat (w : Wld) (r : Rgt) (p : Bool) (anew : Bool) (t t' : LSt) (lv : Int) (bg : List Int) : Prop where
  ex : ∃ ts, TurnOk r (lFill w (lEnds w anew t w.ms.length)).last (lClaims w (lFill w (lEnds w anew t w.ms.length)) w.ms.length) ts ∧ bg = (lDraws w p ts (lFill w (lEnds w anew t w.ms.length))).2.1 ∧
    t' = lLast (lDraws w p ts (lFill w (lEnds w anew t w.ms.length))).1 bg ∧ lv = t'.level
structure MacOk (ss : List Stp) (m : Mac) : Prop where
  a0 : 0 ≤ m.at_
  a1 : m.at_ ≤ ss.length
  o : 0 ≤ m.over → m.at_ < ss.length
structure LOk (w : Wld) (t : LSt) : Prop where
  b : 0 ≤ t.beat
  m : ∀ (k : Nat) (m : Mac) (ss : List Stp), t.ms[k]? = some m → w.ms[k]? = some ss → MacOk ss m
  len : t.ms.length = w.ms.length
theorem LOk.set {w : Wld} {t t' : LSt} {k : Nat} {m' : Mac} {ss : List Stp} (h : LOk w t) (hs : w.ms[k]? = some ss) (hm : MacOk ss m') (e : t'.ms = t.ms.set k m') (b : t'.beat = t.beat) : LOk w t' where
  b := by rw [b]; exact h.b
  m := fun j m2 ss2 h1 h2 => by
    rw [e, List.getElem?_set] at h1
    by_cases c : k = j
    · subst c
      rw [if_pos rfl] at h1
      rw [hs] at h2
      cases h2
      have : m2 = m' := by
        split at h1
        · exact (Option.some.inj h1).symm
        · cases h1
      subst this
      exact hm
    · rw [if_neg c] at h1
      exact h.m j m2 ss2 h1 h2
  len := by rw [e, List.length_set]; exact h.len
theorem LOk.same {w : Wld} {t t' : LSt} (h : LOk w t) (e : t'.ms = t.ms) (b : 0 ≤ t'.beat) : LOk w t' := ⟨b, fun k m ss h1 h2 => h.m k m ss (by rw [← e]; exact h1) h2, by rw [e]; exact h.len⟩
theorem lEnd_ok {w : Wld} {anew : Bool} {t : LSt} {k : Nat} (h : LOk w t) : LOk w (lEnd w anew t k) := by
  unfold lEnd
  split
  · rename_i m ss hm hs
    have ho := h.m k m ss hm hs
    split
    · rename_i e
      split
      · rename_i s hst
        have hlt := ho.o (by rw [e]; exact h.b)
        split
        · refine h.set hs (m' := ⟨if anew then 0 else m.at_ + 1, -1, t.beat, m.done + 1, m.waits, some t.beat⟩) ⟨?_, ?_, ?_⟩ rfl rfl
          · show 0 ≤ (if anew then (0 : Int) else m.at_ + 1); have := ho.a0; split <;> omega
          · show (if anew then (0 : Int) else m.at_ + 1) ≤ ss.length; split <;> omega
          · intro hh; exact absurd hh (by show ¬ (0 : Int) ≤ -1; decide)
        · refine h.set hs (m' := ⟨m.at_ + 1, -1, t.beat, m.done + 1, m.waits, m.ends⟩) ⟨?_, ?_, ?_⟩ rfl rfl
          · show 0 ≤ m.at_ + 1; have := ho.a0; omega
          · show m.at_ + 1 ≤ ss.length; omega
          · intro hh; exact absurd hh (by show ¬ (0 : Int) ≤ -1; decide)
      · exact h
    · exact h
  · exact h
theorem lEnds_ok {w : Wld} {anew : Bool} {t : LSt} (h : LOk w t) : ∀ n, LOk w (lEnds w anew t n)
  | 0 => h
  | n + 1 => lEnd_ok (lEnds_ok h n)
theorem lFill_ok {w : Wld} {t : LSt} (h : LOk w t) : LOk w (lFill w t) := by
  unfold lFill
  split
  · exact h.same rfl h.b
  · exact h
theorem lDraw_ok {w : Wld} {p : Bool} {x : LSt × List Int × Bool} {c : Clm} (h : LOk w x.1) (hc : ∀ m ss, x.1.ms[c.k.toNat]? = some m → w.ms[c.k.toNat]? = some ss → m.at_ < ss.length) : LOk w (lDraw w p x c).1 := by
  unfold lDraw
  split
  · rename_i m ss hm hs
    have ho := h.m _ m ss hm hs
    split
    · split
      · rename_i s _; exact h.set (k := c.k.toNat) (m' := { m with over := x.1.beat + s.long }) hs ⟨ho.a0, ho.a1, fun _ => hc m ss hm hs⟩ rfl rfl
      · exact h
    · exact h.set (k := c.k.toNat) (m' := { m with waits := m.waits + 1 }) hs ⟨ho.a0, ho.a1, ho.o⟩ rfl rfl
  · exact h
theorem lEnd_beat {w : Wld} {anew : Bool} {t : LSt} {k : Nat} : (lEnd w anew t k).beat = t.beat := by
  unfold lEnd
  repeat' split
  all_goals rfl
theorem lEnds_beat {w : Wld} {anew : Bool} {t : LSt} : ∀ n, (lEnds w anew t n).beat = t.beat
  | 0 => rfl
  | n + 1 => by rw [lEnds, lEnd_beat, lEnds_beat n]
theorem lClaim_mem {w : Wld} {t : LSt} {k : Nat} {c : Clm} (h : c ∈ lClaim w t k) : ∃ m ss st, t.ms[k]? = some m ∧ w.ms[k]? = some ss ∧ m.over < 0 ∧ m.at_ < ss.length ∧ ss[m.at_.toNat]? = some st ∧ c = ⟨k, st.draw, m.since⟩ := by
  unfold lClaim at h
  split at h
  · rename_i m ss hm hs
    split at h
    · rename_i hc
      split at h
      · rename_i st hst
        simp at h
        exact ⟨m, ss, st, hm, hs, hc.1, hc.2, hst, h⟩
      · cases h
    · cases h
  · cases h
theorem lClaims_mem {w : Wld} {t : LSt} {c : Clm} : ∀ {n : Nat}, c ∈ lClaims w t n → ∃ j, j < n ∧ c ∈ lClaim w t j
  | 0, h => by cases h
  | n + 1, h => by
    rcases List.mem_append.mp h with h | h
    · obtain ⟨j, hj, h⟩ := lClaims_mem h
      exact ⟨j, by omega, h⟩
    · exact ⟨n, by omega, h⟩
theorem lClaims_len {w : Wld} {t : LSt} : ∀ n : Nat, (lClaims w t n).length ≤ n
  | 0 => Nat.le_refl _
  | n + 1 => by
    have := lClaims_len (w := w) (t := t) n
    have h1 : (lClaim w t n).length ≤ 1 := by
      unfold lClaim
      repeat' split
      all_goals simp
    rw [lClaims, List.length_append]
    omega
theorem lClaims_nd {w : Wld} {t : LSt} : ∀ n : Nat, ((lClaims w t n).map Clm.k).Nodup
  | 0 => List.nodup_nil
  | n + 1 => by
    rw [lClaims, List.map_append, List.nodup_append]
    refine ⟨lClaims_nd n, ?_, ?_⟩
    · have h1 : (lClaim w t n).length ≤ 1 := by
        unfold lClaim
        repeat' split
        all_goals simp
      match e : lClaim w t n, h1 with
      | [], _ => exact List.nodup_nil
      | [x], _ => simp
      | x :: y :: l, h1 => simp at h1
    · intro a ha b hb e
      obtain ⟨c, hc, rfl⟩ := List.mem_map.mp ha
      obtain ⟨c', hc', rfl⟩ := List.mem_map.mp hb
      obtain ⟨j, hj, hcj⟩ := lClaims_mem hc
      obtain ⟨_, _, _, _, _, _, _, _, rfl⟩ := lClaim_mem hcj
      obtain ⟨_, _, _, _, _, _, _, _, rfl⟩ := lClaim_mem hc'
      simp at e
      omega
/-- where each machine is, is left by a draw as it was -/
def SameAt (T X : LSt) : Prop := X.beat = T.beat ∧ ∀ k : Nat, (X.ms[k]?).map Mac.at_ = (T.ms[k]?).map Mac.at_
theorem SameAt.set {T X X' : LSt} (h : SameAt T X) {k : Nat} {m m' : Mac} (hm : X.ms[k]? = some m) (e : X'.ms = X.ms.set k m') (ea : m'.at_ = m.at_) (eb : X'.beat = X.beat) : SameAt T X' := by
  refine ⟨eb.trans h.1, fun j => ?_⟩
  rw [← h.2 j, e, List.getElem?_set]
  by_cases c : k = j
  · subst c
    rw [if_pos rfl, if_pos (List.getElem?_eq_some_iff.mp hm).1, hm]
    show some m'.at_ = some m.at_
    rw [ea]
  · rw [if_neg c]
end Obr
namespace Obr
open PySem L2 PySem.Spec PyProof.Rows
/-! ### objects: fields, methods, making -/
section
variable {S : Type} {J : S → Hp → Hp → Prop} {K : PySem.W.Frag} {σ : L2.St} {s : S} {F : Hp} {R : V → S → Hp → Prop} {ta tv : TE} {tr : TA} {D : En S} {f : Str} {A : List V → Hp → VK → Prop} {E : XK} {C : Addr} {m : Str}
theorem ew_fld (hd : Hid J) (h : EW J ta σ s F fun x s1 F1 => ∃ a C dx fs v, x = .ref a ∧ F1 a = some (.ins C dx fs) ∧ Cls K C ∧ NoAttr K C f ∧ fs.lookup f = some v ∧ R v s1 F1) : EW J (tFld K ta f) σ s F R := fun H j Q q =>
  h H j _ fun x s1 F1 H1 j1 ⟨a, C, dx, fs, v, e, hf, c, n, l, k⟩ => ⟨a, C, dx, fs, v, e, hd.ex j1 _ _ hf, c, n, l, q _ _ _ _ j1 k⟩
theorem sw_fld (hd : Hid J) (h : EW J tv σ s F fun y s1 F1 => EW J ta σ s1 F1 fun x s2 F2 => ∃ a C dx fs, x = .ref a ∧ F2 a = some (.ins C dx fs) ∧ Cls K C ∧ NoAttr K C f ∧ fs.length < 1000 ∧ D.nx σ s2 (upd F2 a (.ins C dx (putF f y fs)))) :
    SW J (sFld K ta tv f) D σ s F := fun H j D' l =>
  h H j _ fun y s1 F1 H1 j1 h1 => h1 H1 j1 _ fun x s2 F2 H2 j2 ⟨a, C, dx, fs, e, hf, c, n, lf, k⟩ => ⟨a, C, dx, fs, e, hd.ex j2 _ _ hf, c, n, lf, l.nx _ _ _ _ (hd.mu j2 hf) k⟩
theorem sw_fldaugI (hd : Hid J) {g : Int → Int → Int} {rd : V → V → Hp → VK → Prop} (hrd : rd = fun x y H Q => ∃ i j, x = .int i ∧ y = .int j ∧ Q (.int (g i j)) H)
    (h : EW J ta σ s F fun x s1 F1 => ∃ a C dx fs i, x = .ref a ∧ F1 a = some (.ins C dx fs) ∧ Cls K C ∧ NoAttr K C f ∧ fs.lookup f = some (.int i) ∧ EW J tv σ s1 F1 fun y s2 F2 => ∃ j dx' fs', y = .int j ∧ F2 a = some (.ins C dx' fs') ∧ fs'.length < 1000 ∧ D.nx σ s2 (upd F2 a (.ins C dx' (putF f (.int (g i j)) fs')))) :
    SW J (sFldAug K ta tv rd f) D σ s F := fun H j D' l => by
  subst hrd
  exact h H j _ fun x s1 F1 H1 j1 ⟨a, C, dx, fs, i, e, hf, c, n, lk, h2⟩ => ⟨a, C, dx, fs, .int i, e, hd.ex j1 _ _ hf, c, n, lk, h2 H1 j1 _ fun y s2 F2 H2 j2 ⟨jj, dx', fs', ey, hf2, lf, k⟩ =>
    ⟨i, jj, rfl, ey, dx', fs', hd.ex j2 _ _ hf2, lf, l.nx _ _ _ _ (hd.mu j2 hf2) k⟩⟩
theorem ew_meth (hd : Hid J) (h : EW J ta σ s F fun x s1 F1 => ∃ a dx fs, x = .ref a ∧ F1 a = some (.ins C dx fs) ∧ fs.lookup m = none ∧ AW J tr σ s1 F1 fun vs s2 F2 => A (x :: vs) F2 fun v F' => R v s2 F') :
    EW J (tMeth C m (LS A) [] E ta tr) σ s F R := fun H j Q q =>
  h H j _ fun x s1 F1 H1 j1 ⟨a, dx, fs, e, hf, hm, h2⟩ => ⟨a, dx, fs, e, hd.ex j1 _ _ hf, hm, h2 H1 j1 _ fun vs s2 F2 H2 j2 k => by
    show LS A (x :: (vs ++ [])) H2 Q E
    rw [List.append_nil]
    exact ⟨_, F2, _, hd.unit s2, j2, k, fun v F' H' j' r => q v s2 F' H' j' r⟩⟩
theorem ew_make (hd : Hid J) (h : AW J tr σ s F fun vs s1 F1 => ∀ x dx, F1 x = none → F1 dx = none → dx ≠ x → A (.ref x :: vs) (upd (upd F1 dx (.own x)) x (.ins C dx [])) fun v F' => v = .non ∧ R (.ref x) s1 F') : EW J (tMake C (LS A) [] E tr) σ s F R := fun H j Q q =>
  h H j _ fun vs s1 F1 H1 j1 k x dx hx hdx hne => by
    show LS A (.ref x :: (vs ++ [])) _ _ E
    rw [List.append_nil]
    have j2 : J s1 (upd F1 dx (.own x)) (upd H1 dx (.own x)) := hd.al j1 hdx
    have hx2 : upd H1 dx (.own x) x = none := by rw [upd_ne hne.symm]; exact hx
    exact ⟨_, _, _, hd.unit s1, hd.al j2 hx2, k x dx (hd.fresh j1 hx) (hd.fresh j1 hdx) hne, fun v F' H' j' r => ⟨r.1, q _ s1 F' H' j' r.2⟩⟩
end
/-! ### fields by places -/
theorem lookup_nd : ∀ {fs : List (Str × V)} {i : Nat} {k : Str} {v : V}, (fs.map (·.1)).Nodup → fs[i]? = some (k, v) → fs.lookup k = some v
  | [], _, _, _, _, h => by simp at h
  | (k0, v0) :: r, 0, k, v, _, h => by
    simp at h
    rw [← h.1, ← h.2]
    exact List.lookup_cons_self
  | (k0, v0) :: r, i + 1, k, v, hn, h => by
    rw [List.map_cons, List.nodup_cons] at hn
    simp only [List.getElem?_cons_succ] at h
    have : k ≠ k0 := fun e => hn.1 (by rw [← e]; exact List.mem_map.mpr ⟨(k, v), List.mem_of_getElem? h, rfl⟩)
    rw [List.lookup_cons]
    rw [beq_eq_false_iff_ne.mpr this]
    exact lookup_nd hn.2 h
theorem lookup_out : ∀ {fs : List (Str × V)} {k : Str}, k ∉ fs.map (·.1) → fs.lookup k = none
  | [], _, _ => rfl
  | (k0, v0) :: r, k, h => by
    simp only [List.map_cons, List.mem_cons, not_or] at h
    rw [List.lookup_cons, beq_eq_false_iff_ne.mpr h.1]
    exact lookup_out h.2
theorem putF_nd : ∀ {fs : List (Str × V)} {i : Nat} {k : Str} {v v0 : V}, (fs.map (·.1)).Nodup → fs[i]? = some (k, v0) → putF k v fs = fs.set i (k, v)
  | [], _, _, _, _, _, h => by simp at h
  | (k0, v1) :: r, 0, k, v, v0, hn, h => by
    simp at h
    show (if k0 = k then (k0, v) :: r else (k0, v1) :: putF k v r) = _
    rw [if_pos h.1, h.1]
    rfl
  | (k0, v1) :: r, i + 1, k, v, v0, hn, h => by
    rw [List.map_cons, List.nodup_cons] at hn
    simp only [List.getElem?_cons_succ] at h
    have : k0 ≠ k := fun e => hn.1 (by rw [e]; exact List.mem_map.mpr ⟨(k, v0), List.mem_of_getElem? h, rfl⟩)
    show (if k0 = k then (k0, v) :: r else (k0, v1) :: putF k v r) = _
    rw [if_neg this, putF_nd hn.2 h]
    rfl
theorem putF_out : ∀ {fs : List (Str × V)} {k : Str} {v : V}, k ∉ fs.map (·.1) → putF k v fs = fs ++ [(k, v)]
  | [], _, _, _ => rfl
  | (k0, v0) :: r, k, v, h => by
    simp only [List.map_cons, List.mem_cons, not_or] at h
    show (if k0 = k then (k0, v) :: r else (k0, v0) :: putF k v r) = _
    rw [if_neg (fun e => h.1 e.symm), putF_out h.2]
    rfl
/-- a class whose objects have these fields, none of them a name of the class -/
structure ClsF (K : PySem.W.Frag) (C : Addr) (ns : List Str) : Prop where
  cl : Cls K C
  no : ∀ f ∈ ns, NoAttr K C f
/-- a method -/
structure Met (K : PySem.W.Frag) (C : Addr) (m : Str) (f : Addr) (fd : FuncData) (ps : List Str) : Prop where
  cl : Cls K C
  m : Meth K C m f
  a : Binds K fd ps []
/-! ### the program's machines -/
def ovV (i : Int) : V := if i < 0 then .non else .int i
def mkeys : List Str := ["number", "steps", "at", "over", "since", "paused"]
theorem mkeys_nd : mkeys.Nodup := by decide +kernel
def mfs (n : Int) (sv : V) (m : Mac) : List (Str × V) := [("number", .int n), ("steps", sv), ("at", .int m.at_), ("over", ovV m.over), ("since", .int m.since), ("paused", .bl false)]
theorem mfs_nd (n : Int) (sv : V) (m : Mac) : ((mfs n sv m).map (·.1)).Nodup := mkeys_nd
def rkeys : List Str := ["cap", "have", "refill", "anew", "beat", "machines", "right", "passing", "last"]
theorem rkeys_nd : rkeys.Nodup := by decide +kernel
structure MAd where
  a : Addr
  dx : Addr
  sv : V
structure RAd where
  a : Addr
  dx : Addr
  ml : Addr
  C : Addr
  M : Addr
  mads : List MAd
/-- of a shop (sh) the first six, of a run all nine -/
def rfsS (sh : Bool) (A : RAd) (t : LSt) (w : Wld) (r : Rgt) (p anew : Bool) : List (Str × V) := ("cap", V.int w.cap) :: ("have", V.int t.level) :: ("refill", V.int w.refill) :: ("anew", V.bl anew) :: ("beat", V.int t.beat) :: ("machines", V.ref A.ml) :: (match sh with | true => [] | false => [("right", V.str (rgtS r)), ("passing", V.bl p), ("last", ovV t.last)])
abbrev rfs (A : RAd) (t : LSt) (w : Wld) (r : Rgt) (p anew : Bool) : List (Str × V) := rfsS false A t w r p anew
theorem rfs_nd {sh : Bool} (A : RAd) (t : LSt) (w : Wld) (r : Rgt) (p anew : Bool) : ((rfsS sh A t w r p anew).map (·.1)).Nodup := by
  cases sh with
  | false => exact rkeys_nd
  | true => exact (show (rkeys.take 6).Nodup by decide +kernel)
theorem rfs_lt {sh : Bool} {A : RAd} {t : LSt} {w : Wld} {r : Rgt} {p anew : Bool} : (rfsS sh A t w r p anew).length < 1000 := by
  cases sh with
  | false => exact Nat.lt_of_le_of_lt (Nat.le_of_ble_eq_true (m := 9) rfl) (by decide)
  | true => exact Nat.lt_of_le_of_lt (Nat.le_of_ble_eq_true (m := 9) rfl) (by decide)
theorem rfs_no {sh : Bool} {A : RAd} {t : LSt} {w : Wld} {r : Rgt} {p anew : Bool} {f : Str} (h : f ∉ rkeys) : (rfsS sh A t w r p anew).lookup f = none := by
  cases sh with
  | false => exact lookup_out h
  | true => exact lookup_out (fun z => h (List.mem_of_mem_take (i := 6) z))
def mcell (M : Addr) (n : Nat) (ad : MAd) (m : Mac) : Addr × HO := (ad.a, .ins M ad.dx (mfs n ad.sv m))
def mcells (M : Addr) : Nat → List MAd → List Mac → List (Addr × HO)
  | n, ad :: as, m :: ms => mcell M n ad m :: mcells M (n + 1) as ms
  | _, _, _ => []
theorem mcells_get {M : Addr} : ∀ {k n : Nat} {as : List MAd} {ms : List Mac} {ad : MAd} {m : Mac}, as[k]? = some ad → ms[k]? = some m → (mcells M n as ms)[k]? = some (mcell M (n + k) ad m)
  | _, _, [], _, _, _, h, _ => by simp at h
  | _, _, _ :: _, [], _, _, _, h => by simp at h
  | 0, n, a :: as, b :: ms, ad, m, h1, h2 => by
    simp at h1 h2
    subst h1 h2
    rfl
  | k + 1, n, a :: as, b :: ms, ad, m, h1, h2 => by
    simp only [List.getElem?_cons_succ] at h1 h2
    have := mcells_get (M := M) (n := n + 1) h1 h2
    rw [show n + 1 + k = n + (k + 1) from by omega] at this
    exact this
theorem mcells_set {M : Addr} : ∀ {k n : Nat} {as : List MAd} {ms : List Mac} {ad : MAd} {m' : Mac}, as[k]? = some ad → (mcells M n as ms).set k (mcell M (n + k) ad m') = mcells M n as (ms.set k m')
  | _, _, [], _, _, _, h => by simp at h
  | _, _, _ :: _, [], _, _, _ => by simp [mcells]
  | 0, n, a :: as, b :: ms, ad, m', h1 => by
    simp at h1
    subst h1
    rfl
  | k + 1, n, a :: as, b :: ms, ad, m', h1 => by
    simp only [List.getElem?_cons_succ] at h1
    have := mcells_set (M := M) (n := n + 1) (ms := ms) (m' := m') h1
    rw [show n + 1 + k = n + (k + 1) from by omega] at this
    show mcell M n a b :: (mcells M (n + 1) as ms).set k _ = _
    rw [this]
    rfl
/-- of a machine what the program keeps -/
def mcore (m : Mac) : Int × Int × Int := (m.at_, m.over, m.since)
theorem mcell_core {M : Addr} {n : Nat} {ad : MAd} {m m' : Mac} (e : mcore m = mcore m') : mcell M n ad m = mcell M n ad m' := by
  unfold mcore at e
  simp only [Prod.mk.injEq] at e
  unfold mcell mfs
  rw [e.1, e.2.1, e.2.2]
theorem mcells_core {M : Addr} : ∀ {n : Nat} {as : List MAd} {ms ms' : List Mac}, ms.map mcore = ms'.map mcore → mcells M n as ms = mcells M n as ms'
  | _, [], _, _, _ => rfl
  | _, _ :: _, [], [], _ => rfl
  | _, _ :: _, [], _ :: _, h => by simp at h
  | _, _ :: _, _ :: _, [], h => by simp at h
  | n, a :: as, m :: ms, m' :: ms', h => by
    simp only [List.map_cons, List.cons.injEq] at h
    show mcell M n a m :: _ = mcell M n a m' :: _
    rw [mcell_core h.1, mcells_core h.2]
structure SAt (sh : Bool) (K : PySem.W.Frag) (F0 F : Hp) (A : RAd) (t : LSt) (w : Wld) (r : Rgt) (p anew : Bool) (ex : List (Addr × HO)) : Prop where
  own : Own F0 F ((A.a, .ins A.C A.dx (rfsS sh A t w r p anew)) :: (mcells A.M 0 A.mads t.ms ++ ex))
  ml : F0 A.ml = some (.lst (A.mads.map fun ad => .ref ad.a))
  st : ∀ (k : Nat) (ad : MAd) (ss : List Stp), A.mads[k]? = some ad → w.ms[k]? = some ss → Dp K F0 ad.sv (macD ss)
  len1 : A.mads.length = w.ms.length
  len2 : t.ms.length = w.ms.length
abbrev RunAt (K : PySem.W.Frag) (F0 F : Hp) (A : RAd) (t : LSt) (w : Wld) (r : Rgt) (p anew : Bool) (ex : List (Addr × HO)) : Prop := SAt false K F0 F A t w r p anew ex
section
variable {sh : Bool} {S : Type} {J : S → Hp → Hp → Prop} {K : PySem.W.Frag} {σ : L2.St} {s : S} {F0 F : Hp} {A : RAd} {t : LSt} {w : Wld} {r : Rgt} {p anew : Bool} {ex : List (Addr × HO)} {D : L2.St → S → Hp → Prop}
theorem SAt.cell (h : SAt sh K F0 F A t w r p anew ex) : F A.a = some (.ins A.C A.dx (rfsS sh A t w r p anew)) := h.own.get (i := 0) rfl
theorem SAt.mac (h : SAt sh K F0 F A t w r p anew ex) {k : Nat} {ad : MAd} {m : Mac} (h1 : A.mads[k]? = some ad) (h2 : t.ms[k]? = some m) : F ad.a = some (.ins A.M ad.dx (mfs k ad.sv m)) := by
  have h3 := mcells_get (M := A.M) (n := 0) h1 h2
  rw [Nat.zero_add] at h3
  have hk : k < (mcells A.M 0 A.mads t.ms).length := (List.getElem?_eq_some_iff.mp h3).1
  exact h.own.get (i := k + 1) (by rw [List.getElem?_cons_succ, List.getElem?_append_left hk]; exact h3)
/-- the run's own fields are put anew -/
theorem SAt.put (h : SAt sh K F0 F A t w r p anew ex) {t' : LSt} (e : t'.ms = t.ms) : SAt sh K F0 (upd F A.a (.ins A.C A.dx (rfsS sh A t' w r p anew))) A t' w r p anew ex :=
  ⟨by rw [e]; exact h.own.set (i := 0) (a := A.a) (o' := .ins A.C A.dx (rfsS sh A t' w r p anew)) rfl, h.ml, h.st, h.len1, by rw [e]; exact h.len2⟩
/-- a machine's fields are put anew -/
theorem SAt.mput (h : SAt sh K F0 F A t w r p anew ex) {k : Nat} {ad : MAd} {m m' : Mac} (h1 : A.mads[k]? = some ad) (h2 : t.ms[k]? = some m) {t' : LSt} (e : t'.ms = t.ms.set k m') (er : rfsS sh A t' w r p anew = rfsS sh A t w r p anew) :
    SAt sh K F0 (upd F ad.a (.ins A.M ad.dx (mfs k ad.sv m'))) A t' w r p anew ex := by
  have h3 := mcells_get (M := A.M) (n := 0) h1 h2
  rw [Nat.zero_add] at h3
  have hk : k < (mcells A.M 0 A.mads t.ms).length := (List.getElem?_eq_some_iff.mp h3).1
  have o := h.own.set (i := k + 1) (a := ad.a) (o := .ins A.M ad.dx (mfs k ad.sv m)) (o' := .ins A.M ad.dx (mfs k ad.sv m')) (by rw [List.getElem?_cons_succ, List.getElem?_append_left hk]; exact h3)
  have h4 := mcells_set (M := A.M) (n := 0) (ms := t.ms) (m' := m') h1
  rw [Nat.zero_add] at h4
  refine ⟨?_, h.ml, h.st, h.len1, by rw [e, List.length_set]; exact h.len2⟩
  rw [e, ← h4, er]
  rw [List.set_cons_succ, List.set_append_left _ _ hk] at o
  exact o
theorem SAt.same (h : SAt sh K F0 F A t w r p anew ex) {t' : LSt} (e1 : t'.ms.map mcore = t.ms.map mcore) (e2 : t'.level = t.level) (e3 : t'.last = t.last) (e4 : t'.beat = t.beat) : SAt sh K F0 F A t' w r p anew ex :=
  ⟨by rw [mcells_core e1]; unfold rfsS; rw [e2, e3, e4]; exact h.own, h.ml, h.st, h.len1, by have := congrArg List.length e1; simp at this; rw [this]; exact h.len2⟩
theorem SAt.new (h : SAt sh K F0 F A t w r p anew ex) {a : Addr} {o : HO} (ha : F a = none) : SAt sh K (upd F0 a o) (upd F a o) A t w r p anew ex :=
  have h0 := h.own.ex.free ha
  ⟨h.own.new ha, by rw [upd_ne (ne_of_none h.ml h0)]; exact h.ml, fun k ad ss h1 h2 => dp_ex (Ex.new (.refl _) h0) (h.st k ad ss h1 h2), h.len1, h.len2⟩
theorem SAt.new' (h : SAt sh K F0 F A t w r p anew ex) {a : Addr} {o : HO} (ha : F a = none) : SAt sh K F0 (upd F a o) A t w r p anew ex := ⟨h.own.new' ha, h.ml, h.st, h.len1, h.len2⟩
theorem SAt.grow (h : SAt sh K F0 F A t w r p anew ex) {F' : Hp} (g : Ex F F') : SAt sh K F0 F' A t w r p anew ex := ⟨h.own.grow g, h.ml, h.st, h.len1, h.len2⟩
theorem run_perm {x y : Addr × HO} {l ex : List (Addr × HO)} : (x :: (l ++ y :: ex)).Perm (y :: x :: (l ++ ex)) := (List.Perm.cons x List.perm_middle).trans (List.Perm.swap y x _)
theorem SAt.more (h : SAt sh K F0 F A t w r p anew ex) {a : Addr} {o : HO} (ha : F a = none) : SAt sh K F0 (upd F a o) A t w r p anew ((a, o) :: ex) := ⟨(h.own.more ha).perm run_perm, h.ml, h.st, h.len1, h.len2⟩
theorem SAt.ex0 {a : Addr} {o : HO} {ex : List (Addr × HO)} (h : SAt sh K F0 F A t w r p anew ((a, o) :: ex)) : F a = some o := (h.own.perm run_perm.symm).get (i := 0) rfl
theorem SAt.ex0n {a : Addr} {o : HO} {ex : List (Addr × HO)} (h : SAt sh K F0 F A t w r p anew ((a, o) :: ex)) : F0 a = none := (h.own.perm run_perm.symm).none (i := 0) rfl
theorem SAt.exset {a : Addr} {o o' : HO} {ex : List (Addr × HO)} (h : SAt sh K F0 F A t w r p anew ((a, o) :: ex)) : SAt sh K F0 (upd F a o') A t w r p anew ((a, o') :: ex) :=
  ⟨((h.own.perm run_perm.symm).set (i := 0) (a := a) (o := o) (o' := o') rfl).perm run_perm, h.ml, h.st, h.len1, h.len2⟩
theorem SAt.freeze {a : Addr} {o : HO} {ex : List (Addr × HO)} (h : SAt sh K F0 F A t w r p anew ((a, o) :: ex)) : SAt sh K (upd F0 a o) F A t w r p anew ex :=
  have h0 := h.ex0n
  ⟨(h.own.perm run_perm.symm).freeze rfl, by rw [upd_ne (ne_of_none h.ml h0)]; exact h.ml, fun k ad ss h1 h2 => dp_ex (Ex.new (.refl _) h0) (h.st k ad ss h1 h2), h.len1, h.len2⟩
theorem SAt.drop {x : Addr × HO} {ex : List (Addr × HO)} (h : SAt sh K F0 F A t w r p anew (x :: ex)) : SAt sh K F0 F A t w r p anew ex := by
  have o := h.own.perm run_perm.symm
  refine ⟨⟨o.ex, fun q hq => o.out q (List.mem_cons_of_mem _ hq), fun q hq => o.at_ q (List.mem_cons_of_mem _ hq), ?_⟩, h.ml, h.st, h.len1, h.len2⟩
  have := o.nd
  rw [List.map_cons, List.nodup_cons] at this
  exact this.2
end
end Obr
/-! ### a target that is a field; enumerate of a tuple -/
namespace Obr
open PySem L2 PySem.Spec PyProof.Rows
section
variable {X : Cx} {pos : Pos}
def gFld (K : PySem.W.Frag) (ta : TE) (f : Str) : TG := fun v σ H Q => ta σ H fun x H1 => ∃ a C dx fs, x = .ref a ∧ H1 a = some (.ins C dx fs) ∧ Cls K C ∧ NoAttr K C f ∧ fs.length < 1000 ∧ Q σ (upd H1 a (.ins C dx (putF f v fs)))
theorem pg_fld {o : Expr} {f : Str} {ta : TE} (ho : PE X o ta) : PG X (.Attribute o f pos) (gFld X.K ta f) := by
  refine ⟨fun pins s σ H v u Q I r h => ?_⟩
  rw [PySem.assign_Attribute]
  refine wpAny_bind (wpAny_holding (thn (ho.run pins s σ H _ I h) fun ov s1 ⟨x, H1, I1, rx, a, C, dx, fs, ex, ea, c, n, l, q⟩ => ?_))
  subst ex
  obtain rfl : ov = Value.ref a := rx
  refine wpAny_bind (wpAny_standAt (wpAny_bind (wpAny_holding ?_)))
  refine setattr_ok I1 ea c n l r fun s3 I3 => ?_
  exact wpAny_release ⟨σ, _, I3, q⟩
end
section
variable {S : Type} {J : S → Hp → Hp → Prop} {K : PySem.W.Frag} {σ : L2.St} {s : S} {F : Hp} {ta : TE} {x : V} {f : Str} {N : L2.St → S → Hp → Prop}
theorem gw_fld (hd : Hid J) (h : EW J ta σ s F fun o s1 F1 => ∃ a C dx fs, o = .ref a ∧ F1 a = some (.ins C dx fs) ∧ Cls K C ∧ NoAttr K C f ∧ fs.length < 1000 ∧ N σ s1 (upd F1 a (.ins C dx (putF f x fs)))) : GW J (gFld K ta f) x σ s F N := fun H j Q q =>
  h H j _ fun o s1 F1 H1 j1 ⟨a, C, dx, fs, e, hf, c, n, l, k⟩ => ⟨a, C, dx, fs, e, hd.ex j1 _ _ hf, c, n, l, q _ _ _ _ (hd.mu j1 hf) k⟩
end
end Obr
namespace PySem
open Sem (wp)
set_option maxHeartbeats 4000000 in
theorem meets_enumerate_newB1 {v : Value} {o : Obj} {H : Heap → Prop} (B : Begins v o H) :
    Meets (Builtin.«enumerate.__new__» ⟨[.type "enumerate", v], []⟩) (fun _ R s => H s.heap ∧
      R (.ok (.ret (.ref (s.heap.push o).objs.size))) { s with heap := (s.heap.push o).push { cls := .type "enumerate", data := .fields #[.none, .bool false, .ref s.heap.objs.size, rawInt 0, .none, .none] } }) :=
  .of_wp fun prog w A R s h => by
    obtain ⟨hp, g, d, tk, os⟩ := s; obtain ⟨h1, h⟩ := h
    have hsub := sub_enumerate
    have q1 : ∀ {A' : Around} {E : Value → Shared → Prop} {Q : Value → Shared → Prop}, Q (.ref hp.objs.size) ⟨hp.push o, g, d, tk, os⟩ → wpAny (model prog w) A' (pyIter v) Q E ⟨hp, g, d, tk, os⟩ :=
      fun q => B.iter prog w _ _ ⟨hp, g, d, tk, os⟩ _ h1 q
    wp_walk using q1
    refine wpAny_stack_any fun st => wpAny_pure ?_
    split
    · rename_i c _ _ _ _ _
      cases (c == Value.type "enumerate")
      · wp_walk using q1
        exact ⟨_, rfl, h⟩
      · wp_walk using q1
        exact ⟨_, rfl, h⟩
    · wp_walk using q1
      exact ⟨_, rfl, h⟩
section
variable {prog : Program} {w : World} {A : Around} {E : Value → Shared → Prop} {s : Shared}
theorem enum_begins1 {v : Value} {o : Obj} {H : Heap → Prop} {Q : Value → Shared → Prop} (B : Begins v o H) (h1 : H s.heap)
    (h : ∀ h', IsEnum h' (s.heap.objs.size + 1) s.heap.objs.size 0 .none → h'.get? s.heap.objs.size = some o → h'.objs.size = s.heap.objs.size + 2 →
      (∀ b o, s.heap.get? b = some o → h'.get? b = some o) → Q (.ref (s.heap.objs.size + 1)) { s with heap := h' }) :
    wpAny (model prog w) A (call (.type "enumerate") [v]) Q E s := by
  refine callType_new F.called_enumerate (by decide) (F.typeCall_enumerate_1 _) (F.newCall_enumerate_1 _) (fun obj => F.args_object_init_2 obj _) F.entry_enumerate_new
    (meets_enumerate_newB1 B) ⟨h1, ?_⟩
  have hz : (s.heap.push o).objs.size = s.heap.objs.size + 1 := Heap.size_push ..
  show _ ∧ _
  rw [hz]
  have he : IsEnum ((s.heap.push o).push { cls := .type "enumerate", data := .fields #[.none, .bool false, .ref s.heap.objs.size, rawInt 0, .none, .none] }) (s.heap.objs.size + 1) s.heap.objs.size 0 .none := by
    have := Heap.get?_push_size (s.heap.push o) (o := { cls := .type "enumerate", data := .fields #[.none, .bool false, .ref s.heap.objs.size, rawInt 0, .none, .none] }) rfl
    rw [hz] at this; exact this
  refine ⟨⟨_, he, rfl⟩, h _ he (Heap.get?_push_of_some _ (Heap.get?_push_size _ B.free)) (by rw [Heap.size_push, hz]) fun b o x => Heap.get?_push_of_some _ (Heap.get?_push_of_some _ x)⟩
end
end PySem
namespace Obr
open PySem L2 PySem.Spec PyProof.Rows
/-- the tuple at a, each item in a new pair -/
def IteT (K : PySem.W.Frag) (a : Addr) : It :=
  ⟨fun i H => ∃ (xs : List V) (x : V), SqT K H a xs ∧ xs[i]? = some x, fun i H v H' => ∃ T x, v = .ref T ∧ H T = none ∧ H' = upd H T (.tup [.int (i : Nat), x]) ∧ ∀ xs, SqT K H a xs → xs[i]? = some x, fun i H => ∃ xs : List V, SqT K H a xs ∧ xs.length ≤ i⟩
theorem turn_enumT {P : Program} {w : World} {K : PySem.W.Frag} {elts : List Expr} {kk : Nat} {tpos : Pos} (a e it : Addr) :
    Turn P w K (.Tuple elts kk tpos) (IteT K a) [e, it] e (fun i h => (∃ old, IsEnum h e it ((i : Nat) : Int) old) ∧ h.IsTupleIter it a i ∧ e ≠ it) where
  mem := by simp
  obj := fun i h st b hb => by
    obtain ⟨⟨old, he⟩, ⟨o, ho, hc, hd⟩, _⟩ := st
    have e' : b = e ∨ b = it := by simpa using hb
    rcases e' with z | z
    · rw [z]; exact ⟨_, he, fun v q => nomatch q⟩
    · rw [z]; exact ⟨o, ho, fun v q => by rw [hd] at q; cases q⟩
  keep := fun i h h' st k => let ⟨⟨old, he⟩, hi, hne⟩ := st; ⟨⟨old, k e (by simp) _ he⟩, hi.at fun o q => k it (by simp) o q, hne⟩
  item := by
    intro X hP hw hK hc i pins s σ H E I hf st hg
    subst hP hw hK
    obtain ⟨⟨old, he⟩, hit, hne⟩ := st
    obtain ⟨xs, x, hq, hx⟩ := hg
    obtain ⟨its, rv, p, hz⟩ := I.tuple hq
    have p' : s.heap.IsTuple a its.toArray := p
    obtain ⟨u, hu, ru⟩ := rv.get hx
    have hel : e < s.heap.objs.size := Heap.lt_size he
    have hil : it < s.heap.objs.size := by obtain ⟨_, q, _⟩ := hit; exact Heap.lt_size q
    have hai : a ≠ it := fun z => by
      obtain ⟨o1, q1, c1, _⟩ := p'
      obtain ⟨o2, q2, c2, _⟩ := hit
      rw [z, q2] at q1
      cases q1
      rw [c1] at c2
      exact absurd c2 (by decide)
    have hae : e ≠ a := fun z => by
      obtain ⟨o1, q1, c1, _⟩ := p'
      have he' : s.heap.get? e = some _ := he
      rw [z, q1] at he'
      cases he'
      exact absurd (show Value.type "enumerate" = Value.type "tuple" from c1) (by decide)
    have hlt : i < its.toArray.size := by
      have := (List.getElem?_eq_some_iff.mp hu).1
      simpa using this
    refine wpAny_pyNext_enum_itemD (Draws.tuple (A := X.A.in1) (I.ok.hd hc) it a hai its.toArray) he ⟨hit, p'⟩ hlt hne (by simp [hne, hae]) fun v h' tk hv ho hst hT hsz hk => ?_
    have hvu : v = u := by
      have hv' : its[i]? = some v := by simpa using hv
      rw [hu] at hv'
      exact (Option.some.inj hv').symm
    subst hvu
    refine ⟨_, rfl, wpAny_letOwnedTupleGo_enum (s := { s with heap := h', toks := tk + 1 }) ho fun h'' he' sb => ?_⟩
    have hT2 : h''.get? s.heap.objs.size = some { cls := .type "tuple", data := .seq #[.int i tk, v] } := (sb.2 _ (Nat.ne_of_gt hel)).trans hT
    have new : ObjOk X.prog X.w (upd H s.heap.objs.size (.tup [.int (i : Nat), x])) h'' s.heap.objs.size (.tup [.int (i : Nat), x]) :=
      ⟨by show 2 ≤ sizeLine; decide, [.int i tk, v], .cons ⟨_, rfl⟩ (.cons ru .nil), ⟨_, hT2, rfl, _, rfl⟩⟩
    have I1 : Inv X pins σ (upd H s.heap.objs.size (.tup [.int (i : Nat), x])) { s with heap := h'', toks := tk + 1 } :=
      I.turnedNew (ch := [e, it]) (fun b ob hb q => (sb.2 b (fun z => hb (by simp [z]))).trans (hk b ob (fun z => hb (by simp [z])) (fun z => hb (by simp [z])) q)) hf (Nat.le_refl _) new
    refine ⟨.ref s.heap.objs.size, _, I1, rfl, ⟨_, x, rfl, I.hok.fresh (Nat.le_refl _), rfl, fun ys hy => by rw [I.tuple_inj hy hq]; exact hx⟩, ⟨⟨v, ?_⟩, hst.1.at fun o q => (sb.2 it (Ne.symm hne)).trans q, hne⟩, fun b hb => ?_⟩
    · have e1 : ((i + 1 : Nat) : Int) = (i : Int) + 1 := by omega
      rw [e1]; exact he'
    · have hb' : b < s.heap.objs.size := by
        have e' : b = e ∨ b = it := by simpa using hb
        rcases e' with z | z
        · rw [z]; exact hel
        · rw [z]; exact hil
      rw [upd_ne (Nat.ne_of_lt hb')]
      exact (hf b hb).1
  done := by
    intro X hP hw hK hc i pins s σ H E I hf st hg
    subst hP hw hK
    obtain ⟨⟨old, he⟩, hit, hne⟩ := st
    obtain ⟨xs, hq, hx⟩ := hg
    obtain ⟨its, rv, p, hz⟩ := I.tuple hq
    have p' : s.heap.IsTuple a its.toArray := p
    obtain ⟨f0, f1, f2, f3, f4, f5⟩ := hf it (by simp)
    have hl := rv.length
    have hT : s.TypeIs (.ref e) "enumerate" := ⟨_, he, rfl⟩
    unfold pyNext
    refine wpAny_bind (wpAny_attempt (wpAny_callSpecial?_slot (name := Str.ofString "__next__") hT F.slot_enumerate_next
      (wpAny_call_entry F.slot_enumerate_next hT F.entry_enumerate_next ?_ (F.args_enumerate_next_1 _))))
    show wpAny _ _ (field (.ref e) 2 >>= _) _ _ _
    refine wpAny_bind (wpAny_field he rfl (x := .ref it) rfl ?_)
    refine wpAny_bind (wpAny_nextOf_tuple_end (I.ok.hd hc) hit p' (by simp; omega) fun h' x he' hx' => ?_)
    obtain ⟨o, ho, hc'⟩ := hx'
    refine wpAny_bind (wpAny_isInstance (T := "StopIteration") (b := true) ⟨o, ho, hc'⟩ isSubtype_stop ?_)
    exact wpAny_pure ⟨rfl, I.turned (t' := s.toks) (fun b o hb q => he' b o hb q) f0 f1 f3 f4 f5⟩
  self := fun A i s Q E st h => let ⟨⟨_, he⟩, _⟩ := st; wpAny_pyIter_enum he h
def iEnumT (K : PySem.W.Frag) (ta : TA) : TI := fun σ H R => ta σ H fun vs H1 => ∃ a xs, vs = [.ref a] ∧ SqT K H1 a xs ∧ R (IteT K a) H1
theorem pi_enumT {X : Cx} {e : Expr} {ta : TA} {p pos tpos : Pos} {elts : List Expr} {kk : Nat} (hg : Gl X "enumerate") (hm : X.mg "enumerate" = none) (ha : PA X [e] ta) (hs : starEach [e] X.env = [(false, eval e X.env)] := by rfl) :
    PI X (.Tuple elts kk tpos) (.Call (.Name "enumerate" p) [e] [] pos) (iEnumT X.K ta) := by
  refine ⟨fun pins s σ H R I h => ?_⟩
  refine Call_ (ld_blt I hg hm boot_enumerate (PyProof.Rows.callWith_type1 (thn (ha.run pos pins s σ H _ I h) fun us s1 ⟨vs, H1, I1, r1, q1⟩ => ?_) hs rfl))
  obtain ⟨a, xs, ex, hq, q⟩ := q1
  subst ex
  cases r1 with
  | cons r rr =>
    cases rr
    cases r
    obtain ⟨its, rv, p', hz⟩ := I1.tuple hq
    have p'' : s1.heap.IsTuple a its.toArray := p'
    refine enum_begins1 (begins_tuple a its.toArray) p'' fun h' he hit hsz hk => wpAny_pyIter_enum he ?_
    have I2 : Inv X pins σ H1 { s1 with heap := h' } := I1.kept (t' := s1.toks) hk
    refine ⟨s1.heap.objs.size + 1, [s1.heap.objs.size + 1, s1.heap.objs.size], _, _, H1, rfl, I2, turn_enumT a (s1.heap.objs.size + 1) s1.heap.objs.size, ⟨⟨.none, he⟩, ⟨_, hit, rfl, rfl⟩, Nat.succ_ne_self _⟩, fun b hb => ?_, q⟩
    have e' : b = s1.heap.objs.size + 1 ∨ b = s1.heap.objs.size := by simpa using hb
    have hle : s1.heap.objs.size ≤ b := by
      rcases e' with z | z
      · rw [z]; exact Nat.le_add_right _ _
      · rw [z]; exact Nat.le_refl _
    exact I1.fpOk hle (I1.hok.fresh hle)
theorem walk_enumT {K : PySem.W.Frag} {a : Addr} {xs : List V} : Walk (IteT K a) xs.length (fun H => SqT K H a xs) (YPair (fun i => some (.int (i : Nat))) (fun i => xs[i]?)) := by
  refine ⟨fun i _ hi q => ⟨xs, xs[i], q, by simp [hi]⟩, fun _ q => ⟨xs, q, Nat.le_refl _⟩, fun i H v H' _ q y => ?_⟩
  obtain ⟨T, x, h1, h2, h3, h4⟩ := y
  exact ⟨T, .int (i : Nat), x, h1, h2, h3, rfl, h4 xs q⟩
section
variable {S : Type} {J : S → Hp → Hp → Prop} {K : PySem.W.Frag} {σ : L2.St} {s : S} {F : Hp} {R : V → S → Hp → Prop} {te : TE} {tt : TT} {t : TS} {g : TG} {ta : TA} {D : En S} {vs : List Nat}
theorem sw_forET (hd : Hid J) (h : AW J ta σ s F fun ws s1 F1 => ∃ (a : Addr) (xs : List V) (Pv : Nat → L2.St → S → Hp → Prop), ws = [.ref a] ∧ SqT K F1 a xs ∧ Pv 0 σ s1 F1 ∧ (∀ i σ s F, i ≤ xs.length → Pv i σ s F → SqT K F a xs) ∧
      (∀ (i : Nat) x σ s F T, xs[i]? = some x → Pv i σ s F → F T = none → GW J g (.ref T) σ s (upd F T (.tup [.int (i : Int), x])) fun σ s F => SW J t { D with nx := Pv (i + 1), ct := Pv (i + 1), bk := D.nx } σ s F) ∧ (∀ σ s F, Pv xs.length σ s F → D.nx σ s F)) :
    SW J (tFor (iEnumT K ta) g t) D σ s F := fun H j D' l =>
  h H j _ fun v s1 F1 H1 j1 ⟨a, xs, Pv, e, l1, h0, hl, hs, hdn⟩ => ⟨a, xs, e, hd.sqT j1 l1, for_it walk_enumT (fun i σ H => ∃ s F, J s F H ∧ Pv i σ s F) ⟨s1, F1, j1, h0⟩
    (fun i σ' H' hi ⟨s', F', j', p⟩ => hd.sqT j' (hl i σ' s' F' hi p))
    (fun i x σ' H' H'' hi ⟨s', F', j', p⟩ ⟨T, y, z, ex, hT, eH, e1, e2⟩ => by
      subst ex eH
      cases e1
      exact hs i z σ' s' F' T e2 p (hd.fresh j' hT) _ (hd.al j' hT) _ fun σ2 s2 F2 H2 j2 k => k H2 j2 _ ⟨fun σ3 s3 F3 H3 j3 k3 => ⟨s3, F3, j3, k3⟩, l.rt, l.nx, fun σ3 s3 F3 H3 j3 k3 => ⟨s3, F3, j3, k3⟩⟩)
    (fun σ' H' ⟨s', F', j', p⟩ => l.nx _ _ _ _ j' (hdn σ' s' F' p))⟩
theorem ew_lcET (hd : Hid J) (h : AW J ta σ s F fun ws s1 F1 => ∃ a xs, ws = [.ref a] ∧ SqT K F1 a xs ∧ xs.length ≤ 100000 ∧ ∀ Dl, F1 Dl = none → ∃ Pv : Nat → List V → S → Hp → Prop, Pv 0 [] s1 F1 ∧
      (∀ i acc s F, i ≤ xs.length → F Dl = none → Pv i acc s F → SqT K F a xs ∧ acc.length ≤ i) ∧ (∀ (i : Nat) acc x s F T, xs[i]? = some x → F Dl = none → Pv i acc s F → F T = none → T ≠ Dl → LcTurn J Dl g tt te vs σ acc (.ref T) s (upd F T (.tup [.int (i : Int), x])) (Pv (i + 1))) ∧
      (∀ acc s F, F Dl = none → Pv xs.length acc s F → R (.ref Dl) s (upd F Dl (.lst acc)))) : EW J (tLc (iEnumT K ta) g tt te vs) σ s F R := fun H j Q q =>
  h H j _ fun v s1 F1 H1 j1 ⟨a, xs, e, l1, hz, k⟩ => ⟨a, xs, e, hd.sqT j1 l1, fun Dl hD => by
    have fD := hd.fresh j1 hD
    obtain ⟨Pv, h0, hl, hs, hdn⟩ := k Dl fD
    refine lc_it walk_enumT (fun i H => ∃ acc s F, i ≤ xs.length ∧ F Dl = none ∧ J s (upd F Dl (.lst acc)) H ∧ Pv i acc s F) ⟨[], s1, F1, Nat.zero_le _, fD, hd.al j1 hD, h0⟩ (fun i H' hi ⟨acc, s', F', _, f1, j', p⟩ => ?_) (fun i x H' H'' hi ⟨acc, s', F', hle, f1, j', p⟩ ⟨T, y, z, ex, hT, eH, e1, e2⟩ => ?_) (fun H' ⟨acc, s', F', _, f1, j', p⟩ => q _ _ _ _ j' (hdn acc s' F' f1 p))
    · refine hd.sqT j' ?_
      obtain ⟨f2, _⟩ := hl i acc s' F' hi f1 p
      exact Ex.sqT (Ex.out (Ex.refl _) f1) f2
    · subst ex eH
      cases e1
      obtain ⟨f2, f3⟩ := hl i acc s' F' hle f1 p
      have hT2 := hd.fresh j' hT
      have hne : T ≠ Dl := fun q => by rw [q, upd_same] at hT2; cases hT2
      have hT3 : F' T = none := by rw [upd_ne hne] at hT2; exact hT2
      have jd := (Hid.jd (D := Dl) (acc := acc) hd).al (s := s') (F := F') (H := H') (p := T) (o := .tup [.int (i : Int), z]) ⟨f1, j'⟩ hT
      exact lc_step hd (by omega) (hs i acc z s' F' T e2 f1 p hT3 hne) jd.1 jd.2 fun acc s F H fd j p => ⟨acc, s, F, by omega, fd, j, p⟩⟩
end
end Obr
namespace Obr
open PySem L2 PySem.Spec PyProof.Rows RZ
/-! ### zip of a tuple and a list -/
def ItM (K : PySem.W.Frag) (a b : Addr) : It where
  go := fun i H => ∃ (us vs : List V) (u v : V), SqT K H a us ∧ SqL K H b vs ∧ us[i]? = some u ∧ vs[i]? = some v
  yld := fun i H r H' => ∃ T u v, r = .ref T ∧ H T = none ∧ H' = upd H T (.tup [u, v]) ∧ (∀ us, SqT K H a us → us[i]? = some u) ∧ ∀ vs, SqL K H b vs → vs[i]? = some v
  stop := fun i H => ∃ us vs : List V, SqT K H a us ∧ SqL K H b vs ∧ i ≤ us.length ∧ i ≤ vs.length ∧ (i = us.length ∨ i = vs.length)
structure StM (z TI TO i1 i2 a b : Addr) (i : Nat) (h : Heap) : Prop where
  zz : IsZip h z TI TO .none
  ti : IsTupOf2 h TI (.ref i1) (.ref i2)
  to : ∃ u v, IsTupOf2 h TO u v
  one : h.IsTupleIter i1 a i
  two : h.IsListIter i2 b i
theorem five {α : Type} {c z TI TO i1 i2 : α} (h : c ∈ [z, TI, TO, i1, i2]) : c = z ∨ c = TI ∨ c = TO ∨ c = i1 ∨ c = i2 := by simpa using h
theorem turn_zipM {P : Program} {w : World} {K : PySem.W.Frag} {elts : List Expr} {kk : Nat} {tpos : Pos} {a b z TI TO i1 i2 : Addr} (D : ZipSep2 z TI TO i1 i2 [i1, a] [i2, b]) (ha : a ≠ i1) (hb : b ≠ i2) :
    Turn P w K (.Tuple elts kk tpos) (ItM K a b) [z, TI, TO, i1, i2] z (StM z TI TO i1 i2 a b) where
  mem := List.mem_cons_self
  obj := fun i h st c hc => by
    obtain ⟨u, v, hTO⟩ := st.to
    obtain ⟨o1, e1, _, d1⟩ := st.one
    obtain ⟨o2, e2, _, d2⟩ := st.two
    rcases five hc with rfl | rfl | rfl | rfl | rfl
    · exact ⟨_, st.zz, fun v q => nomatch q⟩
    · exact ⟨_, st.ti, fun v q => nomatch q⟩
    · exact ⟨_, hTO, fun v q => nomatch q⟩
    · exact ⟨o1, e1, fun v q => by rw [d1] at q; cases q⟩
    · exact ⟨o2, e2, fun v q => by rw [d2] at q; cases q⟩
  keep := fun i h h' st k => by
    obtain ⟨u, v, hTO⟩ := st.to
    exact ⟨k z (by simp) _ st.zz, k TI (by simp) _ st.ti, ⟨u, v, k TO (by simp) _ hTO⟩, st.one.at fun o q => k i1 (by simp) o q, st.two.at fun o q => k i2 (by simp) o q⟩
  item := by
    intro X hP hw hK hc i pins s σ H E I hf st hg
    subst hP hw hK
    obtain ⟨u0, v0, hTO⟩ := st.to
    obtain ⟨us, vs, u, v, hqu, hqv, hu, hv⟩ := hg
    obtain ⟨its, rv, p, _⟩ := I.tuple hqu
    obtain ⟨its2, rv2, p2, _⟩ := I.list hqv
    obtain ⟨y1, hy1, ry1⟩ := rv.get hu
    obtain ⟨y2, hy2, ry2⟩ := rv2.get hv
    have hzl : z < s.heap.objs.size := Heap.lt_size st.zz
    have n1 : i < its.toArray.size := by have := (List.getElem?_eq_some_iff.mp hy1).1; simpa using this
    have n2 : i < its2.toArray.size := by have := (List.getElem?_eq_some_iff.mp hy2).1; simpa using this
    refine wpAny_pyNext_zipD2_item D (Draws.tuple (A := X.A.in1) (I.ok.hd hc) i1 a ha its.toArray) (Draws.list (A := X.A.in1) (I.ok.hd hc) i2 b hb its2.toArray) st.zz st.ti hTO ⟨st.one, p⟩ ⟨st.two, p2.isList⟩ n1 n2 fun x1 x2 h' tk hx1 hx2 z' TO' s1 s2 hT hsz hk => ?_
    have ex1 : x1 = y1 := by
      have q : its[i]? = some x1 := by simpa using hx1
      rw [hy1] at q
      exact (Option.some.inj q).symm
    have ex2 : x2 = y2 := by
      have q : its2[i]? = some x2 := by simpa using hx2
      rw [hy2] at q
      exact (Option.some.inj q).symm
    subst ex1 ex2
    refine ⟨_, rfl, wpAny_letOwnedTupleGo_zip (s := { s with heap := h', toks := tk }) z' fun h'' z'' sb => ?_⟩
    have hT2 : h''.get? s.heap.objs.size = some { cls := .type "tuple", data := .seq #[x1, x2] } := (sb.2 _ (Nat.ne_of_gt hzl)).trans hT
    have new : ObjOk X.prog X.w (upd H s.heap.objs.size (.tup [u, v])) h'' s.heap.objs.size (.tup [u, v]) := ⟨by show 2 ≤ sizeLine; decide, [x1, x2], .cons ry1 (.cons ry2 .nil), ⟨_, hT2, rfl, _, rfl⟩⟩
    have I1 : Inv X pins σ (upd H s.heap.objs.size (.tup [u, v])) { s with heap := h'', toks := tk } :=
      I.turnedNew (t' := tk) (ch := [z, TI, TO, i1, i2]) (fun c o hn q => (sb.2 c (fun e => hn (by simp [e]))).trans (hk c o (fun e => hn (by simp [e])) (fun e => hn (by simp [e])) (fun e => hn (by simp [e])) (fun e => hn (by simp [e])) q)) hf (Nat.le_refl _) new
    have lt : ∀ c ∈ [z, TI, TO, i1, i2], c < s.heap.objs.size := fun c hcm => by
      obtain ⟨o1, e1, _⟩ := st.one
      obtain ⟨o2, e2, _⟩ := st.two
      rcases five hcm with rfl | rfl | rfl | rfl | rfl
      · exact hzl
      · exact Heap.lt_size st.ti
      · exact Heap.lt_size hTO
      · exact Heap.lt_size e1
      · exact Heap.lt_size e2
    refine ⟨.ref s.heap.objs.size, _, I1, rfl, ⟨_, u, v, rfl, I.hok.fresh (Nat.le_refl _), rfl, fun l hl => by rw [I.tuple_inj hl hqu]; exact hu, fun l hl => by rw [I.list_inj hl hqv]; exact hv⟩, ⟨z'', ?_, ⟨x1, x2, ?_⟩, ?_, ?_⟩, fun c hcm => ?_⟩
    · exact (sb.2 _ D.TIz).trans (hk _ _ D.TIz D.TITO D.TIi1 D.TIi2 st.ti)
    · exact (sb.2 _ D.TOz).trans TO'
    · exact s1.1.at fun o q => (sb.2 _ (fun e => D.zi1 e.symm)).trans q
    · exact s2.1.at fun o q => (sb.2 _ (fun e => D.zi2 e.symm)).trans q
    · rw [upd_ne (Nat.ne_of_lt (lt c hcm))]
      exact (hf c hcm).1
  done := by
    intro X hP hw hK hc i pins s σ H E I hf st hg
    subst hP hw hK
    obtain ⟨u0, v0, hTO⟩ := st.to
    obtain ⟨us, vs, hqu, hqv, hle1, hle2, hend⟩ := hg
    obtain ⟨its, rv, p, _⟩ := I.tuple hqu
    obtain ⟨its2, rv2, p2, _⟩ := I.list hqv
    have l1 := rv.length
    have l2 := rv2.length
    refine wpAny_pyNext_zipD2_end D (Draws.tuple (A := X.A.in1) (I.ok.hd hc) i1 a ha its.toArray) (Draws.list (A := X.A.in1) (I.ok.hd hc) i2 b hb its2.toArray) st.zz st.ti hTO ⟨st.one, p⟩ ⟨st.two, p2.isList⟩ (by simp; omega) (by simp; omega) (by simp; omega) fun h' tk hk => ?_
    exact ⟨rfl, I.turnedL (t' := tk) (ch := [z, TI, TO, i1, i2]) (fun c o hn q => hk c o (fun e => hn (by simp [e])) (fun e => hn (by simp [e])) (fun e => hn (by simp [e])) (fun e => hn (by simp [e])) q) hf⟩
  self := fun A i s Q E st h => wpAny_pyIter_zip st.zz h
def iZipM (K : PySem.W.Frag) (ta : TA) : TI := fun σ H R => ta σ H fun vs H1 => ∃ a b xs ys, vs = [.ref a, .ref b] ∧ SqT K H1 a xs ∧ SqL K H1 b ys ∧ R (ItM K a b) H1
theorem pi_zipM {X : Cx} {e e2 : Expr} {ta : TA} {p pos tpos : Pos} {elts : List Expr} {kk : Nat} (hg : Gl X "zip") (hm : X.mg "zip" = none) (ha : PA X [e, e2] ta)
    (hs : starEach [e, e2] X.env = (false, eval e X.env) :: starEach [e2] X.env := by rfl) (hpl : (backTo pos (starEach [e2] X.env)).any (·.1) = false := by rfl) :
    PI X (.Tuple elts kk tpos) (.Call (.Name "zip" p) [e, e2] [] pos) (iZipM X.K ta) := by
  refine ⟨fun pins s σ H R I h => ?_⟩
  refine Call_ (ld_blt I hg hm PyProof.Rows.boot_zip (PyProof.Rows.callWith_type1 (thn (ha.run pos pins s σ H _ I h) fun us s1 ⟨vs, H1, I1, r1, q1⟩ => ?_) hs hpl))
  obtain ⟨a, b, xs, ys, ex, hqx, hqy, q⟩ := q1
  subst ex
  cases r1 with
  | cons r rr =>
    cases rr with
    | cons r' rr =>
      cases rr
      cases r
      cases r'
      obtain ⟨its, rv, p1, _⟩ := I1.tuple hqx
      obtain ⟨its2, rv2, p2, _⟩ := I1.list hqy
      have la : a < s1.heap.objs.size := by
        obtain ⟨o1, ho1, _⟩ := id p1
        exact Heap.lt_size ho1
      have lb : b < s1.heap.objs.size := p2.lt
      refine zip_begins2 (begins_tuple a its.toArray) (begins_list b its2.toArray) p1 p2.isList fun h' hz hTI hTO h1 h2 hsz hk => wpAny_pyIter_zip hz ?_
      have I2 : Inv X pins σ H1 { s1 with heap := h' } := I1.kept (t' := s1.toks) hk
      have D := zip_sep2 (N := s1.heap.objs.size) (fp1 := [a]) (fp2 := [b]) (fun c hc => by rw [List.mem_singleton.mp hc]; exact la) (fun c hc => by rw [List.mem_singleton.mp hc]; exact lb)
      have ne1 : a ≠ s1.heap.objs.size := Nat.ne_of_lt la
      have ne2 : b ≠ s1.heap.objs.size + 1 := Nat.ne_of_lt (Nat.lt_succ_of_lt lb)
      refine ⟨s1.heap.objs.size + 4, [s1.heap.objs.size + 4, s1.heap.objs.size + 2, s1.heap.objs.size + 3, s1.heap.objs.size, s1.heap.objs.size + 1], _, _, H1, rfl, I2, turn_zipM D ne1 ne2, ⟨hz, hTI, ⟨_, _, hTO⟩, ⟨_, h1, rfl, rfl⟩, ⟨_, h2, rfl, rfl⟩⟩, fun c hcm => ?_, q⟩
      have hle : s1.heap.objs.size ≤ c := by
        rcases five hcm with rfl | rfl | rfl | rfl | rfl
        · exact Nat.le_add_right _ _
        · exact Nat.le_add_right _ _
        · exact Nat.le_add_right _ _
        · exact Nat.le_refl _
        · exact Nat.le_add_right _ _
      exact I1.fpOk hle (I1.hok.fresh hle)
theorem walk_zipM {K : PySem.W.Frag} {a b : Addr} {xs ys : List V} {n : Nat} (hn : n = min xs.length ys.length) : Walk (ItM K a b) n (fun H => SqT K H a xs ∧ SqL K H b ys) (YPair (fun i => xs[i]?) (fun i => ys[i]?)) := by
  subst hn
  refine ⟨fun i _ hi q => ?_, fun _ q => ⟨xs, ys, q.1, q.2, by omega, by omega, by omega⟩, fun i H v H' _ q y => ?_⟩
  · have c1 : i < xs.length := by omega
    have c2 : i < ys.length := by omega
    exact ⟨xs, ys, _, _, q.1, q.2, List.getElem?_eq_getElem c1, List.getElem?_eq_getElem c2⟩
  · obtain ⟨T, x, y', h1, h2, h3, h4, h5⟩ := y
    exact ⟨T, x, y', h1, h2, h3, h4 xs q.1, h5 ys q.2⟩
theorem walk_zipT {K : PySem.W.Frag} {a b : Addr} {xs ys : List V} {n : Nat} (hn : n = min xs.length ys.length) : Walk (ItzT K a b) n (fun H => SqT K H a xs ∧ SqT K H b ys) (YPair (fun i => xs[i]?) (fun i => ys[i]?)) := by
  subst hn
  refine ⟨fun i _ hi q => ?_, fun _ q => ⟨xs, ys, q.1, q.2, by omega⟩, fun i H v H' _ q y => ?_⟩
  · have c1 : i < xs.length := by omega
    have c2 : i < ys.length := by omega
    exact ⟨xs, ys, _, _, q.1, q.2, List.getElem?_eq_getElem c1, List.getElem?_eq_getElem c2⟩
  · obtain ⟨T, x, y', h1, h2, h3, h4, h5⟩ := y
    exact ⟨T, x, y', h1, h2, h3, h4 xs q.1, h5 ys q.2⟩
section
variable {S : Type} {J : S → Hp → Hp → Prop} {K : PySem.W.Frag} {σ : L2.St} {s : S} {F : Hp} {R : V → S → Hp → Prop} {te : TE} {tt : TT} {g : TG} {ta : TA} {vs : List Nat}
/-- what a comprehension over a zip of xs and ys asks -/
def ZipAsk (J : S → Hp → Hp → Prop) (g : TG) (tt : TT) (te : TE) (vs : List Nat) (σ : L2.St) (xs ys : List V) (R : V → S → Hp → Prop) (s1 : S) (F1 : Hp) (st : Hp → Prop) : Prop :=
  xs.length = ys.length ∧ xs.length ≤ 100000 ∧ ∀ Dl, F1 Dl = none → ∃ Pv : Nat → List V → S → Hp → Prop, Pv 0 [] s1 F1 ∧
      (∀ i acc s F, i ≤ xs.length → F Dl = none → Pv i acc s F → st F ∧ acc.length ≤ i) ∧ (∀ (i : Nat) acc x y s F T, xs[i]? = some x → ys[i]? = some y → F Dl = none → Pv i acc s F → F T = none → T ≠ Dl → LcTurn J Dl g tt te vs σ acc (.ref T) s (upd F T (.tup [x, y])) (Pv (i + 1))) ∧
      (∀ acc s F, F Dl = none → Pv xs.length acc s F → R (.ref Dl) s (upd F Dl (.lst acc)))
theorem ew_lcZM (hd : Hid J) (h : AW J ta σ s F fun ws s1 F1 => ∃ a b xs ys, ws = [.ref a, .ref b] ∧ SqT K F1 a xs ∧ SqL K F1 b ys ∧ ZipAsk J g tt te vs σ xs ys R s1 F1 (fun G => SqT K G a xs ∧ SqL K G b ys)) : EW J (tLc (iZipM K ta) g tt te vs) σ s F R := fun H j Q q =>
  h H j _ fun v s1 F1 H1 j1 ⟨a, b, xs, ys, e, l1, l2, hlen, hz, k⟩ => ⟨a, b, xs, ys, e, hd.sqT j1 l1, hd.sqL j1 l2, fun Dl hD => by
    have fD := hd.fresh j1 hD
    obtain ⟨Pv, h0, hl, hs, hdn⟩ := k Dl fD
    refine lc_it (walk_zipM (xs := xs) (ys := ys) (n := xs.length) (by rw [← hlen, Nat.min_self])) (fun i H => ∃ acc s F, i ≤ xs.length ∧ F Dl = none ∧ J s (upd F Dl (.lst acc)) H ∧ Pv i acc s F) ⟨[], s1, F1, Nat.zero_le _, fD, hd.al j1 hD, h0⟩ (fun i H' hi ⟨acc, s', F', _, f1, j', p⟩ => ?_) (fun i x H' H'' hi ⟨acc, s', F', hle, f1, j', p⟩ ⟨T, y, z, ex, hT, eH, e1, e2⟩ => ?_) (fun H' ⟨acc, s', F', _, f1, j', p⟩ => q _ _ _ _ j' (hdn acc s' F' f1 p))
    · obtain ⟨⟨c1, c2⟩, _⟩ := hl i acc s' F' hi f1 p
      exact ⟨hd.sqT j' (Ex.sqT (Ex.out (Ex.refl _) f1) c1), hd.sqL j' (Ex.sqL (Ex.out (Ex.refl _) f1) c2)⟩
    · subst ex eH
      obtain ⟨_, f3⟩ := hl i acc s' F' hle f1 p
      have hT2 := hd.fresh j' hT
      have hne : T ≠ Dl := fun q => by rw [q, upd_same] at hT2; cases hT2
      have hT3 : F' T = none := by rw [upd_ne hne] at hT2; exact hT2
      have jd := (Hid.jd (D := Dl) (acc := acc) hd).al (s := s') (F := F') (H := H') (p := T) (o := .tup [y, z]) ⟨f1, j'⟩ hT
      exact lc_step hd (by omega) (hs i acc y z s' F' T e1 e2 f1 p hT3 hne) jd.1 jd.2 fun acc s F H fd j p => ⟨acc, s, F, by omega, fd, j, p⟩⟩
theorem ew_lcZT (hd : Hid J) (h : AW J ta σ s F fun ws s1 F1 => ∃ a b xs ys, ws = [.ref a, .ref b] ∧ SqT K F1 a xs ∧ SqT K F1 b ys ∧ ZipAsk J g tt te vs σ xs ys R s1 F1 (fun G => SqT K G a xs ∧ SqT K G b ys)) : EW J (tLc (iZipA K ta) g tt te vs) σ s F R := fun H j Q q =>
  h H j _ fun v s1 F1 H1 j1 ⟨a, b, xs, ys, e, l1, l2, hlen, hz, k⟩ => ⟨a, b, xs, ys, e, Or.inr ⟨hd.sqT j1 l1, hd.sqT j1 l2, fun Dl hD => by
    have fD := hd.fresh j1 hD
    obtain ⟨Pv, h0, hl, hs, hdn⟩ := k Dl fD
    refine lc_it (walk_zipT (xs := xs) (ys := ys) (n := xs.length) (by rw [← hlen, Nat.min_self])) (fun i H => ∃ acc s F, i ≤ xs.length ∧ F Dl = none ∧ J s (upd F Dl (.lst acc)) H ∧ Pv i acc s F) ⟨[], s1, F1, Nat.zero_le _, fD, hd.al j1 hD, h0⟩ (fun i H' hi ⟨acc, s', F', _, f1, j', p⟩ => ?_) (fun i x H' H'' hi ⟨acc, s', F', hle, f1, j', p⟩ ⟨T, y, z, ex, hT, eH, e1, e2⟩ => ?_) (fun H' ⟨acc, s', F', _, f1, j', p⟩ => q _ _ _ _ j' (hdn acc s' F' f1 p))
    · obtain ⟨⟨c1, c2⟩, _⟩ := hl i acc s' F' hi f1 p
      exact ⟨hd.sqT j' (Ex.sqT (Ex.out (Ex.refl _) f1) c1), hd.sqT j' (Ex.sqT (Ex.out (Ex.refl _) f1) c2)⟩
    · subst ex eH
      obtain ⟨_, f3⟩ := hl i acc s' F' hle f1 p
      have hT2 := hd.fresh j' hT
      have hne : T ≠ Dl := fun q => by rw [q, upd_same] at hT2; cases hT2
      have hT3 : F' T = none := by rw [upd_ne hne] at hT2; exact hT2
      have jd := (Hid.jd (D := Dl) (acc := acc) hd).al (s := s') (F := F') (H := H') (p := T) (o := .tup [y, z]) ⟨f1, j'⟩ hT
      exact lc_step hd (by omega) (hs i acc y z s' F' T e1 e2 f1 p hT3 hne) jd.1 jd.2 fun acc s F H fd j p => ⟨acc, s, F, by omega, fd, j, p⟩⟩⟩
end
end Obr
/-! ### itertools.permutations of range(n), n at most five -/
namespace Obp
open PySem PyProof.Rows
theorem slot_next : Slot "itertools.permutations" "__next__" "itertools.permutations.__next__" :=
  .of (owner := "itertools.permutations") (n := "__next__") (by rw [typeLookup_type, builtinLookup_eq_fast]; kernel_rfl) (by decide +kernel) (by decide +kernel) (by decide +kernel)
    (by first | exact .inl (by decide +kernel) | exact .inr (by decide +kernel)) (by rw [isSubtype_type]; kernel_rfl)
theorem entry_next : entryFor table "itertools.permutations.__next__" = some Builtin.«itertools.permutations.__next__» := entryFor_of_tree (by kernel_rfl)
theorem args_next (a : Value) : argsOk "itertools.permutations.__next__" ⟨[a], []⟩ := by unfold argsOk; kernel_rfl
theorem slot_iter : Slot "itertools.permutations" "__iter__" "itertools.permutations.__iter__" :=
  .of (owner := "itertools.permutations") (n := "__iter__") (by rw [typeLookup_type, builtinLookup_eq_fast]; kernel_rfl) (by decide +kernel) (by decide +kernel) (by decide +kernel)
    (by first | exact .inl (by decide +kernel) | exact .inr (by decide +kernel)) (by rw [isSubtype_type]; kernel_rfl)
theorem entry_iter : entryFor table "itertools.permutations.__iter__" = some Builtin.«dict_keyiterator.__iter__» :=
  entryFor_alias (id' := "dict_keyiterator.__iter__") (by kernel_rfl) (by first | rfl | decide +kernel | (unfold String.splitOn; simp +decide [String.splitOnAux])) (by decide +kernel) (by kernel_rfl)
theorem args_iter (a : Value) : argsOk "itertools.permutations.__iter__" ⟨[a], []⟩ := by unfold argsOk; kernel_rfl
theorem mro_p : mroOf (.type "itertools.permutations") = pure [.type "itertools.permutations", .type "object"] := by rw [mroOf_type]; kernel_rfl
theorem lookup_new : typeLookup (.type "itertools.permutations") "__new__" = pure (some (.builtin "itertools.permutations.__new__")) := by rw [typeLookup_type, builtinLookup_eq_fast]; kernel_rfl
theorem slot_init : Slot "itertools.permutations" "__init__" "object.__init__" :=
  .of (owner := "object") (n := "__init__") (by rw [typeLookup_type, builtinLookup_eq_fast]; kernel_rfl) (by decide +kernel) (by decide +kernel) (by decide +kernel)
    (by first | exact .inl (by decide +kernel) | exact .inr (by decide +kernel)) (by rw [isSubtype_type]; kernel_rfl)
theorem called_p : TypeCalled "itertools.permutations" "itertools.permutations.__new__" "object.__init__" :=
  ⟨by decide +kernel, by decide +kernel, ⟨_, _, mro_p⟩, madeBy_type mro_p lookup_new (by decide +kernel), by decide +kernel, by rw [isSubtype_type]; kernel_rfl, slot_init⟩
theorem typeCall_p (a : Value) : checkTypeCall "itertools.permutations" ⟨[a], []⟩ = pure () := by kernel_rfl
theorem newCall_p (a : Value) : checkBuiltinCall "itertools.permutations.__new__" ⟨[.type "itertools.permutations", a], []⟩ = pure () := by kernel_rfl
theorem entry_new : entryFor table "itertools.permutations.__new__" = some Builtin.«itertools.permutations.__new__» := entryFor_of_tree (by kernel_rfl)
end Obp
namespace Obp
open PySem PyProof.Rows
/-! the numbers that it keeps, turn by turn -/
/-- the arrangements of these, as lists go -/
def ordF : Nat → List Nat → List (List Nat)
  | 0, _ => [[]]
  | k + 1, l => l.flatMap fun a => (ordF k (l.filter fun b => !Nat.beq b a)).map fun r => a :: r
def permL (n : Nat) : List (List Nat) := ordF n (List.range n)
def facN : Nat → Nat
  | 0 => 1
  | k + 1 => (k + 1) * facN k
def idxP (n i : Nat) : List Nat := (permL n).getD i []
def cycP (n i : Nat) : List Nat := (List.range n).map fun j => (n - j) - (i / facN (n - 1 - j)) % (n - j)
def numP (n i : Nat) : List Nat := idxP n (i - 1) ++ cycP n (i - 1)
/-- the record at it, ahead of turn i -/
structure IsPm (h : Heap) (it pa : Addr) (n i : Nat) : Prop where
  at_ : ∃ before : Value, h.get? it = some { cls := .type "itertools.permutations", data := .fields (#[.ref pa, rawInt (if i = 0 then 0 else 1), rawInt (n : Nat), before] ++ ((numP n i).map fun (k : Nat) => rawInt k).toArray) }
section
variable {prog : Program} {w : World} {A : Around} {E : Value → Shared → Prop} {s : Shared}
theorem nums_read {f : Value → Nat} (hf : ∀ k : Nat, f (rawInt (k : Nat)) = k) (n i : Nat) (a b c d : Value) : ((#[a, b, c, d] ++ ((numP n i).map fun (k : Nat) => rawInt k).toArray).toList.drop 4).map f = numP n i := by
  have e : ((#[a, b, c, d] ++ ((numP n i).map fun (k : Nat) => rawInt k).toArray).toList.drop 4) = (numP n i).map fun (k : Nat) => rawInt k := by
    simp
  rw [e, List.map_map]
  conv => rhs; rw [← List.map_id (numP n i)]
  exact List.map_congr_left fun x _ => hf x
theorem get3 {a b c d : Value} {nx : Array Value} : (#[a, b, c, d] ++ nx)[3]? = some d := by rw [Array.getElem?_append_left (show 3 < 4 by decide)]; rfl
theorem lt3 {a b c d : Value} {nx : Array Value} {k : Nat} (h : k < 4) : k < (#[a, b, c, d] ++ nx).size := by simp; omega
abbrev pmO (pa : Addr) (st : Int) (n : Nat) (before : Value) (nx : Array Value) : Obj := { cls := .type "itertools.permutations", data := .fields (#[.ref pa, rawInt st, rawInt (n : Nat), before] ++ nx) }
theorem result_ok {it pa : Addr} {st : Int} {n : Nat} {before : Value} {nx : Array Value} {xs : List Value} {K : Fin → Shared → Prop} (hr : s.heap.get? it = some (pmO pa st n before nx)) (hz : xs.length ≤ sizeLine)
    (hK : ∀ h', h'.get? it = some (pmO pa st n (.ref s.heap.objs.size) nx) → h'.get? s.heap.objs.size = some { cls := .type "tuple", data := .seq xs.toArray } →
      (∀ b o, b ≠ it → s.heap.get? b = some o → h'.get? b = some o) → h'.objs.size = s.heap.objs.size + 1 → K (.done (.ret (.ref s.heap.objs.size))) { s with heap := h' }) :
    wpAny (model prog w) A (do
      let t ← newTuple xs
      let before ← field (.ref it) 3
      setField (.ref it) 3 t
      letGo [before] [t]
      ret t) K E s := by
  refine wpAny_bind (wpAny_newTuple ?_ hz)
  have hlt := Heap.lt_size hr
  have hr1 : (s.heap.push { cls := .type "tuple", data := .seq xs.toArray }).get? it = some (pmO pa st n before nx) := Heap.get?_push_of_some _ hr
  refine wpAny_bind (wpAny_field hr1 rfl (x := before) get3 ?_)
  refine wpAny_bind (wpAny_setField_rec hr1 (lt3 (by decide)) fun h' e1 sb => ?_)
  refine wpAny_bind (wpAny_letGo ?_)
  have hne : s.heap.objs.size ≠ it := Nat.ne_of_gt hlt
  refine wpAny_pure (hK h' ?_ ?_ ?_ ?_)
  · rw [e1]
    simp [pmO]
  · rw [sb.2 _ hne]; exact Heap.get?_push_size _ rfl
  · intro b o hb e
    rw [sb.2 _ hb]; exact Heap.get?_push_of_some _ e
  · rw [sb.1]; exact Heap.size_push _ _
theorem idx_len {n i : Nat} (h5 : n ≤ 5) (hi : i < facN n) : (idxP n i).length = n := by
  revert i
  match n, h5 with
  | 0, _ => decide +kernel
  | 1, _ => decide +kernel
  | 2, _ => decide +kernel
  | 3, _ => decide +kernel
  | 4, _ => decide +kernel
  | 5, _ => decide +kernel
  | k + 6, h => omega
theorem idx_lt {n i : Nat} (h5 : n ≤ 5) (hi : i < facN n) : ∀ k ∈ idxP n i, k < n := by
  revert i
  match n, h5 with
  | 0, _ => decide +kernel
  | 1, _ => decide +kernel
  | 2, _ => decide +kernel
  | 3, _ => decide +kernel
  | 4, _ => decide +kernel
  | 5, _ => decide +kernel
  | k + 6, h => omega
theorem numP_take {n i : Nat} (h5 : n ≤ 5) (hi : i - 1 < facN n) : (numP n i).take n = idxP n (i - 1) := by
  unfold numP
  rw [List.take_append_of_le_length (by rw [idx_len h5 hi]; exact Nat.le_refl _), List.take_of_length_le (by rw [idx_len h5 hi]; exact Nat.le_refl _)]
theorem numP_drop {n i : Nat} (h5 : n ≤ 5) (hi : i - 1 < facN n) : (numP n i).drop n = cycP n (i - 1) := by
  unfold numP
  rw [List.drop_append_of_le_length (by rw [idx_len h5 hi]; exact Nat.le_refl _), List.drop_of_length_le (by rw [idx_len h5 hi]; exact Nat.le_refl _), List.nil_append]
/-- what comes next, as the numbers say -/
def nxtP (n i : Nat) : Option (List Nat × List Nat) := if i < facN n then some (idxP n i, cycP n i) else none
theorem next_item {it pa : Addr} {items : Array Value} {n i : Nat} {Q : Option Value → Shared → Prop} (hp : IsPm s.heap it pa n i) (ht : s.heap.IsTuple pa items) (hn : items.size = n) (h5 : n ≤ 5) (hi : i < facN n) (hne : pa ≠ it)
    (hQ : ∀ h', IsPm h' it pa n (i + 1) → h'.get? s.heap.objs.size = some { cls := .type "tuple", data := .seq ((idxP n i).map fun k => items.getD k .none).toArray } →
      (∀ b o, b ≠ it → s.heap.get? b = some o → h'.get? b = some o) → h'.objs.size = s.heap.objs.size + 1 → Q (some (.ref s.heap.objs.size)) { s with heap := h' }) :
    wpAny (model prog w) A (pyNext (.ref it)) Q E s := by
  obtain ⟨before, hr⟩ := hp.at_
  have hT : s.TypeIs (.ref it) "itertools.permutations" := ⟨_, hr, rfl⟩
  obtain ⟨o, ho, hcls, nn, hdat⟩ := ht
  unfold pyNext
  refine wpAny_bind (wpAny_attempt (wpAny_callSpecial?_slot (name := Str.ofString "__next__") hT slot_next (wpAny_call_entry slot_next hT entry_next ?_ (args_next _))))
  show wpAny _ _ (field (.ref it) 0 >>= _) _ _ _
  refine wpAny_bind (wpAny_field hr rfl (x := .ref pa) (by simp) ?_)
  refine wpAny_bind ?_
  show wpAny _ _ (seqItems? (.ref pa) >>= _) _ _ _
  refine wpAny_bind (wpAny_seqItems ho hdat ?_)
  refine wpAny_pure ?_
  refine wpAny_bind ?_
  show wpAny _ _ (field (.ref it) 2 >>= _) _ _ _
  refine wpAny_bind (wpAny_field hr rfl (x := rawInt (n : Nat)) (by simp) ?_)
  refine wpAny_pure ?_
  refine wpAny_bind ?_
  show wpAny _ _ (load it >>= _) _ _ _
  refine wpAny_bind (wpAny_load hr ?_)
  refine wpAny_pure ?_
  rw [nums_read (fun k => Int.toNat_natCast k)]
  show wpAny _ _ (Builtin.Itertools.itIntField (.ref it) 1 >>= _) _ _ _
  refine wpAny_bind ?_
  show wpAny _ _ (field (.ref it) 1 >>= _) _ _ _
  refine wpAny_bind (wpAny_field hr rfl (x := rawInt (if i = 0 then 0 else 1)) (by simp) ?_)
  refine wpAny_pure ?_
  by_cases hi0 : i = 0
  · subst hi0
    rw [if_pos rfl]
    split
    · refine wpAny_bind (wpAny_setField_rec hr (lt3 (by decide)) fun h1 e1 sb => ?_)
      have hr1 : h1.get? it = some (pmO pa 1 n before ((numP n 0).map fun (k : Nat) => rawInt k).toArray) := by
        rw [e1]; simp [pmO]
      have hsz : h1.objs.size = s.heap.objs.size := sb.1
      refine result_ok (s := { s with heap := h1 }) hr1 ?_ fun h' a1 a2 a3 a4 => ?_
      · rw [List.length_map, List.length_take, sizeLine_eq]; omega
      · refine ⟨_, rfl, wpAny_pure ?_⟩
        dsimp only at a1 a2 a3 a4 ⊢
        rw [hsz] at a1 a2 a4 ⊢
        refine hQ h' ⟨_, a1⟩ ?_ (fun b o hb e => a3 b o hb (by rw [sb.2 b hb]; exact e)) a4
        rw [a2, Int.toNat_natCast, numP_take (i := 0) h5 hi]
    · rename_i h0
      exact absurd h0 (by decide)
    · rename_i h0 _
      exact absurd rfl h0
  · rw [if_neg hi0]
    split
    · rename_i h0
      exact absurd h0 (by decide)
    · split
      · rename_i a b he
        rw [hn, Int.toNat_natCast] at he
        have hkey : nxtP n i = some (a, b) := by
          rw [← he]
          clear he hQ hp hr hT hn
          revert i
          match n, h5 with
          | 0, _ => decide +kernel
          | 1, _ => decide +kernel
          | 2, _ => decide +kernel
          | 3, _ => decide +kernel
          | 4, _ => decide +kernel
          | 5, _ => decide +kernel
          | k + 6, h => omega
        unfold nxtP at hkey
        rw [if_pos hi] at hkey
        obtain ⟨rfl, rfl⟩ : idxP n i = a ∧ cycP n i = b := by
          have := Option.some.inj hkey
          exact ⟨congrArg Prod.fst this, congrArg Prod.snd this⟩
        have hlen := idx_len h5 hi
        have hcl : (cycP n i).length = n := by unfold cycP; rw [List.length_map, List.length_range]
        refine wpAny_bind ?_
        show wpAny _ _ (updateFields it _) _ _ _
        rw [if_neg hi0] at hr
        refine wpAny_updateFields hr rfl ?_ ?_
        · have sb : Heap.SameBut it s.heap (s.heap.update it (Obj.mapFields fun fs => fs.extract 0 4 ++ ((idxP n i ++ cycP n i).map fun (k : Nat) => rawInt k).toArray)) := Heap.SameBut.update ..
          have hr1 : (s.heap.update it (Obj.mapFields fun fs => fs.extract 0 4 ++ ((idxP n i ++ cycP n i).map fun (k : Nat) => rawInt k).toArray)).get? it = some (pmO pa 1 n before ((numP n (i + 1)).map fun (k : Nat) => rawInt k).toArray) := by
            rw [Heap.get?_update_self _ hr rfl]
            simp [Obj.mapFields, numP]
          refine result_ok (s := { s with heap := _ }) hr1 ?_ fun h' a1 a2 a3 a4 => ?_
          · rw [List.length_map, List.length_take, sizeLine_eq]; omega
          · refine ⟨_, rfl, wpAny_pure ?_⟩
            dsimp only at a1 a2 a3 a4 ⊢
            rw [sb.1] at a1 a2 a4 ⊢
            refine hQ h' ⟨.ref s.heap.objs.size, ?_⟩ ?_ (fun b o hb e => a3 b o hb (by rw [sb.2 b hb]; exact e)) a4
            · rw [a1]
              simp
            · rw [a2, Int.toNat_natCast, List.take_of_length_le (by rw [hlen]; exact Nat.le_refl _)]
        · simp
          rw [sizeLine_eq]
          omega
      · rename_i he
        exfalso
        rw [hn, Int.toNat_natCast] at he
        have hkey : nxtP n i = none := by
          rw [← he]
          clear he hQ hp hr hT hn
          revert i
          match n, h5 with
          | 0, _ => decide +kernel
          | 1, _ => decide +kernel
          | 2, _ => decide +kernel
          | 3, _ => decide +kernel
          | 4, _ => decide +kernel
          | 5, _ => decide +kernel
          | k + 6, h => omega
        unfold nxtP at hkey
        rw [if_pos hi] at hkey
        cases hkey
    · rename_i h0
      exact absurd rfl h0
/-- the end of it -/
theorem next_end {it pa : Addr} {items : Array Value} {n : Nat} {Q : Option Value → Shared → Prop} (hh : A.handled = none) (hp : IsPm s.heap it pa n (facN n)) (ht : s.heap.IsTuple pa items) (hn : items.size = n) (h5 : n ≤ 5)
    (hQ : ∀ h', (∀ b o, b ≠ it → s.heap.get? b = some o → h'.get? b = some o) → Q none { s with heap := h' }) :
    wpAny (model prog w) A (pyNext (.ref it)) Q E s := by
  obtain ⟨before, hr⟩ := hp.at_
  have hT : s.TypeIs (.ref it) "itertools.permutations" := ⟨_, hr, rfl⟩
  obtain ⟨o, ho, hcls, nn, hdat⟩ := ht
  have hf0 : facN n ≠ 0 := by
    match n, h5 with
    | 0, _ => decide
    | 1, _ => decide
    | 2, _ => decide
    | 3, _ => decide
    | 4, _ => decide
    | 5, _ => decide
    | k + 6, h => omega
  unfold pyNext
  refine wpAny_bind (wpAny_attempt (wpAny_callSpecial?_slot (name := Str.ofString "__next__") hT slot_next (wpAny_call_entry slot_next hT entry_next ?_ (args_next _))))
  show wpAny _ _ (field (.ref it) 0 >>= _) _ _ _
  refine wpAny_bind (wpAny_field hr rfl (x := .ref pa) (by simp) ?_)
  refine wpAny_bind ?_
  show wpAny _ _ (seqItems? (.ref pa) >>= _) _ _ _
  refine wpAny_bind (wpAny_seqItems ho hdat ?_)
  refine wpAny_pure ?_
  refine wpAny_bind ?_
  show wpAny _ _ (field (.ref it) 2 >>= _) _ _ _
  refine wpAny_bind (wpAny_field hr rfl (x := rawInt (n : Nat)) (by simp) ?_)
  refine wpAny_pure ?_
  refine wpAny_bind ?_
  show wpAny _ _ (load it >>= _) _ _ _
  refine wpAny_bind (wpAny_load hr ?_)
  refine wpAny_pure ?_
  rw [nums_read (fun k => Int.toNat_natCast k)]
  show wpAny _ _ (Builtin.Itertools.itIntField (.ref it) 1 >>= _) _ _ _
  refine wpAny_bind ?_
  show wpAny _ _ (field (.ref it) 1 >>= _) _ _ _
  refine wpAny_bind (wpAny_field hr rfl (x := rawInt (if facN n = 0 then 0 else 1)) (by simp) ?_)
  refine wpAny_pure ?_
  rw [if_neg hf0]
  split
  · rename_i h0
    exact absurd h0 (by decide)
  · split
    · rename_i a b he
      exfalso
      rw [hn, Int.toNat_natCast] at he
      have hkey : (none : Option (List Nat × List Nat)) = some (a, b) := by
        rw [← he]
        clear he hQ hp hr hT hn hf0
        match n, h5 with
        | 0, _ => decide +kernel
        | 1, _ => decide +kernel
        | 2, _ => decide +kernel
        | 3, _ => decide +kernel
        | 4, _ => decide +kernel
        | 5, _ => decide +kernel
        | k + 6, h => omega
      cases hkey
    · refine wpAny_bind (wpAny_setField_rec hr (lt3 (by decide)) fun h1 e1 sb => ?_)
      show wpAny _ _ (newExc (.type "StopIteration") [] >>= _) _ _ _
      refine wpAny_bind ?_
      simp only [newExc, newTuple]
      refine wpAny_bind (wpAny_newObj_type ?_ (by size_fits))
      refine wpAny_bind (m := firstArgMember _ _) (wpAny_of_eq (a := Value.none) (by first | rfl | (simp only [firstArgMember]; rfl)) ?_)
      refine wpAny_newObj_type ?_ (by size_fits)
      simp only [raiseNew]
      refine wpAny_bind (wpAny_handled ?_)
      first | rw [show A.in1.handled = none from hh] | rw [hh]
      refine wpAny_bind (wpAny_pure (wpAny_throw ?_))
      refine wpAny_bind (wpAny_isInstance (T := "StopIteration") (b := true) ⟨_, Heap.get?_push_size _ rfl, rfl⟩ isSubtype_stop ?_)
      exact wpAny_pure (hQ _ ((sb.extBut.push _).push _))
  · rename_i h0
    exact absurd rfl h0
end
end Obp
namespace Obp
open PySem PyProof.Rows L2
open Sem (wp)
theorem plain_new : plainId "itertools.permutations.__new__" = true := by decide +kernel
theorem sub_p : isSubtype (.type "itertools.permutations") (.type ("itertools." ++ "permutations")) = pure true := by
  have e : ("itertools." ++ "permutations" : String) = "itertools.permutations" := by decide +kernel
  rw [e, isSubtype_type]; kernel_rfl
theorem num0 {n : Nat} (h5 : n ≤ 5) : numP n 0 = List.range n ++ (List.range n).map fun i => n - i := by
  match n, h5 with
  | 0, _ => decide +kernel
  | 1, _ => decide +kernel
  | 2, _ => decide +kernel
  | 3, _ => decide +kernel
  | 4, _ => decide +kernel
  | 5, _ => decide +kernel
  | k + 6, h => omega
section
variable {prog : Program} {w : World} {A : Around} {E : Value → Shared → Prop} {s : Shared} {r : Addr} {a b c : Int} {t u v : Tok} {n : Nat}
theorem code_new {Q₁ : Value → Shared → Prop} (hh : A.handled = none) (hr : IsRange s.heap r a b c t u v) (hsmall : Builtin.Range.small a b c = true) (hn : Builtin.Range.rangeSize a b c = n) (h5 : n ≤ 5)
    (h : ∀ (h0 hf : Heap) (tk : Nat) (acc : Array Value), (∀ b o, s.heap.get? b = some o → h0.get? b = some o) → (∀ b o, h0.get? b = some o → hf.get? b = some o) → ItemsOf (fun i v => ∃ t, v = .int (a + i * c) t) acc n →
      hf.get? h0.objs.size = some { cls := .type "tuple", data := .seq acc } → IsPm hf (h0.objs.size + 1) h0.objs.size n 0 → Q₁ (.ref (h0.objs.size + 1)) { s with heap := hf, toks := tk }) :
    codeAny (model prog w) A (.call (.builtin "itertools.permutations.__new__") ⟨[.type "itertools.permutations", .ref r], []⟩) (wants Q₁ E) s := by
  refine codeAny_of_tree ?_
  show wpAny _ A.in1 (do checkBuiltinCall "itertools.permutations.__new__" ⟨[.type "itertools.permutations", .ref r], []⟩; again (.builtin "itertools.permutations.__new__" ⟨[.type "itertools.permutations", .ref r], []⟩)) _ _ s
  refine wpAny_bind (wpAny_of_eq (newCall_p _) (wpAny_pure ⟨plainId_quiet plain_new _, codeAny_builtin entry_new ?_⟩))
  rw [Around.under_plainId plain_new _]
  have hh1 : A.in1.handled = none := hh
  have hsub := sub_p
  have hle : n ≤ 2 ^ 24 := by omega
  wp_walk using collect_range (A := A.in1) hh1 hr hsmall hn hle
  intro h' tk acc hk hacc
  have hl : acc.toList.length = n := by rw [Array.length_toList]; exact hacc.1
  refine wpAny_bind (m := pure ((acc.toList.length : Nat) : Int)) (wpAny_pure ?_)
  dsimp only
  rw [hl, if_neg (by omega : ¬ ((n : Nat) : Int) < 0)]
  rw [if_neg (by unfold Builtin.Itertools.itTooMany; rw [decide_eq_true_eq]; omega)]
  refine wpAny_bind (wpAny_newTuple ?_ (by rw [hl, sizeLine_eq]; omega))
  refine wpAny_bind ?_
  unfold Builtin.Itertools.itNewRecord
  have hd : typeHasDict (.type "itertools.permutations") = false := by decide +kernel
  rw [hd]
  rw [if_pos (by rfl)]
  refine wpAny_newObj_type ?_ ?_
  · refine wpAny_pure ?_
    show Q₁ _ _
    have hz : (h'.push { cls := .type "tuple", data := .seq acc.toList.toArray }).objs.size = h'.objs.size + 1 := Heap.size_push _ _
    have hfin := h h' ((h'.push { cls := .type "tuple", data := .seq acc.toList.toArray }).push { cls := .type "itertools.permutations", data := .fields ([.ref h'.objs.size, rawInt (if (n : Int).toNat > n then 2 else 0), rawInt ((n : Int).toNat : Nat), .none] ++ (List.range n).map (fun (i : Nat) => rawInt i) ++ (List.range (n : Int).toNat).map fun (i : Nat) => rawInt ((n : Int) - (i : Nat))).toArray }) tk acc hk (fun b o e => Heap.get?_push_of_some _ (Heap.get?_push_of_some _ e)) hacc ?_ ?_
    · rw [← hz] at hfin
      exact hfin
    · have e : acc.toList.toArray = acc := by simp
      rw [e]
      exact Heap.get?_push_of_some _ (Heap.get?_push_size _ rfl)
    · refine ⟨.none, ?_⟩
      rw [← hz]
      refine (Heap.get?_push_size _ rfl).trans ?_
      rw [Int.toNat_natCast, if_neg (by omega : ¬ n > n), if_pos rfl]
      have e1 : (numP n 0).map (fun (k : Nat) => rawInt k) = (List.range n).map (fun (i : Nat) => rawInt i) ++ (List.range n).map fun (i : Nat) => rawInt ((n : Int) - (i : Nat)) := by
        rw [num0 h5, List.map_append, List.map_map]
        congr 1
        refine List.map_congr_left fun x hx => ?_
        have := List.mem_range.mp hx
        show rawInt ((n - x : Nat) : Int) = rawInt ((n : Int) - (x : Nat))
        congr 1
        omega
      rw [e1]
      simp
  · rw [Int.toNat_natCast]
    show Array.size _ ≤ sizeLine + 2
    simp
    rw [sizeLine_eq]
    omega
end
end Obp
namespace Obp
open PySem PyProof.Rows
section
variable {prog : Program} {w : World} {A : Around} {E : Value → Shared → Prop} {s : Shared} {r : Addr} {a b c : Int} {t u v : Tok} {n : Nat}
theorem call_new {Q : Value → Shared → Prop} (hh : A.handled = none) (hr : IsRange s.heap r a b c t u v) (hsmall : Builtin.Range.small a b c = true) (hn : Builtin.Range.rangeSize a b c = n) (h5 : n ≤ 5)
    (h : ∀ (h0 hf : Heap) (tk : Nat) (acc : Array Value), (∀ b o, s.heap.get? b = some o → h0.get? b = some o) → (∀ b o, h0.get? b = some o → hf.get? b = some o) → ItemsOf (fun i v => ∃ t, v = .int (a + i * c) t) acc n →
      hf.get? h0.objs.size = some { cls := .type "tuple", data := .seq acc } → IsPm hf (h0.objs.size + 1) h0.objs.size n 0 → Q (.ref (h0.objs.size + 1)) { s with heap := hf, toks := tk }) :
    wpAny (model prog w) A (call (.type "itertools.permutations") [.ref r]) Q E s := by
  refine callType_codes (Q₁ := fun obj s₁ => s₁.TypeIs obj "itertools.permutations" ∧ Q obj s₁) called_p (typeCall_p _) F.entry_object_init
    (code_new (A := A.in1) hh hr hsmall hn h5 fun h0 hf tk acc k1 k2 hacc e1 hp => ⟨?_, h h0 hf tk acc k1 k2 hacc e1 hp⟩) fun obj s₁ h₁ => ?_
  · obtain ⟨bf, hb⟩ := hp.at_
    exact ⟨_, hb, rfl⟩
  · exact ⟨h₁.1, F.args_object_init_2 obj _, object_init_meets called_p.init.lookup called_p.made (by decide) prog w A.in1 _ s₁ ⟨h₁.1, rfl, h₁.2⟩⟩
end
end Obp
namespace Obr
open PySem L2 PySem.Spec PyProof.Rows Obp
/-- the arrangements of 0 .. n - 1, in turn, each a new tuple -/
def ItPm (n : Nat) : It := ⟨fun i _ => i < facN n, fun i H v H' => ∃ T, v = .ref T ∧ H T = none ∧ H' = upd H T (.tup ((idxP n i).map fun k => V.int (k : Nat))), fun i _ => i = facN n⟩
theorem vals_idx {items : Array Value} {n : Nat} : ∀ {l : List Nat}, (∀ k ∈ l, k < n) → (∀ k, k < n → ∃ t, items[k]? = some (.int (k : Nat) t)) → Vals (l.map fun k => V.int (k : Nat)) (l.map fun k => items.getD k .none)
  | [], _, _ => .nil
  | k :: l, h, hi => by
    obtain ⟨t, e⟩ := hi k (h k List.mem_cons_self)
    refine .cons ?_ (vals_idx (fun k' h' => h k' (List.mem_cons_of_mem _ h')) hi)
    have e2 : items.getD k .none = .int (k : Nat) t := by
      rw [Array.getD_eq_getD_getElem?, e]; rfl
    show L2.RelV (V.int (k : Nat)) (items.getD k .none)
    rw [e2]
    exact ⟨t, rfl⟩
theorem turn_perm {P : Program} {w : World} {K : PySem.W.Frag} {tg : Expr} {n : Nat} (h5 : n ≤ 5) (it pa : Addr) :
    Turn P w K tg (ItPm n) [it, pa] it (fun i h => IsPm h it pa n i ∧ (∃ items, h.IsTuple pa items ∧ items.size = n ∧ ∀ k, k < n → ∃ t, items[k]? = some (.int (k : Nat) t)) ∧ pa ≠ it) where
  mem := by simp
  obj := fun i h st b hb => by
    obtain ⟨⟨bf, e⟩, ⟨items, ⟨o, ho, hc, m, hd⟩, _⟩, _⟩ := st
    have e' : b = it ∨ b = pa := by simpa using hb
    rcases e' with z | z
    · rw [z]; exact ⟨_, e, fun v q => nomatch q⟩
    · rw [z]; exact ⟨o, ho, fun v q => by rw [hd] at q; cases q⟩
  keep := fun i h h' st k => by
    obtain ⟨⟨bf, e⟩, ⟨items, ⟨o, ho, hr⟩, hq⟩, hne⟩ := st
    exact ⟨⟨bf, k it (by simp) _ e⟩, ⟨items, ⟨o, k pa (by simp) _ ho, hr⟩, hq⟩, hne⟩
  item := by
    intro X hP hw hK hc i pins s σ H E I hf st hg
    subst hP hw hK
    obtain ⟨hp, ⟨items, ht, hn, hit⟩, hne⟩ := st
    refine next_item hp ht hn h5 hg hne fun h' hp' hT hk hsz => ?_
    obtain ⟨bf, hrec⟩ := hp'.at_
    refine ⟨_, rfl, go_of (s := { s with heap := h' }) (n := "itertools.permutations") hrec rfl rfl (by decide) ?_⟩
    have new : ObjOk X.prog X.w (upd H s.heap.objs.size (.tup ((idxP n i).map fun k => V.int (k : Nat)))) h' s.heap.objs.size (.tup ((idxP n i).map fun k => V.int (k : Nat))) :=
      ⟨by rw [List.length_map, idx_len h5 hg, sizeLine_eq]; omega, _, vals_idx (idx_lt h5 hg) hit, ⟨_, hT, rfl, _, rfl⟩⟩
    have I1 := I.turnedNew (t' := s.toks) (ch := [it]) (fun b ob hb q => hk b ob (fun z => hb (by simp [z])) q) (fun b hb => hf b (by
      have : b = it := by simpa using hb
      simp [this])) (Nat.le_refl _) new
    refine ⟨.ref s.heap.objs.size, _, I1, rfl, ⟨_, rfl, I.hok.fresh (Nat.le_refl _), rfl⟩, ⟨hp', ⟨items, ?_, hn, hit⟩, hne⟩, fun b hb => ?_⟩
    · obtain ⟨o, ho, hr⟩ := ht
      exact ⟨o, hk pa o hne ho, hr⟩
    · have hlt : b < s.heap.objs.size := by
        obtain ⟨_, e⟩ := hp.at_
        obtain ⟨o, ho, _⟩ := ht
        have e' : b = it ∨ b = pa := by simpa using hb
        rcases e' with z | z
        · rw [z]; exact Heap.lt_size e
        · rw [z]; exact Heap.lt_size ho
      rw [upd_ne (Nat.ne_of_lt hlt)]
      exact (hf b hb).1
  done := by
    intro X hP hw hK hc i pins s σ H E I hf st hg
    subst hP hw hK
    obtain ⟨hp, ⟨items, ht, hn, hit⟩, hne⟩ := st
    cases (show i = facN n from hg)
    obtain ⟨f0, f1, f2, f3, f4, f5⟩ := hf it (by simp)
    exact next_end (I.ok.hd hc) hp ht hn h5 fun h' hk => ⟨rfl, I.turned (t' := s.toks) hk f0 f1 f3 f4 f5⟩
  self := fun A i s Q E st h => by
    obtain ⟨⟨bf, e⟩, _⟩ := st
    have hT : s.TypeIs (.ref it) "itertools.permutations" := ⟨_, e, rfl⟩
    refine wpAny_pyIter_slot hT slot_iter (wpAny_call_entry slot_iter hT entry_iter ?_ (args_iter _))
    show wpAny _ _ (ret (.ref it)) _ _ s
    exact wpAny_pure ⟨_, rfl, "itertools.permutations", _, hT, slot_next.lookup, h⟩
def iPerm (te : L2.St → Hp → (Int → Int → Hp → Prop) → Prop) : TI := fun σ H R => te σ H fun a b H1 => ∃ n : Nat, a = 0 ∧ b = (n : Nat) ∧ n ≤ 5 ∧ R (ItPm n) H1
theorem pi_perm {X : Cx} {tg e : Expr} {te : L2.St → Hp → (Int → Int → Hp → Prop) → Prop} {p pos : Pos} (hc : X.calm = true) (hg : Gl X "permutations") (hm : X.mg "permutations" = some (.type "itertools.permutations")) (he : PRg X e te)
    (na : starEach [e] X.env = (false, eval e X.env) :: starEach [] X.env := by rfl) : PI X tg (.Call (.Name "permutations" p) [e] [] pos) (iPerm te) := by
  refine ⟨fun pins s σ H R I h => ?_⟩
  refine Call_ (ld_glob I hg hm (PyProof.Rows.callWith_type1 (args_cons (thn (he pins s σ H _ I h) fun x s1 ⟨r, a, b, t, u, v, H1, ex, hr, I1, n, ea, eb, h5, q⟩ => args_nil ?_) na) na) (by decide))
  subst ex ea eb
  refine call_new (n := n) (I1.ok.hd hc) hr (small_one (by omega) (by omega) (by omega) (by omega)) (by rw [rangeSize_nat]; simp) h5 fun h0 hf tk acc k1 k2 hacc hpa hp => ?_
  have I2 : Inv X pins σ H1 { s1 with heap := h0, toks := tk } := I1.kept k1
  have I3 : Inv X pins σ H1 { s1 with heap := hf, toks := tk } := I2.kept k2
  have st0 : IsPm hf (h0.objs.size + 1) h0.objs.size n 0 ∧ (∃ items, hf.IsTuple h0.objs.size items ∧ items.size = n ∧ ∀ k, k < n → ∃ t, items[k]? = some (.int (k : Nat) t)) ∧ h0.objs.size ≠ h0.objs.size + 1 := by
    refine ⟨hp, ⟨acc, ⟨_, hpa, rfl, _, rfl⟩, hacc.1, fun k hk => ?_⟩, by omega⟩
    have hk' : k < acc.size := by rw [hacc.1]; exact hk
    obtain ⟨t, e⟩ := hacc.2 k acc[k] (Array.getElem?_eq_getElem hk')
    refine ⟨t, ?_⟩
    rw [Array.getElem?_eq_getElem hk', e]
    congr 2
    omega
  refine (turn_perm (P := X.prog) (w := X.w) (K := X.K) (tg := tg) h5 (h0.objs.size + 1) h0.objs.size).self _ 0 _ _ _ st0 ?_
  refine ⟨h0.objs.size + 1, [h0.objs.size + 1, h0.objs.size], _, _, H1, rfl, I3, turn_perm h5 (h0.objs.size + 1) h0.objs.size, st0, fun b hb => ?_, q⟩
  have e' : b = h0.objs.size + 1 ∨ b = h0.objs.size := by simpa using hb
  have hle : h0.objs.size ≤ b := by
    rcases e' with z | z
    · rw [z]; exact Nat.le_succ _
    · rw [z]; exact Nat.le_refl _
  exact I2.fpOk hle (I2.hok.fresh hle)
theorem walk_perm {n : Nat} : Walk (ItPm n) (facN n) (fun _ => True) (fun i H v H' => ∃ T, v = .ref T ∧ H T = none ∧ H' = upd H T (.tup ((idxP n i).map fun k => V.int (k : Nat)))) :=
  ⟨fun i _ hi _ => hi, fun _ _ => rfl, fun i H v H' _ _ y => y⟩
section
variable {S : Type} {J : S → Hp → Hp → Prop} {K : PySem.W.Frag} {σ : L2.St} {s : S} {F : Hp} {R : V → S → Hp → Prop} {te : TE} {tt : TT} {t : TS} {g : TG} {tn : TE} {D : En S} {vs : List Nat}
theorem sw_forPm (hd : Hid J) (h : EW J tn σ s F fun v s1 F1 => ∃ (n : Nat) (Pv : Nat → L2.St → S → Hp → Prop), v = .int (n : Nat) ∧ n ≤ 5 ∧ Pv 0 σ s1 F1 ∧
      (∀ (i : Nat) σ s F T, i < facN n → Pv i σ s F → F T = none → GW J g (.ref T) σ s (upd F T (.tup ((idxP n i).map fun k => V.int (k : Nat)))) fun σ s F => SW J t { D with nx := Pv (i + 1), ct := Pv (i + 1), bk := D.nx } σ s F) ∧ (∀ σ s F, Pv (facN n) σ s F → D.nx σ s F)) :
    SW J (tFor (iPerm (tRg1 tn)) g t) D σ s F := fun H j D' l =>
  h H j _ fun v s1 F1 H1 j1 ⟨n, Pv, e, h5, h0, hs, hdn⟩ => ⟨n, e, n, rfl, rfl, h5, for_it walk_perm (fun i σ H => ∃ s F, J s F H ∧ Pv i σ s F) ⟨s1, F1, j1, h0⟩
    (fun _ _ _ _ _ => True.intro)
    (fun i x σ' H' H'' hi ⟨s', F', j', p⟩ ⟨T, ex, hT, eH⟩ => by
      subst ex eH
      exact hs i σ' s' F' T hi p (hd.fresh j' hT) _ (hd.al j' hT) _ fun σ2 s2 F2 H2 j2 k => k H2 j2 _ ⟨fun σ3 s3 F3 H3 j3 k3 => ⟨s3, F3, j3, k3⟩, l.rt, l.nx, fun σ3 s3 F3 H3 j3 k3 => ⟨s3, F3, j3, k3⟩⟩)
    (fun σ' H' ⟨s', F', j', p⟩ => l.nx _ _ _ _ j' (hdn σ' s' F' p))⟩
theorem ew_lcPm (hd : Hid J) (h : EW J tn σ s F fun v s1 F1 => ∃ (n : Nat), v = .int (n : Nat) ∧ n ≤ 5 ∧ ∀ Dl, F1 Dl = none → ∃ Pv : Nat → List V → S → Hp → Prop, Pv 0 [] s1 F1 ∧
      (∀ i acc s F, i ≤ facN n → F Dl = none → Pv i acc s F → acc.length ≤ i) ∧ (∀ (i : Nat) acc s F T, i < facN n → F Dl = none → Pv i acc s F → F T = none → T ≠ Dl → LcTurn J Dl g tt te vs σ acc (.ref T) s (upd F T (.tup ((idxP n i).map fun k => V.int (k : Nat)))) (Pv (i + 1))) ∧
      (∀ acc s F, F Dl = none → Pv (facN n) acc s F → R (.ref Dl) s (upd F Dl (.lst acc)))) : EW J (tLc (iPerm (tRg1 tn)) g tt te vs) σ s F R := fun H j Q q =>
  h H j _ fun v s1 F1 H1 j1 ⟨n, e, h5, k⟩ => ⟨n, e, n, rfl, rfl, h5, fun Dl hD => by
    have fD := hd.fresh j1 hD
    have hf : facN n ≤ 120 := by
      match n, h5 with
      | 0, _ => decide
      | 1, _ => decide
      | 2, _ => decide
      | 3, _ => decide
      | 4, _ => decide
      | 5, _ => decide
      | k + 6, h => omega
    obtain ⟨Pv, h0, hl, hs, hdn⟩ := k Dl fD
    refine lc_it walk_perm (fun i H => ∃ acc s F, i ≤ facN n ∧ F Dl = none ∧ J s (upd F Dl (.lst acc)) H ∧ Pv i acc s F) ⟨[], s1, F1, Nat.zero_le _, fD, hd.al j1 hD, h0⟩ (fun i H' hi _ => True.intro) (fun i x H' H'' hi ⟨acc, s', F', hle, f1, j', p⟩ ⟨T, ex, hT, eH⟩ => ?_) (fun H' ⟨acc, s', F', _, f1, j', p⟩ => q _ _ _ _ j' (hdn acc s' F' f1 p))
    subst ex eH
    have f3 := hl i acc s' F' hle f1 p
    have hT2 := hd.fresh j' hT
    have hne : T ≠ Dl := fun q => by rw [q, upd_same] at hT2; cases hT2
    have hT3 : F' T = none := by rw [upd_ne hne] at hT2; exact hT2
    have jd := (Hid.jd (D := Dl) (acc := acc) hd).al (s := s') (F := F') (H := H') (p := T) (o := .tup ((idxP n i).map fun k => V.int (k : Nat))) ⟨f1, j'⟩ hT
    exact lc_step hd (by omega) (hs i acc s' F' T hi f1 p hT3 hne) jd.1 jd.2 fun acc s F H fd j p => ⟨acc, s, F, by omega, fd, j, p⟩⟩
end
end Obr
namespace Obr
open PySem L2 PyProof.Rows
/-! ### pairs of ints -/
def pairOf (F : Hp) (x : V) : Int × Int := match x with
  | .ref t => match F t with
    | some (.tup [.int i, .int j]) => (i, j)
    | _ => (0, 0)
  | _ => (0, 0)
/-- the pairs of ints at these -/
inductive Prs (F : Hp) : List V → List (Int × Int) → Prop
  | nil : Prs F [] []
  | cons {t : Addr} {p : Int × Int} {xs : List V} {ps : List (Int × Int)} (h : F t = some (.tup [.int p.1, .int p.2])) (r : Prs F xs ps) : Prs F (.ref t :: xs) (p :: ps)
theorem Prs.map {F : Hp} : ∀ {xs ps}, Prs F xs ps → xs.map (pairOf F) = ps
  | _, _, .nil => rfl
  | _, _, .cons (t := t) (p := p) h r => by
    rw [List.map_cons, r.map]
    have e : pairOf F (.ref t) = p := by
      unfold pairOf
      simp only [h]
    rw [e]
theorem Prs.at {F : Hp} : ∀ {xs ps}, Prs F xs ps → ∀ x ∈ xs, ∃ t, x = V.ref t ∧ F t = some (.tup [.int (pairOf F x).1, .int (pairOf F x).2])
  | _, _, .cons (t := t) (p := p) h r, x, hx => by
    rcases List.mem_cons.mp hx with e | hx
    · subst e
      refine ⟨t, rfl, ?_⟩
      have e : pairOf F (.ref t) = p := by
        unfold pairOf
        simp only [h]
      rw [e]
      exact h
    · exact r.at x hx
theorem Prs.len {F : Hp} : ∀ {xs ps}, Prs F xs ps → xs.length = ps.length
  | _, _, .nil => rfl
  | _, _, .cons h r => by rw [List.length_cons, List.length_cons, r.len]
theorem Prs.ex {F G : Hp} (g : Ex F G) : ∀ {xs ps}, Prs F xs ps → Prs G xs ps
  | _, _, .nil => .nil
  | _, _, .cons h r => .cons (g _ _ h) (r.ex g)
theorem Prs.snoc {F : Hp} {t : Addr} {p : Int × Int} (h : F t = some (.tup [.int p.1, .int p.2])) : ∀ {xs ps}, Prs F xs ps → Prs F (xs ++ [.ref t]) (ps ++ [p])
  | _, _, .nil => .cons h .nil
  | _, _, .cons h1 r => .cons h1 (r.snoc h)
theorem Prs.get {F : Hp} : ∀ {xs ps}, Prs F xs ps → ∀ {i : Nat} {x : V}, xs[i]? = some x → ∃ t p, x = V.ref t ∧ F t = some (.tup [.int p.1, .int p.2]) ∧ ps[i]? = some p
  | _, _, .nil, i, x, h => by simp at h
  | _, _, .cons (t := t) (p := p) h r, 0, x, e => by
    simp at e
    subst e
    exact ⟨t, p, rfl, h, rfl⟩
  | _, _, .cons h r, i + 1, x, e => by
    simp only [List.getElem?_cons_succ] at e ⊢
    exact r.get e
end Obr
namespace Obr
open PySem L2 PyProof.Rows
local macro_rules | `(tactic| walk_at "ob_at") => `(tactic| first
  | assumption
  | exact upd_same
  | (refine Eq.trans (upd_ne ?obn) ?obr; (case obn => walk_at "ob_ne"); (case obr => walk_at "ob_at")))
local macro_rules | `(tactic| walk_at "ob_ne") => `(tactic| first
  | assumption
  | (refine Ne.symm ?obs; (case obs => assumption))
  | (refine' ne_of_none (H := ?_) ?obe ?obh; (case obh => assumption); (case obe => walk_at "ob_at"))
  | (refine Ne.symm ?obs; (case obs => (refine' ne_of_none (H := ?_) ?obe ?obh; (case obh => assumption); (case obe => walk_at "ob_at")))))
local macro_rules | `(tactic| walk_at "ob_fr") => `(tactic| first
  | assumption
  | (refine Eq.trans (upd_ne ?obn) ?obr; (case obn => walk_at "ob_ne"); (case obr => walk_at "ob_fr"))
  | (refine Ex.free (G := ?_) (by assumption) ?obh; (case obh => walk_at "ob_fr")))
local macro_rules | `(tactic| walk_at "ob_ex") => `(tactic| first
  | assumption
  | exact Ex.refl _
  | (refine Ex.out ?obg ?obh; (case obh => assumption); (case obg => walk_at "ob_ex"))
  | (refine Ex.new ?obg ?obh; (case obh => assumption); (case obg => walk_at "ob_ex"))
  | (refine Ex.new ?obg ?obh; (case obh => walk_at "ob_fr"); (case obg => walk_at "ob_ex")))
local macro_rules | `(tactic| walk_at "ob_sq") => `(tactic| first
  | assumption
  | (refine SqL.of ?oba; (case oba => walk_at "ob_at"))
  | (refine Ex.sqT (F := ?_) ?obg ?obh; (case obh => assumption); (case obg => walk_at "ob_ex"))
  | (refine Ex.sqL (F := ?_) ?obg ?obh; (case obh => assumption); (case obg => walk_at "ob_ex"))
  | (refine SqT.of ?oba; (case oba => walk_at "ob_at")))
local macro_rules | `(tactic| walk_at "ob_side") => `(tactic| first | exact rfl | assumption | decide | omega | exact ⟨by decide, by decide, by decide⟩ | exact Or.inr ⟨by decide, by decide⟩ | exact Or.inl ⟨by decide, by decide⟩ | exact wide_div (b := 60) (by first | decide | omega) (by first | decide | omega) (by decide) (by decide))
local macro_rules | `(tactic| walk_at "ob1") => `(tactic| first
  | with_reducible refine sw_seq ?_
  | with_reducible refine sw_asg ?_
  | with_reducible refine sw_ret ?_
  | with_reducible refine sw_par ?_
  | with_reducible refine ⟨_, _, rfl, ?_⟩
  | with_reducible refine sw_drop ?_
  | with_reducible refine sw_if ?_
  | with_reducible refine sw_next ?_
  | with_reducible refine gw_name ?_
  | with_reducible refine gw_subL (by assumption) ?_
  | with_reducible refine gsw_cons ?_
  | with_reducible refine gsw_nil ?_
  | with_reducible refine ew_c ?_
  | ((with_reducible refine' ew_var (v := ?_) ?obv ?_); (case obv => exact rfl))
  | ((with_reducible refine ew_next (by assumption) ?obv ?_); (case obv => exact rfl))
  | ((with_reducible refine ew_world (by assumption) ?obv ?_); (case obv => exact rfl))
  | ((with_reducible refine ew_rule (by assumption) ?obv ?_); (case obv => exact rfl))
  | with_reducible refine ew_op ?_
  | with_reducible refine ew_un ?_
  | with_reducible refine ew_dget (by assumption) ?_
  | with_reducible refine uw_I ?_
  | with_reducible refine ppw_nil ?_
  | with_reducible refine ppw_cons ?_
  | with_reducible refine sw_dput (by assumption) ?_
  | with_reducible refine ew_cb ?_
  | with_reducible refine ew_if ?_
  | with_reducible refine ew_slL (by assumption) ?_
  | with_reducible refine ow_some ?_
  | with_reducible refine ow_none ?_
  | with_reducible refine aw_nil ?_
  | with_reducible refine aw_cons ?_
  | with_reducible refine rw_I0 ?_
  | ((with_reducible refine rw_I ?obc ?_); (case obc => walk_at "ob_side"))
  | with_reducible refine rw_isN ?_
  | with_reducible refine rw_notN ?_
  | ((with_reducible refine rw_eq ?obc ?_); (case obc => exact rfl))
  | ((with_reducible refine rw_ne ?obc ?_); (case obc => exact rfl))
  | with_reducible refine cw_max2 ?_
  | with_reducible refine cw_min2 ?_
  | with_reducible refine tw_test ?_
  | with_reducible refine tw_B ?_
  | with_reducible refine tw_not ?_
  | with_reducible refine tw_truB ?_
  | with_reducible refine tw_and ?_
  | with_reducible refine tw_or ?_
  | with_reducible refine ew_and ?_
  | (refine' Exists.intro _ (And.intro (show V.bl _ = V.bl _ from rfl) ?_))
  | (refine' Exists.intro _ (And.intro (show V.int _ = V.int _ from rfl) ?_))
  | ((with_reducible refine' rw_ixL (v := ?_) (xs := ?_) (by assumption) ?obl ?oba ?_); (case obl => walk_at "ob_sq"); (case oba => first | exact rfl | exact at_zero))
  | ((with_reducible refine' rw_ixT (v := ?_) (xs := ?_) (by assumption) ?obl ?oba ?_); (case obl => walk_at "ob_sq"); (case oba => first | exact rfl | exact at_zero))
  | ((with_reducible refine' ew_lst (by assumption) ?_))
  | ((with_reducible refine' ew_tup (by assumption) ?_)))
local macro_rules | `(tactic| walk_at "ob_len") => `(tactic| first | exact Nat.le_of_ble_eq_true rfl | (simp; done) | omega)
local macro_rules | `(tactic| walk_at "ob") => `(tactic| repeat walk_at "ob1")

/-! ### the checks -/
section
variable {S : Type} {J : S → Hp → Hp → Prop} {σ : L2.St} {s : S} {F : Hp} {ta tb tc : TE} {R : V → S → Hp → Prop}
theorem ew_between (h : EW J ta σ s F fun x s1 F1 => ∃ i, x = .int i ∧ EW J tb σ s1 F1 fun y s2 F2 => ∃ k, y = .int k ∧ i ≤ k ∧ EW J tc σ s2 F2 fun z s3 F3 => ∃ l, z = .int l ∧ k ≤ l ∧ R (.bl true) s3 F3) :
    EW J (tChain (rI0 fun i j => .bl (decide (i ≤ j))) (rI0 fun i j => .bl (decide (i ≤ j))) ta tb tc) σ s F R :=
  ew_chain (h.imp fun x s1 F1 ⟨i, ex, h1⟩ => by
    subst ex
    exact h1.imp fun y s2 F2 ⟨k, ey, hik, h2⟩ => by
      subst ey
      refine rw_I0 ⟨_, rfl, fun _ => h2.imp fun z s3 F3 ⟨l, ez, hkl, r⟩ => ?_, fun hb => ?_⟩
      · subst ez
        refine rw_I0 ?_
        rw [decide_eq_true hkl]
        exact r
      · rw [decide_eq_true hik] at hb
        cases hb)
end
def aIsStep (K : PySem.W.Frag) : List V → Hp → VK → Prop := fun vs F R => ∃ (v : V) (cap : Int) (st : Stp), vs = [v, .int cap] ∧ Dp K F v (stpD st) ∧ StpOk cap st ∧ R (.bl true) F
def aChkSt (K : PySem.W.Frag) : List V → Hp → VK → Prop := fun vs F R => ∃ (v : V) (w : Wld), vs = [v] ∧ Dp K F v (stoD w) ∧ WldOk w ∧ R .non F
def aChkSs (K : PySem.W.Frag) : List V → Hp → VK → Prop := fun vs F R => ∃ (v : V) (n cap : Int) (ss : List Stp), vs = [.int n, v, .int cap] ∧ Dp K F v (macD ss) ∧ ss.length ≤ 6 ∧ (∀ st ∈ ss, StpOk cap st) ∧ ∀ F', Ex F F' → R .non F'
def aChkW (K : PySem.W.Frag) : List V → Hp → VK → Prop := fun vs F R => ∃ (v : V) (w : Wld), vs = [v] ∧ Dp K F v (wldD w) ∧ WldOk w ∧ ∀ F', Ex F F' → R .non F'
def aChkR (K : PySem.W.Frag) : List V → Hp → VK → Prop := fun vs F R => ∃ (v : V) (r : Rgt) (p : Bool), vs = [v] ∧ Dp K F v (rulD r p) ∧ R .non F
def aCount : List V → Hp → VK → Prop := fun vs F R => ∃ a b c : Int, vs = [.int a, .int b, .int c] ∧ b ≤ a ∧ a ≤ c ∧ R .non F
theorem six_all {n k : Nat} (h : n ≤ k) : HT.sIx n 0 none = 0 ∧ HT.sIx n n (some (k : Int)) = n := ⟨HT.sIx_none _ _, by rw [HT.sIx_nat]; exact Nat.min_eq_right h⟩
section
variable {P : Program} {w : World} {K : PySem.W.Frag} {mg : Str → Option Value} {base : Heap} {C M : Addr}

abbrev s_is_step : Stmt := top 20
def N_is_step : List Str := ["step", "cap", "draw", "long", "back"]
theorem sc_is_step : FnScope N_is_step ["step", "cap"] (defScope s_is_step) := ⟨rfl, rfl, rfl, by decide +kernel, rfl, by decide +kernel, by decide +kernel⟩
theorem ok_is_step {f : Addr} {fd : FuncData}  (Fn : Fun K "is_step" "is_step" s_is_step f fd) (B : Blt mg) {tMOST_LONG : Tok} (gMOST_LONG : mg "MOST_LONG" = some (.int 9 tMOST_LONG)) : FnOk P w K mg base CX0 1 f fd ["step", "cap"] (LS (aIsStep K)) := by
  refine Fn.ok sc_is_step (fun vs H Q E h => ?_) (fun cdv A outer s H vs Q E hr h => ?_)
  · obtain ⟨J, F, R, hd, j, h, _⟩ := h
    obtain ⟨v, cap, st, rfl, _⟩ := h
    rfl
  · have nd := sc_is_step.nd
    obtain ⟨J, F, R, hd, j, h, q⟩ := h
    obtain ⟨v, cap, st, rfl, dv, hs, k⟩ := h
    refine ⟨_, (pss_cons (ps_if (pt_cmpR op_ne (pe_callB call_len_seq (by rfl) B.len (by decide +kernel) (pa_cons (pv 0) pa_nil)) pe_int (nomark _)) (pss_one (ps_ret pe_bl)) pss_nil)
      (pss_cons (ps_asg (pv 0) (pg_tup rfl (pgs_cons (pg_name (i := 2) nd rfl (Or.inl rfl)) (pgs_cons (pg_name (i := 3) nd rfl (Or.inl rfl)) (pgs_cons (pg_name (i := 4) nd rfl (Or.inl rfl)) pgs_nil)))))
      (pss_one (ps_ret (pe_and (pe_chain op_le op_le pe_int (pv 2) (pv 1)) (pe_and (pe_chain op_le op_le pe_int (pv 3) (pe_glob (v := .int 9) rfl gMOST_LONG ⟨_, rfl⟩)) (pe_one (pe_chain op_le op_le pe_int (pv 4) (pv 2))))))))), ?_⟩
    refine LS.body j q ?_
    obtain ⟨sa, ys, rfl, ly, dys⟩ := dp_tup dv
    obtain ⟨v1, v2, v3, rfl, d1, d2, d3⟩ := dps3 dys
    cases dp_int d1
    cases dp_int d2
    cases dp_int d3
    refine sw_seq (sw_if (tw_test (ew_op (ew_cb ?_))))
    walk_at "ob"
    refine cw_lenS hd (Or.inr ly) ?_
    walk_at "ob"
    refine ⟨(fun hb => by simp at hb), fun _ => ?_⟩
    walk_at "ob"
    refine gw_tup hd ⟨sa, _, rfl, ly, rfl, gsw_cons (gw_name (gsw_cons (gw_name (gsw_cons (gw_name (gsw_nil ?_))))))⟩
    refine sw_ret (ew_and (ew_between ?_))
    walk_at "ob"
    refine ⟨hs.d0, ?_⟩
    walk_at "ob"
    refine ⟨hs.d1, _, rfl, fun _ => ?_, (fun z => by cases z)⟩
    refine ew_and (ew_between ?_)
    walk_at "ob"
    refine ⟨hs.l0, ?_⟩
    walk_at "ob"
    refine ⟨hs.l1, _, rfl, fun _ => ?_, (fun z => by cases z)⟩
    refine ew_between ?_
    walk_at "ob"
    refine ⟨hs.b0, ?_⟩
    walk_at "ob"
    exact ⟨hs.b1, k⟩

abbrev s_check_store : Stmt := top 18
def N_check_store : List Str := ["store", "cap", "start", "refill"]
theorem sc_check_store : FnScope N_check_store ["store"] (defScope s_check_store) := ⟨rfl, rfl, rfl, by decide +kernel, rfl, by decide +kernel, by decide +kernel⟩
theorem ok_check_store {f : Addr} {fd : FuncData}  (Fn : Fun K "check_store" "check_store" s_check_store f fd) (B : Blt mg) {tMOST_CAP : Tok} (gMOST_CAP : mg "MOST_CAP" = some (.int 99 tMOST_CAP)) {tMOST_REFILL : Tok} (gMOST_REFILL : mg "MOST_REFILL" = some (.int 9 tMOST_REFILL)) : FnOk P w K mg base CX0 1 f fd ["store"] (LS (aChkSt K)) := by
  refine Fn.ok sc_check_store (fun vs H Q E h => ?_) (fun cdv A outer s H vs Q E hr h => ?_)
  · obtain ⟨J, F, R, hd, j, h, _⟩ := h
    obtain ⟨v, w, rfl, _⟩ := h
    rfl
  · have nd := sc_check_store.nd
    obtain ⟨J, F, R, hd, j, h, q⟩ := h
    obtain ⟨v, w, rfl, dv, hw, k⟩ := h
    refine ⟨_, (pss_cons (ps_if (pt_cmpR op_ne (pe_callB call_len_seq (by rfl) B.len (by decide +kernel) (pa_cons (pv 0) pa_nil)) pe_int (nomark _)) (pss_one ps_never) pss_nil)
      (pss_cons (ps_asg (pv 0) (pg_tup rfl (pgs_cons (pg_name (i := 1) nd rfl (Or.inl rfl)) (pgs_cons (pg_name (i := 2) nd rfl (Or.inl rfl)) (pgs_cons (pg_name (i := 3) nd rfl (Or.inl rfl)) pgs_nil)))))
      (pss_cons (ps_if (pt_not (pt_chain op_le op_le pe_int (pv 1) (pe_glob (v := .int 99) rfl gMOST_CAP ⟨_, rfl⟩))) (pss_one ps_never) pss_nil)
      (pss_cons (ps_if (pt_not (pt_chain op_le op_le pe_int (pv 2) (pv 1))) (pss_one ps_never) pss_nil)
      (pss_one (ps_if (pt_not (pt_chain op_le op_le pe_int (pv 3) (pe_glob (v := .int 9) rfl gMOST_REFILL ⟨_, rfl⟩))) (pss_one ps_never) pss_nil)))))), ?_⟩
    refine LS.body j q ?_
    obtain ⟨sa, ys, rfl, ly, dys⟩ := dp_tup dv
    obtain ⟨v1, v2, v3, rfl, d1, d2, d3⟩ := dps3 dys
    cases dp_int d1
    cases dp_int d2
    cases dp_int d3
    refine sw_seq (sw_if (tw_test (ew_op (ew_cb ?_))))
    walk_at "ob"
    refine cw_lenS hd (Or.inr ly) ?_
    walk_at "ob"
    refine ⟨(fun hb => by simp at hb), fun _ => ?_⟩
    walk_at "ob"
    refine gw_tup hd ⟨sa, _, rfl, ly, rfl, gsw_cons (gw_name (gsw_cons (gw_name (gsw_cons (gw_name (gsw_nil ?_))))))⟩
    refine sw_seq (sw_if (tw_not (tw_test (ew_between ?_))))
    walk_at "ob"
    refine ⟨hw.c0, ?_⟩
    walk_at "ob"
    refine ⟨hw.c1, _, rfl, (fun z => by cases z), fun _ => ?_⟩
    walk_at "ob"
    refine ew_between ?_
    walk_at "ob"
    refine ⟨hw.s0, ?_⟩
    walk_at "ob"
    refine ⟨hw.s1, _, rfl, (fun z => by cases z), fun _ => ?_⟩
    walk_at "ob"
    refine ew_between ?_
    walk_at "ob"
    refine ⟨hw.r0, ?_⟩
    walk_at "ob"
    refine ⟨hw.r1, _, rfl, (fun z => by cases z), fun _ => ?_⟩
    walk_at "ob"
    exact k

abbrev s_check_steps : Stmt := top 19
def N_check_steps : List Str := ["number", "steps", "cap", "at", "step"]
theorem sc_check_steps : FnScope N_check_steps ["number", "steps", "cap"] (defScope s_check_steps) := ⟨rfl, rfl, rfl, by decide +kernel, rfl, by decide +kernel, by decide +kernel⟩
theorem ok_check_steps {f : Addr} {fd : FuncData} {f1 : Addr} {fd1 : FuncData} (Fn : Fun K "check_steps" "check_steps" s_check_steps f fd) (B : Blt mg) {tMOST_STEPS : Tok} (gMOST_STEPS : mg "MOST_STEPS" = some (.int 6 tMOST_STEPS)) (Cis_step : Cal K mg "is_step" f1 fd1 ["step", "cap"]) (Gis_step : FnOk P w K mg base CX0 1 f1 fd1 ["step", "cap"] (LS (aIsStep K))) : FnOk P w K mg base CX0 2 f fd ["number", "steps", "cap"] (LS (aChkSs K)) := by
  refine Fn.ok sc_check_steps (fun vs H Q E h => ?_) (fun cdv A outer s H vs Q E hr h => ?_)
  · obtain ⟨J, F, R, hd, j, h, _⟩ := h
    obtain ⟨v, n, cap, ss, rfl, _⟩ := h
    rfl
  · have nd := sc_check_steps.nd
    obtain ⟨J, F, R, hd, j, h, q⟩ := h
    obtain ⟨v, n, cap, ss, rfl, dv, hl6, hs, k⟩ := h
    refine ⟨_, (pss_cons (ps_for PassesOwn.never rfl (pi_enumT (by rfl) B.enumerate (pa_cons (pe_slice sl_tupA (pv 1) po_none (po_some (pe_glob (v := .int 6) rfl gMOST_STEPS ⟨_, rfl⟩))) pa_nil)) (pg_tup rfl (pgs_cons (pg_name (i := 3) nd rfl (Or.inl rfl)) (pgs_cons (pg_name (i := 4) nd rfl (Or.inl rfl)) pgs_nil))) (pss_one (ps_if (pt_not (pt_val (pe_call Gis_step (by exact hr.mono (by decide)) (by rfl) Cis_step.g Cis_step.k Cis_step.a .nil pass0 (pa_cons (pv 4) (pa_cons (pv 2) pa_nil))))) (pss_one ps_never) pss_nil)))
      (pss_one (ps_if (pt_cmpR op_gt (pe_callB call_len_seq (by rfl) B.len (by decide +kernel) (pa_cons (pv 1) pa_nil)) (pe_glob (v := .int 6) rfl gMOST_STEPS ⟨_, rfl⟩) (nomark _)) (pss_one ps_never) pss_nil))), ?_⟩
    refine LS.body j q ?_
    obtain ⟨sa, ys, rfl, ly, dys⟩ := dp_tup dv
    have hyl : ys.length = ss.length := by have := dps_len dys; simpa using this
    refine sw_seq ?_
    refine sw_mid (fun σ _ G => ∃ (x3 x4 : Option V), σ = [some (.int n), some (.ref sa), some (.int cap), x3, x4] ∧ Ex F G) ?_ ?_
    · refine sw_forET hd ?_
      refine aw_cons (ew_slT hd ?_)
      walk_at "ob"
      refine ⟨sa, ys, rfl, ly, fun _ => ?_, fun hn => absurd (six_all (k := 6) (by omega)) hn⟩

      refine aw_nil ⟨sa, ys, fun i σ _ G => ∃ (x3 x4 : Option V), σ = [some (.int n), some (.ref sa), some (.int cap), x3, x4] ∧ Ex F G, rfl, ly, ⟨none, none, rfl, .refl _⟩, ?_, ?_, ?_⟩
      · rintro i σ _ G hi ⟨x3, x4, rfl, g⟩
        exact g.sqT ly
      · rintro i x σ _ G T hi ⟨x3, x4, rfl, g⟩ hT
        refine gw_tup hd ⟨T, _, rfl, SqT.of upd_same, rfl, gsw_cons (gw_name (gsw_cons (gw_name (gsw_nil ?_))))⟩
        obtain ⟨d, hd1, hd2⟩ := dps_get' dys hi
        rw [List.getElem?_map] at hd1
        obtain ⟨st, hst, rfl⟩ := Option.map_eq_some_iff.mp hd1
        refine sw_if (tw_not (tw_B (ew_call hd ?_)))
        walk_at "ob"
        refine ⟨x, cap, st, rfl, dp_ex (Ex.new g hT) hd2, hs st (List.mem_of_getElem? hst), _, rfl, (fun z => by cases z), fun _ => ?_⟩
        exact sw_next ⟨_, _, rfl, Ex.new g hT⟩
      · rintro σ _ G ⟨x3, x4, rfl, g⟩
        exact ⟨_, _, rfl, g⟩
    · rintro σ _ G ⟨x3, x4, rfl, g⟩
      refine sw_if (tw_test (ew_op (ew_cb ?_)))
      walk_at "ob"
      refine cw_lenS hd (Or.inr (g.sqT ly)) ?_
      walk_at "ob"
      refine ⟨(fun hb => absurd (of_decide_eq_true hb) (by omega)), fun _ => ?_⟩
      walk_at "ob"
      exact k _ g

abbrev s_check_world : Stmt := top 17
def N_check_world : List Str := ["world", "store", "machines", "cap", "number", "steps"]
theorem sc_check_world : FnScope N_check_world ["world"] (defScope s_check_world) := ⟨rfl, rfl, rfl, by decide +kernel, rfl, by decide +kernel, by decide +kernel⟩
theorem ok_check_world {f : Addr} {fd : FuncData} {f1 f2 : Addr} {fd1 fd2 : FuncData} (Fn : Fun K "check_world" "check_world" s_check_world f fd) (B : Blt mg) {tMOST_MACHINES : Tok} (gMOST_MACHINES : mg "MOST_MACHINES" = some (.int 5 tMOST_MACHINES)) (Ccheck_store : Cal K mg "check_store" f1 fd1 ["store"]) (Gcheck_store : FnOk P w K mg base CX0 1 f1 fd1 ["store"] (LS (aChkSt K))) (Ccheck_steps : Cal K mg "check_steps" f2 fd2 ["number", "steps", "cap"]) (Gcheck_steps : FnOk P w K mg base CX0 2 f2 fd2 ["number", "steps", "cap"] (LS (aChkSs K))) : FnOk P w K mg base CX0 3 f fd ["world"] (LS (aChkW K)) := by
  refine Fn.ok sc_check_world (fun vs H Q E h => ?_) (fun cdv A outer s H vs Q E hr h => ?_)
  · obtain ⟨J, F, R, hd, j, h, _⟩ := h
    obtain ⟨v, w, rfl, _⟩ := h
    rfl
  · have nd := sc_check_world.nd
    obtain ⟨J, F, R, hd, j, h, q⟩ := h
    obtain ⟨v, w, rfl, dv, hw, k⟩ := h
    refine ⟨_, (pss_cons (ps_asg (pv 0) (pg_tup rfl (pgs_cons (pg_name (i := 1) nd rfl (Or.inl rfl)) (pgs_cons (pg_name (i := 2) nd rfl (Or.inl rfl)) pgs_nil))))
      (pss_cons (ps_expr (pe_call Gcheck_store (by exact hr.mono (by decide)) (by rfl) Ccheck_store.g Ccheck_store.k Ccheck_store.a .nil pass0 (pa_cons (pv 1) pa_nil)))
      (pss_cons (ps_set (i := 3) nd rfl (Or.inl rfl) (pe_ix ix_tup (pv 1) pe_int (fun _ _ => rfl)))
      (pss_cons (ps_for PassesOwn.never rfl (pi_enumT (by rfl) B.enumerate (pa_cons (pe_slice sl_tupA (pv 2) po_none (po_some (pe_glob (v := .int 5) rfl gMOST_MACHINES ⟨_, rfl⟩))) pa_nil)) (pg_tup rfl (pgs_cons (pg_name (i := 4) nd rfl (Or.inl rfl)) (pgs_cons (pg_name (i := 5) nd rfl (Or.inl rfl)) pgs_nil))) (pss_one (ps_expr (pe_call Gcheck_steps (by exact hr.mono (by decide)) (by rfl) Ccheck_steps.g Ccheck_steps.k Ccheck_steps.a .nil pass0 (pa_cons (pv 4) (pa_cons (pv 5) (pa_cons (pv 3) pa_nil)))))))
      (pss_one (ps_if (pt_cmpR op_gt (pe_callB call_len_seq (by rfl) B.len (by decide +kernel) (pa_cons (pv 2) pa_nil)) (pe_glob (v := .int 5) rfl gMOST_MACHINES ⟨_, rfl⟩) (nomark _)) (pss_one ps_never) pss_nil)))))), ?_⟩
    refine LS.body j q ?_
    obtain ⟨wa, xs, rfl, lx, dxs⟩ := dp_tup dv
    obtain ⟨sv, mv, rfl, ds, dm⟩ := dps2 dxs
    obtain ⟨ma, zs, rfl, lz, dzs⟩ := dp_tup dm
    have hzl : zs.length = w.ms.length := by have := dps_len dzs; simpa using this
    have hm5 := hw.m
    obtain ⟨sa, ys, rfl, ly, dys⟩ := dp_tup (show Dp K F sv (.tuple [.int w.cap, .int w.start, .int w.refill]) from ds)
    obtain ⟨v1, v2, v3, rfl, d1, d2, d3⟩ := dps3 dys
    cases dp_int d1
    refine sw_seq (sw_asg ?_)
    walk_at "ob"
    refine gw_tup hd ⟨wa, _, rfl, lx, rfl, gsw_cons (gw_name (gsw_cons (gw_name (gsw_nil ?_))))⟩
    refine sw_seq (sw_drop (ew_call hd ?_))
    walk_at "ob"
    refine ⟨.ref sa, w, rfl, ds, hw, ?_⟩
    refine sw_seq (sw_asg (ew_op ?_))
    walk_at "ob"
    refine sw_mid (fun σ _ G => ∃ (x4 x5 : Option V), σ = [some (.ref wa), some (.ref sa), some (.ref ma), some (.int w.cap), x4, x5] ∧ Ex F G) ?_ ?_
    · refine sw_forET hd ?_
      refine aw_cons (ew_slT hd ?_)
      walk_at "ob"
      refine ⟨ma, zs, rfl, lz, fun _ => ?_, fun hn => absurd (six_all (k := 5) (by omega)) hn⟩

      refine aw_nil ⟨ma, zs, fun i σ _ G => ∃ (x4 x5 : Option V), σ = [some (.ref wa), some (.ref sa), some (.ref ma), some (.int w.cap), x4, x5] ∧ Ex F G, rfl, lz, ⟨none, none, rfl, .refl _⟩, ?_, ?_, ?_⟩
      · rintro i σ _ G hi ⟨x4, x5, rfl, g⟩
        exact g.sqT lz
      · rintro i x σ _ G T hi ⟨x4, x5, rfl, g⟩ hT
        refine gw_tup hd ⟨T, _, rfl, SqT.of upd_same, rfl, gsw_cons (gw_name (gsw_cons (gw_name (gsw_nil ?_))))⟩
        obtain ⟨d, hd1, hd2⟩ := dps_get' dzs hi
        rw [List.getElem?_map] at hd1
        obtain ⟨ss, hss, rfl⟩ := Option.map_eq_some_iff.mp hd1
        refine sw_drop (ew_call hd ?_)
        walk_at "ob"
        refine ⟨x, i, w.cap, ss, rfl, dp_ex (Ex.new g hT) hd2, hw.n ss (List.mem_of_getElem? hss), hw.st ss (List.mem_of_getElem? hss), fun F' g2 => ?_⟩
        exact ⟨_, _, rfl, (Ex.new g hT).trans g2⟩
      · rintro σ _ G ⟨x4, x5, rfl, g⟩
        exact ⟨_, _, rfl, g⟩
    · rintro σ _ G ⟨x4, x5, rfl, g⟩
      refine sw_if (tw_test (ew_op (ew_cb ?_)))
      walk_at "ob"
      refine cw_lenS hd (Or.inr (g.sqT lz)) ?_
      walk_at "ob"
      refine ⟨(fun hb => absurd (of_decide_eq_true hb) (by omega)), fun _ => ?_⟩
      walk_at "ob"
      exact k _ g

abbrev s_check_count : Stmt := top 21
def N_check_count : List Str := ["many", "least", "most"]
theorem sc_check_count : FnScope N_check_count ["many", "least", "most"] (defScope s_check_count) := ⟨rfl, rfl, rfl, by decide +kernel, rfl, by decide +kernel, by decide +kernel⟩
theorem ok_check_count {f : Addr} {fd : FuncData}  (Fn : Fun K "check_count" "check_count" s_check_count f fd) (B : Blt mg)  : FnOk P w K mg base CX0 1 f fd ["many", "least", "most"] (LS (aCount)) := by
  refine Fn.ok sc_check_count (fun vs H Q E h => ?_) (fun cdv A outer s H vs Q E hr h => ?_)
  · obtain ⟨J, F, R, hd, j, h, _⟩ := h
    obtain ⟨a, b, c, rfl, _⟩ := h
    rfl
  · have nd := sc_check_count.nd
    obtain ⟨J, F, R, hd, j, h, q⟩ := h
    obtain ⟨a, b, c, rfl, h1, h2, k⟩ := h
    refine ⟨_, (pss_one (ps_if (pt_not (pt_chain op_le op_le (pv 1) (pv 0) (pv 2))) (pss_one ps_never) pss_nil)), ?_⟩
    refine LS.body j q ?_
    refine sw_if (tw_not (tw_test (ew_between ?_)))
    walk_at "ob"
    refine ⟨h1, ?_⟩
    walk_at "ob"
    refine ⟨h2, _, rfl, (fun z => by cases z), fun _ => ?_⟩
    walk_at "ob"
    exact k
end
end Obr
namespace Obr
open PySem L2 PyProof.Rows Obp
local macro_rules | `(tactic| walk_at "ob_at") => `(tactic| first
  | assumption
  | exact upd_same
  | (refine Eq.trans (upd_ne ?obn) ?obr; (case obn => walk_at "ob_ne"); (case obr => walk_at "ob_at")))
local macro_rules | `(tactic| walk_at "ob_ne") => `(tactic| first
  | assumption
  | (refine Ne.symm ?obs; (case obs => assumption))
  | (refine' ne_of_none (H := ?_) ?obe ?obh; (case obh => assumption); (case obe => walk_at "ob_at"))
  | (refine Ne.symm ?obs; (case obs => (refine' ne_of_none (H := ?_) ?obe ?obh; (case obh => assumption); (case obe => walk_at "ob_at")))))
local macro_rules | `(tactic| walk_at "ob_fr") => `(tactic| first
  | assumption
  | (refine Eq.trans (upd_ne ?obn) ?obr; (case obn => walk_at "ob_ne"); (case obr => walk_at "ob_fr"))
  | (refine Ex.free (G := ?_) (by assumption) ?obh; (case obh => walk_at "ob_fr")))
local macro_rules | `(tactic| walk_at "ob_ex") => `(tactic| first
  | assumption
  | exact Ex.refl _
  | (refine Ex.out ?obg ?obh; (case obh => assumption); (case obg => walk_at "ob_ex"))
  | (refine Ex.new ?obg ?obh; (case obh => assumption); (case obg => walk_at "ob_ex"))
  | (refine Ex.new ?obg ?obh; (case obh => walk_at "ob_fr"); (case obg => walk_at "ob_ex")))
local macro_rules | `(tactic| walk_at "ob_sq") => `(tactic| first
  | assumption
  | (refine SqL.of ?oba; (case oba => walk_at "ob_at"))
  | (refine Ex.sqT (F := ?_) ?obg ?obh; (case obh => assumption); (case obg => walk_at "ob_ex"))
  | (refine Ex.sqL (F := ?_) ?obg ?obh; (case obh => assumption); (case obg => walk_at "ob_ex"))
  | (refine SqT.of ?oba; (case oba => walk_at "ob_at")))
local macro_rules | `(tactic| walk_at "ob_side") => `(tactic| first | exact rfl | assumption | decide | omega | exact ⟨by decide, by decide, by decide⟩ | exact Or.inr ⟨by decide, by decide⟩ | exact Or.inl ⟨by decide, by decide⟩ | exact wide_div (b := 60) (by first | decide | omega) (by first | decide | omega) (by decide) (by decide))
local macro_rules | `(tactic| walk_at "ob1") => `(tactic| first
  | with_reducible refine sw_seq ?_
  | with_reducible refine sw_asg ?_
  | with_reducible refine sw_ret ?_
  | with_reducible refine sw_par ?_
  | with_reducible refine ⟨_, _, rfl, ?_⟩
  | with_reducible refine sw_drop ?_
  | with_reducible refine sw_if ?_
  | with_reducible refine sw_next ?_
  | with_reducible refine gw_name ?_
  | with_reducible refine gw_subL (by assumption) ?_
  | with_reducible refine gsw_cons ?_
  | with_reducible refine gsw_nil ?_
  | with_reducible refine ew_c ?_
  | ((with_reducible refine' ew_var (v := ?_) ?obv ?_); (case obv => exact rfl))
  | ((with_reducible refine ew_next (by assumption) ?obv ?_); (case obv => exact rfl))
  | ((with_reducible refine ew_world (by assumption) ?obv ?_); (case obv => exact rfl))
  | ((with_reducible refine ew_rule (by assumption) ?obv ?_); (case obv => exact rfl))
  | with_reducible refine ew_op ?_
  | with_reducible refine ew_un ?_
  | with_reducible refine ew_dget (by assumption) ?_
  | with_reducible refine uw_I ?_
  | with_reducible refine ppw_nil ?_
  | with_reducible refine ppw_cons ?_
  | with_reducible refine sw_dput (by assumption) ?_
  | with_reducible refine ew_cb ?_
  | with_reducible refine ew_if ?_
  | with_reducible refine ew_slL (by assumption) ?_
  | with_reducible refine ow_some ?_
  | with_reducible refine ow_none ?_
  | with_reducible refine aw_nil ?_
  | with_reducible refine aw_cons ?_
  | with_reducible refine rw_I0 ?_
  | ((with_reducible refine rw_I ?obc ?_); (case obc => walk_at "ob_side"))
  | with_reducible refine rw_isN ?_
  | with_reducible refine rw_notN ?_
  | ((with_reducible refine rw_eq ?obc ?_); (case obc => exact rfl))
  | ((with_reducible refine rw_ne ?obc ?_); (case obc => exact rfl))
  | with_reducible refine cw_max2 ?_
  | with_reducible refine cw_min2 ?_
  | with_reducible refine tw_test ?_
  | with_reducible refine tw_B ?_
  | with_reducible refine tw_not ?_
  | with_reducible refine tw_truB ?_
  | with_reducible refine tw_and ?_
  | with_reducible refine tw_or ?_
  | with_reducible refine ew_and ?_
  | (refine' Exists.intro _ (And.intro (show V.bl _ = V.bl _ from rfl) ?_))
  | (refine' Exists.intro _ (And.intro (show V.int _ = V.int _ from rfl) ?_))
  | ((with_reducible refine' rw_ixL (v := ?_) (xs := ?_) (by assumption) ?obl ?oba ?_); (case obl => walk_at "ob_sq"); (case oba => first | exact rfl | exact at_zero))
  | ((with_reducible refine' rw_ixT (v := ?_) (xs := ?_) (by assumption) ?obl ?oba ?_); (case obl => walk_at "ob_sq"); (case oba => first | exact rfl | exact at_zero))
  | ((with_reducible refine' ew_lst (by assumption) ?_))
  | ((with_reducible refine' ew_tup (by assumption) ?_)))
local macro_rules | `(tactic| walk_at "ob_len") => `(tactic| first | exact Nat.le_of_ble_eq_true rfl | (simp; done) | omega)
local macro_rules | `(tactic| walk_at "ob") => `(tactic| repeat walk_at "ob1")

/-! ### orders -/
def mx (i k : Int) : Int := if k > i then k else i
def needF (x p : Int × Int) : Int × Int := (mx x.1 (x.2 + p.1), x.2 + p.2)
def needL (ps : List (Int × Int)) : Int × Int := ps.foldl needF (0, 0)
def stepsN (ss : List Stp) : List (Int × Int) := ss.map fun st => (st.draw, st.draw - st.back)
def needS (ss : List Stp) : Int × Int := needL (stepsN ss)
def leastT (ns : List (Int × Int)) (turn : List Nat) : Int := (needL (turn.map fun k => ns.getD k (0, 0))).1
def needsW (w : Wld) : List (Int × Int) := w.ms.map needS
def aNeedLine (K : PySem.W.Frag) : List V → Hp → VK → Prop := fun vs F R => ∃ (a : Addr) (xs : List V) (ps : List (Int × Int)), vs = [.ref a] ∧ SqL K F a xs ∧ Prs F xs ps ∧ ps.length ≤ 100 ∧ ∀ (q : Addr) (F' : Hp), Ex F F' → F q = none → F' q = some (.tup [.int (needL ps).1, .int (needL ps).2]) → R (.ref q) F'
def aNeedSteps (K : PySem.W.Frag) : List V → Hp → VK → Prop := fun vs F R => ∃ (v : V) (ss : List Stp), vs = [v] ∧ Dp K F v (macD ss) ∧ ss.length ≤ 6 ∧ ∀ (q : Addr) (F' : Hp), Ex F F' → F q = none → F' q = some (.tup [.int (needS ss).1, .int (needS ss).2]) → R (.ref q) F'
def aLeastTurn (K : PySem.W.Frag) : List V → Hp → VK → Prop := fun vs F R => ∃ (a b : Addr) (xs : List V) (ps : List (Int × Int)) (tn : List Nat), vs = [.ref a, .ref b] ∧ SqL K F a xs ∧ Prs F xs ps ∧ SqT K F b (tn.map fun k => V.int (k : Nat)) ∧ (∀ k ∈ tn, k < ps.length) ∧ tn.length ≤ 100 ∧ ∀ F', Ex F F' → R (.int (leastT ps tn)) F'
def aOrder (K : PySem.W.Frag) : List V → Hp → VK → Prop := fun vs F R => ∃ (v : V) (w : Wld), vs = [v] ∧ Dp K F v (wldD w) ∧ WldOk w ∧
  (∀ (i : Nat) (q : Addr) (F' : Hp), i < facN w.ms.length → leastT (needsW w) (idxP w.ms.length i) ≤ w.start → (∀ j, j < i → w.start < leastT (needsW w) (idxP w.ms.length j)) → Ex F F' → F q = none → F' q = some (.lst ((idxP w.ms.length i).map fun k => V.int (k : Nat))) → R (.ref q) F') ∧
  ((∀ j, j < facN w.ms.length → w.start < leastT (needsW w) (idxP w.ms.length j)) → ∀ F', Ex F F' → R .non F')
def aLeastStart (K : PySem.W.Frag) : List V → Hp → VK → Prop := fun vs F R => ∃ (v : V) (w : Wld), vs = [v] ∧ Dp K F v (wldD w) ∧ WldOk w ∧
  (∀ (m : Int) (F' : Hp), (∃ i, i < facN w.ms.length ∧ m = leastT (needsW w) (idxP w.ms.length i)) → (∀ j, j < facN w.ms.length → m ≤ leastT (needsW w) (idxP w.ms.length j)) → Ex F F' → (m ≤ w.cap → R (.int m) F') ∧ (w.cap < m → R .non F'))
def aNeedOf (K : PySem.W.Frag) : List V → Hp → VK → Prop := fun vs F R => ∃ (v : V) (w : Wld) (k : Nat) (ss : List Stp), vs = [v, .int (k : Nat)] ∧ Dp K F v (wldD w) ∧ WldOk w ∧ w.ms[k]? = some ss ∧ ∀ (q : Addr) (F' : Hp), Ex F F' → F q = none → F' q = some (.tup [.int (needS ss).1, .int (needS ss).2]) → R (.ref q) F'
theorem facN_pos {n : Nat} (h5 : n ≤ 5) : 0 < facN n := by
  match n, h5 with
  | 0, _ => decide
  | 1, _ => decide
  | 2, _ => decide
  | 3, _ => decide
  | 4, _ => decide
  | 5, _ => decide
  | k + 6, h => omega
theorem cw_min1 {S : Type} {J : S → Hp → Hp → Prop} {K : PySem.W.Frag} {s : S} {F : Hp} {R : V → S → Hp → Prop} (hd : Hid J) {a : Addr} {ns : List Int} (l : SqL K F a (ns.map V.int)) (h0 : 0 < ns.length) (h : ∀ m, m ∈ ns → (∀ y, y ∈ ns → m ≤ y) → R (.int m) s F) : CW J (rMin K) [.ref a] s F R := fun H j Q q => ⟨a, ns, rfl, hd.sqL j l, h0, fun m hm hle => q _ _ _ _ j (h m hm hle)⟩
theorem cw_listT {S : Type} {J : S → Hp → Hp → Prop} {K : PySem.W.Frag} {s : S} {F : Hp} {R : V → S → Hp → Prop} (hd : Hid J) {p : Addr} {ys : List V} (l : SqT K F p ys) (h : ∀ a, F a = none → R (.ref a) s (upd F a (.lst ys))) : CW J (fun xs H Q => ∃ p ys, xs = [.ref p] ∧ (SqL K H p ys ∨ SqT K H p ys) ∧ ∀ l, H l = none → Q (.ref l) (upd H l (.lst ys))) [.ref p] s F R := cw_list hd (Or.inr l) h
section
variable {P : Program} {w : World} {K : PySem.W.Frag} {mg : Str → Option Value} {base : Heap}

abbrev s_need_in_line : Stmt := top 31
def N_need_in_line : List Str := ["needs", "all_least", "all_less", "least", "less"]
theorem sc_need_in_line : FnScope N_need_in_line ["needs"] (defScope s_need_in_line) := ⟨rfl, rfl, rfl, by decide +kernel, rfl, by decide +kernel, by decide +kernel⟩
theorem ok_need_in_line {f : Addr} {fd : FuncData}  (Fn : Fun K "need_in_line" "need_in_line" s_need_in_line f fd) (B : Blt mg)  : FnOk P w K mg base CX0 1 f fd ["needs"] (LS (aNeedLine K)) := by
  refine Fn.ok sc_need_in_line (fun vs H Q E h => ?_) (fun cdv A outer s H vs Q E hr h => ?_)
  · obtain ⟨J, F, R, hd, j, h, _⟩ := h
    obtain ⟨a, xs, ps, rfl, _⟩ := h
    rfl
  · have nd := sc_need_in_line.nd
    obtain ⟨J, F, R, hd, j, h, q⟩ := h
    obtain ⟨a, xs, ps, rfl, hl, hx, hn, k⟩ := h
    refine ⟨_, (pss_cons (ps_set (i := 1) nd rfl (Or.inl rfl) pe_int)
      (pss_cons (ps_set (i := 2) nd rfl (Or.inl rfl) pe_int)
      (pss_cons (ps_for PassesOwn.never rfl (pi_list (pv 0)) (pg_tup rfl (pgs_cons (pg_name (i := 3) nd rfl (Or.inl rfl)) (pgs_cons (pg_name (i := 4) nd rfl (Or.inl rfl)) pgs_nil))) (pss_cons (ps_set (i := 1) nd rfl (Or.inl rfl) (pe_callB (call_max2 rfl) (by rfl) B.max (by decide +kernel) (pa_cons (pv 1) (pa_cons (pe_op op_add (pv 2) (pv 3)) pa_nil))))
      (pss_one (ps_aug (i := 2) nd rfl (.inl rfl) (pv 4) ip_add))))
      (pss_one (ps_ret (pe_tup (pa_cons (pv 1) (pa_cons (pv 2) pa_nil)))))))), ?_⟩
    refine LS.body j q ?_
    walk_at "ob"
    refine sw_mid (fun σ _ G => ∃ (x3 x4 : Option V), σ = [some (.ref a), some (.int (needL ps).1), some (.int (needL ps).2), x3, x4] ∧ F = G) ?_ ?_
    · refine sw_forL hd (ew_var rfl ?_)
      refine ⟨a, xs, fun i σ _ G => ∃ (x3 x4 : Option V) (y : Int × Int), σ = [some (.ref a), some (.int y.1), some (.int y.2), x3, x4] ∧ F = G ∧ y = (ps.take i).foldl needF (0, 0), rfl, hl, ⟨none, none, (0, 0), rfl, rfl, rfl⟩, ?_, ?_, ?_⟩
      · rintro i σ _ G hi ⟨x3, x4, y, rfl, rfl, _⟩
        exact hl
      · rintro i x σ _ G hi ⟨x3, x4, y, rfl, rfl, ey⟩
        obtain ⟨t, p, ex, ht, hp⟩ := hx.get hi
        subst ex
        refine gw_tup hd ⟨t, _, rfl, SqT.of ht, rfl, ?_⟩
        walk_at "ob"
        refine sw_aug (a := y.2) rfl (ew_var rfl ⟨p.2, rfl, ?_⟩)
        refine ⟨_, _, needF y p, rfl, rfl, ?_⟩
        rw [List.take_succ, hp, List.foldl_append, ← ey]
        rfl
      · rintro σ _ G ⟨x3, x4, y, rfl, rfl, ey⟩
        rw [hx.len, List.take_length] at ey
        refine ⟨x3, x4, ?_, rfl⟩
        rw [ey]
        rfl
    · rintro σ _ G ⟨x3, x4, rfl, rfl⟩
      walk_at "ob"
      exact ⟨by walk_at "ob_len", fun q hq => k q _ (Ex.new (.refl _) hq) hq upd_same⟩

abbrev s_need_of_steps : Stmt := top 30
def N_need_of_steps : List Str := ["steps", "draw", "_", "back"]
theorem sc_need_of_steps : FnScope N_need_of_steps ["steps"] (defScope s_need_of_steps) := ⟨rfl, rfl, rfl, by decide +kernel, rfl, by decide +kernel, by decide +kernel⟩
theorem ok_need_of_steps {f : Addr} {fd : FuncData} {f1 : Addr} {fd1 : FuncData} (Fn : Fun K "need_of_steps" "need_of_steps" s_need_of_steps f fd) (B : Blt mg) (Cneed_in_line : Cal K mg "need_in_line" f1 fd1 ["needs"]) (Gneed_in_line : FnOk P w K mg base CX0 1 f1 fd1 ["needs"] (LS (aNeedLine K))) : FnOk P w K mg base CX0 2 f fd ["steps"] (LS (aNeedSteps K)) := by
  refine Fn.ok sc_need_of_steps (fun vs H Q E h => ?_) (fun cdv A outer s H vs Q E hr h => ?_)
  · obtain ⟨J, F, R, hd, j, h, _⟩ := h
    obtain ⟨v, ss, rfl, _⟩ := h
    rfl
  · have nd := sc_need_of_steps.nd
    obtain ⟨J, F, R, hd, j, h, q⟩ := h
    obtain ⟨v, ss, rfl, dv, hs6, k⟩ := h
    refine ⟨_, (pss_one (ps_ret (pe_call Gneed_in_line (by exact hr.mono (by decide)) (by rfl) Cneed_in_line.g Cneed_in_line.k Cneed_in_line.a .nil pass0 (pa_cons (pe_lc (own := [("draw", 1), ("_", 2), ("back", 3)]) (g := (gTup K 3 (gCons (gName 1) (gCons (gName 2) (gCons (gName 3) gNil))))) (te := (tTup (tCons (tVar 1) (tCons (tOp (rI0 fun i j => .int (i - j)) (tVar 1) (tVar 3)) tNil)))) (tt := tYes) (by rfl) nd (pi_tup (pv 0)) (blkOk_by (own := [("draw", 1), ("_", 2), ("back", 3)]) (N := N_need_of_steps) (sc := defScope s_need_of_steps) (by decide +kernel)) (fun _ _ _ _ _ => (pg_tup rfl (pgs_cons (pg_name (i := 1) nd rfl (Or.inl rfl)) (pgs_cons (pg_name (i := 2) nd rfl (Or.inl rfl)) (pgs_cons (pg_name (i := 3) nd rfl (Or.inl rfl)) pgs_nil))))) (fun _ _ _ _ _ => pts_nil) (fun _ _ _ _ _ => (pe_tup (pa_cons (pv 1) (pa_cons (pe_op op_sub (pv 1) (pv 3)) pa_nil))))) pa_nil)))), ?_⟩
    refine LS.body j q ?_
    obtain ⟨sa, ys, rfl, ly, dys⟩ := dp_tup dv
    have hyl : ys.length = ss.length := by have := dps_len dys; simpa using this
    refine sw_ret (ew_call hd (aw_cons (ew_lcT hd (ew_var rfl ?_))))
    refine ⟨sa, ys, rfl, ly, by omega, fun Dl hDl => ?_⟩
    refine ⟨fun i acc _ G => Ex F G ∧ Prs G acc (stepsN (ss.take i)), ⟨.refl _, .nil⟩, ?_, ?_, ?_⟩
    · rintro i acc _ G hi hg ⟨g, hp⟩
      refine ⟨g.sqT ly, ?_⟩
      rw [hp.len, stepsN, List.length_map]
      exact List.length_take_le _ _
    · rintro i acc x _ G hi hg ⟨g, hp⟩
      have hd' := hd.jd (D := Dl) (acc := acc)
      obtain ⟨d, hd1, hd2⟩ := dps_get' dys hi
      rw [List.getElem?_map] at hd1
      obtain ⟨st, hst, rfl⟩ := Option.map_eq_some_iff.mp hd1
      obtain ⟨ta, zs, rfl, lz, dzs⟩ := dp_tup (dp_ex g hd2)
      obtain ⟨v1, v2, v3, rfl, e1, e2, e3⟩ := dps3 dzs
      cases dp_int e1
      cases dp_int e2
      cases dp_int e3
      refine gw_tup hd' ⟨ta, _, rfl, lz, rfl, gsw_cons (gw_name (gsw_cons (gw_name (gsw_cons (gw_name (gsw_nil ⟨rfl, tw_yes ⟨fun _ => ?_, (fun z => by cases z)⟩⟩))))))⟩
      refine ew_tup hd' (aw_cons (ew_var rfl (aw_cons (ew_op (ew_var rfl (ew_var rfl (rw_I0 (aw_nil ⟨by walk_at "ob_len", fun tp htp => ?_⟩))))))))
      refine ⟨Ex.new g htp, ?_⟩
      rw [List.take_succ, hst, stepsN, List.map_append]
      exact Prs.snoc (p := (st.draw, st.draw - st.back)) upd_same (hp.ex (Ex.new (.refl _) htp))
    · rintro acc _ G hg ⟨g, hp⟩
      rw [hyl, List.take_length] at hp
      have g2 : Ex G (upd G Dl (.lst acc)) := Ex.new (.refl _) hg
      refine aw_nil ⟨Dl, acc, stepsN ss, rfl, SqL.of upd_same, hp.ex g2, by rw [stepsN, List.length_map]; omega, fun q F' g3 hq e => ?_⟩
      exact k q F' (g.trans (g2.trans g3)) ((g.trans g2).free hq) e

abbrev s_need_of : Stmt := top 29
def N_need_of : List Str := ["world", "machine", "_", "machines"]
theorem sc_need_of : FnScope N_need_of ["world", "machine"] (defScope s_need_of) := ⟨rfl, rfl, rfl, by decide +kernel, rfl, by decide +kernel, by decide +kernel⟩
theorem ok_need_of {f : Addr} {fd : FuncData} {f1 f2 f3 : Addr} {fd1 fd2 fd3 : FuncData} (Fn : Fun K "need_of" "need_of" s_need_of f fd) (B : Blt mg) (Ccheck_world : Cal K mg "check_world" f1 fd1 ["world"]) (Gcheck_world : FnOk P w K mg base CX0 3 f1 fd1 ["world"] (LS (aChkW K))) (Cneed_of_steps : Cal K mg "need_of_steps" f2 fd2 ["steps"]) (Gneed_of_steps : FnOk P w K mg base CX0 2 f2 fd2 ["steps"] (LS (aNeedSteps K))) (Ccheck_count : Cal K mg "check_count" f3 fd3 ["many", "least", "most"]) (Gcheck_count : FnOk P w K mg base CX0 1 f3 fd3 ["many", "least", "most"] (LS aCount)) : FnOk P w K mg base CX0 4 f fd ["world", "machine"] (LS (aNeedOf K)) := by
  refine Fn.ok sc_need_of (fun vs H Q E h => ?_) (fun cdv A outer s H vs Q E hr h => ?_)
  · obtain ⟨J, F, R, hd, j, h, _⟩ := h
    obtain ⟨v, w, kk, ss, rfl, _⟩ := h
    rfl
  · have nd := sc_need_of.nd
    obtain ⟨J, F, R, hd, j, h, q⟩ := h
    obtain ⟨v, w, kk, ss, rfl, dv, hw, hss, k⟩ := h
    refine ⟨_, (pss_cons (ps_expr (pe_call Gcheck_world (by exact hr.mono (by decide)) (by rfl) Ccheck_world.g Ccheck_world.k Ccheck_world.a .nil pass0 (pa_cons (pv 0) pa_nil)))
      (pss_cons (ps_asg (pv 0) (pg_tup rfl (pgs_cons (pg_name (i := 2) nd rfl (Or.inl rfl)) (pgs_cons (pg_name (i := 3) nd rfl (Or.inl rfl)) pgs_nil))))
      (pss_cons (ps_expr (pe_call Gcheck_count (by exact hr.mono (by decide)) (by rfl) Ccheck_count.g Ccheck_count.k Ccheck_count.a .nil pass0 (pa_cons (pv 1) (pa_cons pe_int (pa_cons (pe_op op_sub (pe_callB call_len_seq (by rfl) B.len (by decide +kernel) (pa_cons (pv 3) pa_nil)) pe_int) pa_nil)))))
      (pss_one (ps_ret (pe_call Gneed_of_steps (by exact hr.mono (by decide)) (by rfl) Cneed_of_steps.g Cneed_of_steps.k Cneed_of_steps.a .nil pass0 (pa_cons (pe_ix ix_tup (pv 3) (pv 1) (fun _ _ => rfl)) pa_nil))))))), ?_⟩
    refine LS.body j q ?_
    obtain ⟨wa, xs, rfl, lx, dxs⟩ := dp_tup dv
    obtain ⟨sv, mv, rfl, ds, dm⟩ := dps2 dxs
    obtain ⟨ma, zs, rfl, lz, dzs⟩ := dp_tup dm
    have hzl : zs.length = w.ms.length := by have := dps_len dzs; simpa using this
    have hkl := (List.getElem?_eq_some_iff.mp hss).1
    obtain ⟨x, hx, dx⟩ := dps_get dzs (show (w.ms.map macD)[kk]? = some (macD ss) by rw [List.getElem?_map, hss]; rfl)
    refine sw_seq (sw_drop (ew_call hd ?_))
    walk_at "ob"
    refine ⟨.ref wa, w, rfl, .tup lx (.cons ds (.cons dm .nil)), hw, fun F1 g1 => ?_⟩
    refine sw_seq (sw_asg ?_)
    walk_at "ob"
    refine gw_tup hd ⟨wa, _, rfl, g1.sqT lx, rfl, gsw_cons (gw_name (gsw_cons (gw_name (gsw_nil ?_))))⟩
    refine sw_seq (sw_drop (ew_call hd (aw_cons (ew_var rfl (aw_cons (ew_c ?_))))))
    refine aw_cons (ew_op (ew_cb (aw_cons (ew_var rfl (aw_nil (cw_lenS hd (Or.inr (g1.sqT lz)) ?_))))))
    refine ew_c (rw_I0 (aw_nil ⟨_, _, _, rfl, by omega, by omega, ?_⟩))
    refine sw_ret (ew_call hd (aw_cons (ew_op (ew_var rfl (ew_var rfl (rw_ixT hd (g1.sqT lz) (atI_nat hx) (aw_nil ?_)))))))
    exact ⟨x, ss, rfl, dp_ex g1 dx, hw.n ss (List.mem_of_getElem? hss), fun q F' g2 hq e => k q F' (g1.trans g2) (g1.free hq) e⟩
end
end Obr
namespace Obr
open PySem L2 PyProof.Rows Obp
/-! ### orders: bounds -/
theorem mx_le {a b c : Int} : mx a b ≤ c ↔ a ≤ c ∧ b ≤ c := by unfold mx; split <;> omega
theorem le_mx1 {a b : Int} : a ≤ mx a b := by unfold mx; split <;> omega
theorem le_mx2 {a b : Int} : b ≤ mx a b := by unfold mx; split <;> omega
/-- going through pairs from (m, s): what must be there is the greatest of m and each prefix's -/
theorem needF_snd : ∀ (ps : List (Int × Int)) (x : Int × Int), (ps.foldl needF x).2 = x.2 + (ps.map (·.2)).sum
  | [], x => by simp
  | p :: ps, x => by
    rw [List.foldl_cons, needF_snd ps]
    show x.2 + p.2 + _ = _
    rw [List.map_cons, List.sum_cons]
    omega
theorem needF_le : ∀ (ps : List (Int × Int)) (x : Int × Int) (c : Int), (ps.foldl needF x).1 ≤ c ↔ x.1 ≤ c ∧ ∀ (i : Nat) (p : Int × Int), ps[i]? = some p → x.2 + ((ps.take i).map (·.2)).sum + p.1 ≤ c
  | [], x, c => by simp
  | p :: ps, x, c => by
    rw [List.foldl_cons, needF_le ps]
    show mx x.1 (x.2 + p.1) ≤ c ∧ _ ↔ _
    rw [mx_le]
    constructor
    · rintro ⟨⟨h1, h2⟩, h3⟩
      refine ⟨h1, fun i q hq => ?_⟩
      cases i with
      | zero =>
        simp at hq
        subst hq
        simpa using h2
      | succ i =>
        have := h3 i q (by simpa using hq)
        rw [List.take_succ_cons, List.map_cons, List.sum_cons]
        have e : (needF x p).2 = x.2 + p.2 := rfl
        rw [e] at this
        omega
    · rintro ⟨h1, h2⟩
      refine ⟨⟨h1, ?_⟩, fun i q hq => ?_⟩
      · have := h2 0 p rfl
        simpa using this
      · have := h2 (i + 1) q (by simpa using hq)
        rw [List.take_succ_cons, List.map_cons, List.sum_cons] at this
        have e : (needF x p).2 = x.2 + p.2 := rfl
        rw [e]
        omega
theorem needL_snd (ps : List (Int × Int)) : (needL ps).2 = (ps.map (·.2)).sum := by
  unfold needL; rw [needF_snd]; simp
theorem needL_le (ps : List (Int × Int)) (c : Int) : (needL ps).1 ≤ c ↔ 0 ≤ c ∧ ∀ (i : Nat) (p : Int × Int), ps[i]? = some p → ((ps.take i).map (·.2)).sum + p.1 ≤ c := by
  unfold needL
  rw [needF_le]
  simp
theorem needL_ge0 (ps : List (Int × Int)) : 0 ≤ (needL ps).1 := ((needL_le ps _).mp (Int.le_refl _)).1
/-- a pair as a machine has it -/
def PairOk (p : Int × Int) : Prop := 0 ≤ p.2 ∧ p.2 ≤ p.1
theorem sum_nn : ∀ {l : List Int}, (∀ x ∈ l, 0 ≤ x) → 0 ≤ l.sum
  | [], _ => by simp
  | x :: l, h => by
    rw [List.sum_cons]
    have := h x List.mem_cons_self
    have := sum_nn (l := l) fun y hy => h y (List.mem_cons_of_mem _ hy)
    omega
theorem sum_take {l : List (Int × Int)} (h : ∀ p ∈ l, PairOk p) (i : Nat) : 0 ≤ ((l.take i).map (·.2)).sum := sum_nn fun x hx => by
  obtain ⟨p, hp, rfl⟩ := List.mem_map.mp hx
  exact (h p (List.mem_of_mem_take hp)).1
theorem take_sum_le {l : List (Int × Int)} (h : ∀ p ∈ l, PairOk p) {i : Nat} {p : Int × Int} (hi : l[i]? = some p) : ((l.take i).map (·.2)).sum + p.2 ≤ (l.map (·.2)).sum ∧ ((l.take i).map (·.2)).sum + p.1 ≤ (l.map (·.1)).sum := by
  induction l generalizing i with
  | nil => simp at hi
  | cons q l ih =>
    have hq := h q List.mem_cons_self
    have hl : ∀ p ∈ l, PairOk p := fun p hp => h p (List.mem_cons_of_mem _ hp)
    cases i with
    | zero =>
      simp at hi
      subst hi
      have h1 : 0 ≤ (l.map (·.2)).sum := sum_nn fun x hx => by
        obtain ⟨p, hp, rfl⟩ := List.mem_map.mp hx
        exact (hl p hp).1
      have h2 : 0 ≤ (l.map (·.1)).sum := sum_nn fun x hx => by
        obtain ⟨p, hp, rfl⟩ := List.mem_map.mp hx
        have := hl p hp
        exact Int.le_trans this.1 this.2
      simp
      omega
    | succ i =>
      have := ih hl (i := i) (by simpa using hi)
      rw [List.take_succ_cons, List.map_cons, List.sum_cons, List.map_cons, List.sum_cons, List.map_cons, List.sum_cons]
      have := hq.2
      omega
/-- bounds of what must be there for pairs in line -/
theorem needL_bounds {ps : List (Int × Int)} (h : ∀ p ∈ ps, PairOk p) : (∀ p ∈ ps, p.1 ≤ (needL ps).1) ∧ (ps.map (·.2)).sum ≤ (needL ps).1 ∧ (needL ps).1 ≤ (ps.map (·.1)).sum := by
  have hle := (needL_le ps _).mp (Int.le_refl _)
  refine ⟨fun p hp => ?_, ?_, ?_⟩
  · obtain ⟨i, hi⟩ := List.getElem?_of_mem hp
    have := hle.2 i p hi
    have := sum_take h i
    omega
  · rcases List.eq_nil_or_concat ps with e | ⟨qs, q, e⟩
    · subst e; exact hle.1
    · rw [List.concat_eq_append] at e
      have := hle.2 qs.length q (by rw [e]; simp)
      rw [e] at this ⊢
      simp only [List.take_left, List.map_append, List.sum_append, List.map_cons, List.map_nil, List.sum_cons, List.sum_nil] at this ⊢
      have hq := h q (by rw [e]; simp)
      have := hq.2
      omega
  · refine (needL_le ps _).mpr ⟨?_, fun i p hi => (take_sum_le h hi).2⟩
    exact sum_nn fun x hx => by
      obtain ⟨p, hp, rfl⟩ := List.mem_map.mp hx
      have := h p hp
      exact Int.le_trans this.1 this.2
theorem stepsN_ok {cap : Int} {ss : List Stp} (h : ∀ st ∈ ss, StpOk cap st) : ∀ p ∈ stepsN ss, PairOk p := fun p hp => by
  obtain ⟨st, hst, rfl⟩ := List.mem_map.mp hp
  have := h st hst
  exact ⟨by show 0 ≤ st.draw - st.back; have := this.b1; omega, by show st.draw - st.back ≤ st.draw; have := this.b0; omega⟩
theorem needS_ok {cap : Int} {ss : List Stp} (h : ∀ st ∈ ss, StpOk cap st) : PairOk (needS ss) := by
  have hb := needL_bounds (stepsN_ok h)
  refine ⟨?_, ?_⟩
  · show 0 ≤ (needL _).2
    rw [needL_snd]
    exact sum_nn fun x hx => by
      obtain ⟨p, hp, rfl⟩ := List.mem_map.mp hx
      exact (stepsN_ok h p hp).1
  · show (needL _).2 ≤ (needL _).1
    rw [needL_snd]
    exact hb.2.1
theorem needsW_ok {w : Wld} (hw : WldOk w) : ∀ p ∈ needsW w, PairOk p := fun p hp => by
  obtain ⟨ss, hss, rfl⟩ := List.mem_map.mp hp
  exact needS_ok (hw.st ss hss)
/-- a turn of all -/
theorem idx_perm {n i : Nat} (h5 : n ≤ 5) (hi : i < facN n) : (idxP n i).Perm (List.range n) := by
  revert i
  match n, h5 with
  | 0, _ => decide +kernel
  | 1, _ => decide +kernel
  | 2, _ => decide +kernel
  | 3, _ => decide +kernel
  | 4, _ => decide +kernel
  | 5, _ => decide +kernel
  | k + 6, h => omega
theorem range_getD (ns : List (Int × Int)) : (List.range ns.length).map (fun k => ns.getD k (0, 0)) = ns := by
  refine List.ext_getElem? fun i => ?_
  rw [List.getElem?_map]
  by_cases h : i < ns.length
  · rw [List.getElem?_range h]
    simp [h]
  · rw [List.getElem?_eq_none (by simp; omega), List.getElem?_eq_none (by omega)]
    rfl
theorem perm_sum {l m : List Int} (h : l.Perm m) : l.sum = m.sum := by
  induction h with
  | nil => rfl
  | cons x _ ih => rw [List.sum_cons, List.sum_cons, ih]
  | swap x y l => simp only [List.sum_cons]; omega
  | trans _ _ h1 h2 => rw [h1, h2]
theorem turn_perm' {ns : List (Int × Int)} {i : Nat} (h5 : ns.length ≤ 5) (hi : i < facN ns.length) : ((idxP ns.length i).map fun k => ns.getD k (0, 0)).Perm ns := by
  have := (idx_perm h5 hi).map fun k => ns.getD k (0, 0)
  rwa [range_getD] at this
theorem leastT_bounds {ns : List (Int × Int)} (h : ∀ p ∈ ns, PairOk p) {i : Nat} (h5 : ns.length ≤ 5) (hi : i < facN ns.length) : (∀ p ∈ ns, p.1 ≤ leastT ns (idxP ns.length i)) ∧ (ns.map (·.2)).sum ≤ leastT ns (idxP ns.length i) ∧ leastT ns (idxP ns.length i) ≤ (ns.map (·.1)).sum := by
  have hp := turn_perm' h5 hi
  have hb := needL_bounds (ps := (idxP ns.length i).map fun k => ns.getD k (0, 0)) fun p hp' => h p (hp.mem_iff.mp hp')
  refine ⟨fun p hp' => hb.1 p (hp.mem_iff.mpr hp'), ?_, ?_⟩
  · have e := perm_sum (hp.map (·.2))
    rw [← e]; exact hb.2.1
  · have e := perm_sum (hp.map (·.1))
    rw [← e]; exact hb.2.2
/-! machines that give all back -/
def bkS (st : Stp) : Stp := ⟨st.draw, st.long, st.draw⟩
def bkW (w : Wld) : Wld := ⟨w.cap, w.start, w.refill, w.ms.map fun ss => ss.map bkS⟩
theorem bkW_ok {w : Wld} (hw : WldOk w) : WldOk (bkW w) := ⟨hw.c0, hw.c1, hw.s0, hw.s1, hw.r0, hw.r1, by show (w.ms.map _).length ≤ 5; rw [List.length_map]; exact hw.m, fun ss h => by
  obtain ⟨s0, h0, rfl⟩ := List.mem_map.mp h
  rw [List.length_map]; exact hw.n s0 h0, fun ss h st hst => by
  obtain ⟨s0, h0, rfl⟩ := List.mem_map.mp h
  obtain ⟨t0, h1, rfl⟩ := List.mem_map.mp hst
  have := hw.st s0 h0 t0 h1
  exact ⟨this.d0, this.d1, this.l0, this.l1, this.d0, Int.le_refl _⟩⟩
theorem needL_zero {ps : List (Int × Int)} (h : ∀ p ∈ ps, p.2 = 0) (c : Int) : (needL ps).1 ≤ c ↔ 0 ≤ c ∧ ∀ p ∈ ps, p.1 ≤ c := by
  have hs : ∀ i, ((ps.take i).map (·.2)).sum = 0 := fun i => by
    have e : (ps.take i).map (·.2) = (ps.take i).map fun _ => (0 : Int) := List.map_congr_left fun p hp => h p (List.mem_of_mem_take hp)
    rw [e]
    generalize ps.take i = l
    induction l with
    | nil => rfl
    | cons a l ih => simp [ih]
  rw [needL_le]
  constructor
  · rintro ⟨h0, h1⟩
    refine ⟨h0, fun p hp => ?_⟩
    obtain ⟨i, hi⟩ := List.getElem?_of_mem hp
    have := h1 i p hi
    rw [hs] at this
    omega
  · rintro ⟨h0, h1⟩
    refine ⟨h0, fun i p hi => ?_⟩
    rw [hs]
    have := h1 p (List.mem_of_getElem? hi)
    omega
theorem bk_needS {ss : List Stp} (c : Int) : ((needS (ss.map bkS)).1 ≤ c ↔ 0 ≤ c ∧ ∀ st ∈ ss, st.draw ≤ c) ∧ (needS (ss.map bkS)).2 = 0 := by
  have hz : ∀ p ∈ stepsN (ss.map bkS), p.2 = 0 := fun p hp => by
    obtain ⟨s1, h1, rfl⟩ := List.mem_map.mp hp
    obtain ⟨st, h2, rfl⟩ := List.mem_map.mp h1
    show st.draw - st.draw = 0
    omega
  refine ⟨?_, ?_⟩
  · show (needL _).1 ≤ c ↔ _
    rw [needL_zero hz]
    constructor
    · rintro ⟨h0, h1⟩
      exact ⟨h0, fun st hst => h1 (st.draw, st.draw - st.draw) (List.mem_map.mpr ⟨bkS st, List.mem_map.mpr ⟨st, hst, rfl⟩, rfl⟩)⟩
    · rintro ⟨h0, h1⟩
      refine ⟨h0, fun p hp => ?_⟩
      obtain ⟨s1, h2, rfl⟩ := List.mem_map.mp hp
      obtain ⟨st, h3, rfl⟩ := List.mem_map.mp h2
      exact h1 st h3
  · show (needL _).2 = 0
    rw [needL_snd]
    have e : (stepsN (ss.map bkS)).map (·.2) = (stepsN (ss.map bkS)).map fun _ => (0 : Int) := List.map_congr_left hz
    rw [e]
    generalize stepsN (ss.map bkS) = l
    induction l with
    | nil => rfl
    | cons a l ih => simp [ih]
theorem bk_least {w : Wld} (hw : WldOk w) {i : Nat} (hi : i < facN w.ms.length) (c : Int) : leastT (needsW (bkW w)) (idxP w.ms.length i) ≤ c ↔ 0 ≤ c ∧ ∀ ss ∈ w.ms, ∀ st ∈ ss, st.draw ≤ c := by
  have hl : (needsW (bkW w)).length = w.ms.length := by unfold needsW bkW; simp
  have hp := turn_perm' (ns := needsW (bkW w)) (i := i) (by rw [hl]; exact hw.m) (by rw [hl]; exact hi)
  rw [hl] at hp
  have hmem : ∀ p, p ∈ needsW (bkW w) ↔ ∃ ss ∈ w.ms, p = needS (ss.map bkS) := fun p => by
    unfold needsW bkW
    simp only [List.map_map, List.mem_map, Function.comp]
    constructor
    · rintro ⟨ss, h, rfl⟩; exact ⟨ss, h, rfl⟩
    · rintro ⟨ss, h, rfl⟩; exact ⟨ss, h, rfl⟩
  unfold leastT
  rw [needL_zero fun p hp2 => by
    obtain ⟨ss, _, rfl⟩ := (hmem p).mp (hp.mem_iff.mp hp2)
    exact (bk_needS 0).2]
  constructor
  · rintro ⟨h0, h1⟩
    refine ⟨h0, fun ss hss st hst => ?_⟩
    exact ((bk_needS c).1.mp (h1 _ (hp.mem_iff.mpr ((hmem _).mpr ⟨ss, hss, rfl⟩)))).2 st hst
  · rintro ⟨h0, h1⟩
    refine ⟨h0, fun p hp2 => ?_⟩
    obtain ⟨ss, hss, rfl⟩ := (hmem p).mp (hp.mem_iff.mp hp2)
    exact (bk_needS c).1.mpr ⟨h0, h1 ss hss⟩
theorem idx0 {n : Nat} (h5 : n ≤ 5) : idxP n 0 = List.range n := by
  match n, h5 with
  | 0, _ => decide +kernel
  | 1, _ => decide +kernel
  | 2, _ => decide +kernel
  | 3, _ => decide +kernel
  | 4, _ => decide +kernel
  | 5, _ => decide +kernel
  | k + 6, h => omega
/-- alone: a world of one machine -/
def oneW (w : Wld) (ss : List Stp) : Wld := ⟨w.cap, 0, 0, [ss]⟩
theorem oneW_ok {w : Wld} (hw : WldOk w) {ss : List Stp} (h : ss ∈ w.ms) : WldOk (oneW w ss) := ⟨hw.c0, hw.c1, Int.le_refl _, by show (0 : Int) ≤ w.cap; have := hw.c0; omega, Int.le_refl _, by show (0 : Int) ≤ 9; decide, by show 1 ≤ 5; decide, fun s hs => by rw [List.mem_singleton.mp hs]; exact hw.n ss h, fun s hs => by rw [List.mem_singleton.mp hs]; exact hw.st ss h⟩
theorem eqv_pair {a b c d : Int} : PyData.eqv (.tuple [.int a, .int b]) (.tuple [.int c, .int d]) = decide ((a, b) = (c, d)) := by
  simp only [PyData.eqv, PyData.eqvAll]
  by_cases h1 : a = c <;> by_cases h2 : b = d <;> simp [h1, h2]
theorem mx_is {ss : List Stp} {m : Int} (hm : m ∈ ss.map (fun st => st.draw) ++ [(0 : Int)]) (hu : ∀ y, y ∈ ss.map (fun st => st.draw) ++ [(0 : Int)] → y ≤ m) : m = (needS (ss.map bkS)).1 := by
  have h1 := ((bk_needS (ss := ss) (needS (ss.map bkS)).1).1.mp (Int.le_refl _))
  have h2 : (needS (ss.map bkS)).1 ≤ m := (bk_needS (ss := ss) m).1.mpr ⟨hu 0 (by simp), fun st hst => hu _ (by simp; exact Or.inl ⟨st, hst, rfl⟩)⟩
  have h3 : m ≤ (needS (ss.map bkS)).1 := by
    simp only [List.mem_append, List.mem_singleton, List.mem_map] at hm
    rcases hm with ⟨st, hst, rfl⟩ | rfl
    · exact h1.2 st hst
    · exact h1.1
  omega
theorem most_is {w : Wld} {m : Int} (hm : m ∈ w.ms.map (fun ss => (needS (ss.map bkS)).1) ++ [(0 : Int)]) (hu : ∀ y, y ∈ w.ms.map (fun ss => (needS (ss.map bkS)).1) ++ [(0 : Int)] → y ≤ m) (c : Int) : m ≤ c ↔ 0 ≤ c ∧ ∀ ss ∈ w.ms, ∀ st ∈ ss, st.draw ≤ c := by
  have h0 := hu 0 (by simp)
  constructor
  · intro h
    refine ⟨by omega, fun ss hss st hst => ?_⟩
    have h1 := hu (needS (ss.map bkS)).1 (by simp; exact Or.inl ⟨ss, hss, rfl⟩)
    have h2 := ((bk_needS (ss := ss) (needS (ss.map bkS)).1).1.mp (Int.le_refl _)).2 st hst
    omega
  · rintro ⟨hc, h⟩
    simp only [List.mem_append, List.mem_singleton, List.mem_map] at hm
    rcases hm with ⟨ss, hss, rfl⟩ | rfl
    · exact (bk_needS (ss := ss) c).1.mpr ⟨hc, h ss hss⟩
    · exact hc
/-- rising lists of the same ints are the same -/
theorem srt_eq : ∀ {l m : List Int}, l.Perm m → l.Pairwise (· ≤ ·) → m.Pairwise (· ≤ ·) → l = m
  | [], m, h, _, _ => (h.nil_eq)
  | a :: l, [], h, _, _ => by have := h.length_eq; simp at this
  | a :: l, b :: m, h, h1, h2 => by
    rw [List.pairwise_cons] at h1 h2
    have e : a = b := by
      have ha : a ∈ b :: m := h.mem_iff.mp List.mem_cons_self
      have hb : b ∈ a :: l := h.mem_iff.mpr List.mem_cons_self
      have x1 : a ≤ b := by
        rcases List.mem_cons.mp hb with e | e
        · omega
        · exact h1.1 b e
      have x2 : b ≤ a := by
        rcases List.mem_cons.mp ha with e | e
        · omega
        · exact h2.1 a e
      omega
    subst e
    rw [srt_eq (List.Perm.cons_inv h) h1.2 h2.2]
theorem range_srt (n : Nat) : ((List.range n).map fun k => ((k : Nat) : Int)).Pairwise (· ≤ ·) := by
  rw [List.pairwise_map]
  exact List.pairwise_lt_range.imp fun {a b} h => by show (a : Int) ≤ b; omega
/-- the levels along a turn that can be -/
theorem turn_goes {ns : List (Int × Int)} {tn : List Nat} {start : Int} (h : leastT ns tn ≤ start) {i k : Nat} (hi : tn[i]? = some k) : (ns.getD k (0, 0)).1 ≤ start - ((tn.take i).map fun k => (ns.getD k (0, 0)).2).sum := by
  have := ((needL_le _ _).mp h).2 i (ns.getD k (0, 0)) (by rw [List.getElem?_map, hi]; rfl)
  rw [← List.map_take, List.map_map] at this
  have e : ((fun x : Int × Int => x.2) ∘ fun k => ns.getD k (0, 0)) = fun k => (ns.getD k (0, 0)).2 := rfl
  rw [e] at this
  omega
end Obr
namespace Obr
open PySem L2 PyProof.Rows Obp
local macro_rules | `(tactic| walk_at "ob_at") => `(tactic| first
  | assumption
  | exact upd_same
  | (refine Eq.trans (upd_ne ?obn) ?obr; (case obn => walk_at "ob_ne"); (case obr => walk_at "ob_at")))
local macro_rules | `(tactic| walk_at "ob_ne") => `(tactic| first
  | assumption
  | (refine Ne.symm ?obs; (case obs => assumption))
  | (refine' ne_of_none (H := ?_) ?obe ?obh; (case obh => assumption); (case obe => walk_at "ob_at"))
  | (refine Ne.symm ?obs; (case obs => (refine' ne_of_none (H := ?_) ?obe ?obh; (case obh => assumption); (case obe => walk_at "ob_at")))))
local macro_rules | `(tactic| walk_at "ob_fr") => `(tactic| first
  | assumption
  | (refine Eq.trans (upd_ne ?obn) ?obr; (case obn => walk_at "ob_ne"); (case obr => walk_at "ob_fr"))
  | (refine Ex.free (G := ?_) (by assumption) ?obh; (case obh => walk_at "ob_fr")))
local macro_rules | `(tactic| walk_at "ob_ex") => `(tactic| first
  | assumption
  | exact Ex.refl _
  | (refine Ex.out ?obg ?obh; (case obh => assumption); (case obg => walk_at "ob_ex"))
  | (refine Ex.new ?obg ?obh; (case obh => assumption); (case obg => walk_at "ob_ex"))
  | (refine Ex.new ?obg ?obh; (case obh => walk_at "ob_fr"); (case obg => walk_at "ob_ex")))
local macro_rules | `(tactic| walk_at "ob_sq") => `(tactic| first
  | assumption
  | (refine SqL.of ?oba; (case oba => walk_at "ob_at"))
  | (refine Ex.sqT (F := ?_) ?obg ?obh; (case obh => assumption); (case obg => walk_at "ob_ex"))
  | (refine Ex.sqL (F := ?_) ?obg ?obh; (case obh => assumption); (case obg => walk_at "ob_ex"))
  | (refine SqT.of ?oba; (case oba => walk_at "ob_at")))
local macro_rules | `(tactic| walk_at "ob_side") => `(tactic| first | exact rfl | assumption | decide | omega | exact ⟨by decide, by decide, by decide⟩ | exact Or.inr ⟨by decide, by decide⟩ | exact Or.inl ⟨by decide, by decide⟩ | exact wide_div (b := 60) (by first | decide | omega) (by first | decide | omega) (by decide) (by decide))
local macro_rules | `(tactic| walk_at "ob1") => `(tactic| first
  | with_reducible refine sw_seq ?_
  | with_reducible refine sw_asg ?_
  | with_reducible refine sw_ret ?_
  | with_reducible refine sw_par ?_
  | with_reducible refine ⟨_, _, rfl, ?_⟩
  | with_reducible refine sw_drop ?_
  | with_reducible refine sw_if ?_
  | with_reducible refine sw_next ?_
  | with_reducible refine gw_name ?_
  | with_reducible refine gw_subL (by assumption) ?_
  | with_reducible refine gsw_cons ?_
  | with_reducible refine gsw_nil ?_
  | with_reducible refine ew_c ?_
  | ((with_reducible refine' ew_var (v := ?_) ?obv ?_); (case obv => exact rfl))
  | ((with_reducible refine ew_next (by assumption) ?obv ?_); (case obv => exact rfl))
  | ((with_reducible refine ew_world (by assumption) ?obv ?_); (case obv => exact rfl))
  | ((with_reducible refine ew_rule (by assumption) ?obv ?_); (case obv => exact rfl))
  | with_reducible refine ew_op ?_
  | with_reducible refine ew_un ?_
  | with_reducible refine ew_dget (by assumption) ?_
  | with_reducible refine uw_I ?_
  | with_reducible refine ppw_nil ?_
  | with_reducible refine ppw_cons ?_
  | with_reducible refine sw_dput (by assumption) ?_
  | with_reducible refine ew_cb ?_
  | with_reducible refine ew_if ?_
  | with_reducible refine ew_slL (by assumption) ?_
  | with_reducible refine ow_some ?_
  | with_reducible refine ow_none ?_
  | with_reducible refine aw_nil ?_
  | with_reducible refine aw_cons ?_
  | with_reducible refine rw_I0 ?_
  | ((with_reducible refine rw_I ?obc ?_); (case obc => walk_at "ob_side"))
  | with_reducible refine rw_isN ?_
  | with_reducible refine rw_notN ?_
  | ((with_reducible refine rw_eq ?obc ?_); (case obc => exact rfl))
  | ((with_reducible refine rw_ne ?obc ?_); (case obc => exact rfl))
  | with_reducible refine cw_max2 ?_
  | with_reducible refine cw_min2 ?_
  | with_reducible refine tw_test ?_
  | with_reducible refine tw_B ?_
  | with_reducible refine tw_not ?_
  | with_reducible refine tw_truB ?_
  | with_reducible refine tw_and ?_
  | with_reducible refine tw_or ?_
  | with_reducible refine ew_and ?_
  | (refine' Exists.intro _ (And.intro (show V.bl _ = V.bl _ from rfl) ?_))
  | (refine' Exists.intro _ (And.intro (show V.int _ = V.int _ from rfl) ?_))
  | ((with_reducible refine' rw_ixL (v := ?_) (xs := ?_) (by assumption) ?obl ?oba ?_); (case obl => walk_at "ob_sq"); (case oba => first | exact rfl | exact at_zero))
  | ((with_reducible refine' rw_ixT (v := ?_) (xs := ?_) (by assumption) ?obl ?oba ?_); (case obl => walk_at "ob_sq"); (case oba => first | exact rfl | exact at_zero))
  | ((with_reducible refine' ew_lst (by assumption) ?_))
  | ((with_reducible refine' ew_tup (by assumption) ?_)))
local macro_rules | `(tactic| walk_at "ob_len") => `(tactic| first | exact Nat.le_of_ble_eq_true rfl | (simp; done) | omega)
local macro_rules | `(tactic| walk_at "ob") => `(tactic| repeat walk_at "ob1")

/-! ### floors -/
def bRef (l r : Int) : V := if l ≤ 0 then .int 0 else if r = 0 then .non else .int ((l + r - 1) / r)
def longS (ss : List Stp) : Int := (ss.map fun st => st.long).sum
def longF (w : Wld) : Int := maxZ (w.ms.map longS)
def lacksF (w : Wld) : Int := (w.ms.flatMap fun ss => ss.map fun st => st.draw - st.back).sum - w.start
def aRefill : List V → Hp → VK → Prop := fun vs F R => ∃ l r : Int, vs = [.int l, .int r] ∧ l ≤ 10000 ∧ 0 ≤ r ∧ r ≤ 100 ∧ ∀ F', Ex F F' → R (bRef l r) F'
def aFloors (K : PySem.W.Frag) : List V → Hp → VK → Prop := fun vs F R => ∃ (v : V) (w : Wld), vs = [v] ∧ Dp K F v (wldD w) ∧ WldOk w ∧ ∀ (q : Addr) (F' : Hp), Ex F F' → F q = none → F' q = some (.tup [.int (longF w), bRef (lacksF w) w.refill]) → R (.ref q) F'
theorem long_pos {w : Wld} {ss : List Stp} (hw : WldOk w) (h : ss ∈ w.ms) : 0 ≤ longS ss := by
  have hs := hw.st ss h
  unfold longS
  clear h
  induction ss with
  | nil => exact Int.le_refl _
  | cons a l ih =>
    have h1 := (hs a (.head _)).l0
    have h2 := ih fun y hy => hs y (.tail _ hy)
    rw [List.map_cons, List.sum_cons]
    omega
theorem sum_le {c : Int} : ∀ (l : List Int), (∀ x ∈ l, x ≤ c) → l.sum ≤ l.length * c
  | [], _ => by simp
  | x :: l, h => by
    have h1 := h x (.head _)
    have h2 := sum_le l fun y hy => h y (.tail _ hy)
    rw [List.sum_cons, List.length_cons, Int.natCast_succ, Int.add_mul]
    omega
theorem lacks_le {w : Wld} (hw : WldOk w) : lacksF w ≤ 2970 := by
  have h1 := sum_le (c := 99) (w.ms.flatMap fun ss => ss.map fun st => st.draw - st.back) fun x hx => by
    obtain ⟨ss, hss, hx⟩ := List.mem_flatMap.mp hx
    obtain ⟨st, hst, rfl⟩ := List.mem_map.mp hx
    have z := hw.st ss hss st hst
    have := z.d1
    have := z.b0
    have := hw.c1
    omega
  have h2 : (w.ms.flatMap fun ss => ss.map fun st => st.draw - st.back).length ≤ 30 := by
    have z := flat_len (n := 6) (w.ms.map fun ss => ss.map fun st => st.draw - st.back) fun x hx => by
      obtain ⟨ss, hss, rfl⟩ := List.mem_map.mp hx
      rw [List.length_map]
      exact hw.n ss hss
    rw [List.length_map] at z
    have := hw.m
    rw [List.flatMap]
    omega
  unfold lacksF
  have := hw.s0
  omega
section
variable {P : Program} {w : World} {K : PySem.W.Frag} {mg : Str → Option Value} {base : Heap} {tDRAW tLONG tBACK : Tok}

abbrev s_beats_to_refill : Stmt := top 27
def N_beats_to_refill : List Str := ["lacks", "refill"]
theorem sc_beats_to_refill : FnScope N_beats_to_refill ["lacks", "refill"] (defScope s_beats_to_refill) := ⟨rfl, rfl, rfl, by decide +kernel, rfl, by decide +kernel, by decide +kernel⟩
theorem ok_beats_to_refill {f : Addr} {fd : FuncData}  (Fn : Fun K "beats_to_refill" "beats_to_refill" s_beats_to_refill f fd) (B : Blt mg)  : FnOk P w K mg base CX0 1 f fd ["lacks", "refill"] (LS (aRefill)) := by
  refine Fn.ok sc_beats_to_refill (fun vs H Q E h => ?_) (fun cdv A outer s H vs Q E hr h => ?_)
  · obtain ⟨J, F, R, hd, j, h, _⟩ := h
    obtain ⟨l, r, rfl, _⟩ := h
    rfl
  · have nd := sc_beats_to_refill.nd
    obtain ⟨J, F, R, hd, j, h, q⟩ := h
    obtain ⟨l, r, rfl, hl, hr0, hr1, k⟩ := h
    refine ⟨_, (pss_cons (ps_if (pt_cmpR op_le (pv 0) pe_int (nomark _)) (pss_one (ps_ret pe_int)) pss_nil)
      (pss_cons (ps_if (pt_cmpR op_eq (pv 1) pe_int (nomark _)) (pss_one (ps_ret pe_non)) pss_nil)
      (pss_one (ps_ret (pe_op op_fdivW (pe_op op_sub (pe_op op_add (pv 0) (pv 1)) pe_int) (pv 1)))))), ?_⟩
    refine LS.body j q ?_
    have k0 := k F (.refl _)
    unfold bRef at k0
    walk_at "ob"
    refine ⟨fun hb => ?_, fun hb => ?_⟩
    · rw [if_pos (of_decide_eq_true hb)] at k0
      walk_at "ob"
      exact k0
    · have hb' := of_decide_eq_false hb
      rw [if_neg hb'] at k0
      walk_at "ob"
      rw [show decide (V.int r = V.int 0) = decide (r = 0) from decide_eq_decide.mpr ⟨fun e => by injection e, fun e => by rw [e]⟩]
      refine ⟨fun h0 => ?_, fun h0 => ?_⟩
      · rw [if_pos (of_decide_eq_true h0)] at k0
        walk_at "ob"
        exact k0
      · have h0' := of_decide_eq_false h0
        rw [if_neg h0'] at k0
        have lg : r.natAbs.log2 < 9000 := Nat.lt_of_le_of_lt (Nat.log2_le_self _) (by omega)
        walk_at "ob"
        exact k0

abbrev s_floors : Stmt := top 26
def N_floors : List Str := ["world", "store", "machines", "longest", "lacks", "steps", "step"]
theorem sc_floors : FnScope N_floors ["world"] (defScope s_floors) := ⟨rfl, rfl, rfl, by decide +kernel, rfl, by decide +kernel, by decide +kernel⟩
theorem ok_floors {f : Addr} {fd : FuncData} {f1 f2 : Addr} {fd1 fd2 : FuncData} (Fn : Fun K "floors" "floors" s_floors f fd) (B : Blt mg) (gDRAW : mg "DRAW" = some (.int 0 tDRAW)) (gLONG : mg "LONG" = some (.int 1 tLONG)) (gBACK : mg "BACK" = some (.int 2 tBACK)) (Ccheck_world : Cal K mg "check_world" f1 fd1 ["world"]) (Gcheck_world : FnOk P w K mg base CX0 3 f1 fd1 ["world"] (LS (aChkW K))) (Cbeats_to_refill : Cal K mg "beats_to_refill" f2 fd2 ["lacks", "refill"]) (Gbeats_to_refill : FnOk P w K mg base CX0 1 f2 fd2 ["lacks", "refill"] (LS aRefill)) : FnOk P w K mg base CX0 4 f fd ["world"] (LS (aFloors K)) := by
  refine Fn.ok sc_floors (fun vs H Q E h => ?_) (fun cdv A outer s H vs Q E hr h => ?_)
  · obtain ⟨J, F, R, hd, j, h, _⟩ := h
    obtain ⟨v, w, rfl, _⟩ := h
    rfl
  · have nd := sc_floors.nd
    obtain ⟨J, F, R, hd, j, h, q⟩ := h
    obtain ⟨v, w, rfl, dv, hw, k⟩ := h
    refine ⟨_, (pss_cons (ps_expr (pe_call Gcheck_world (by exact hr.mono (by decide)) (by rfl) Ccheck_world.g Ccheck_world.k Ccheck_world.a .nil pass0 (pa_cons (pv 0) pa_nil)))
      (pss_cons (ps_asg (pv 0) (pg_tup rfl (pgs_cons (pg_name (i := 1) nd rfl (Or.inl rfl)) (pgs_cons (pg_name (i := 2) nd rfl (Or.inl rfl)) pgs_nil))))
      (pss_cons (ps_set (i := 3) nd rfl (Or.inl rfl) (pe_callBK (cr_maxD rfl) (by rfl) B.max (by decide +kernel) (pa_cons (pe_lc (own := [("steps", 5)]) (te := (tCB (rSum K) (tCons (tLc (iTup K (tVar 5)) (gName 6) tYes (tOp (rIxT K) (tVar 6) (tC (.int 1))) [6]) tNil))) (tt := tYes) (by rfl) nd (pi_tup (pv 2)) (blkOk_by (own := [("steps", 5)]) (N := N_floors) (sc := defScope s_floors) (by decide +kernel)) (fun _ _ _ _ _ => (pg_name (i := 5) nd rfl (Or.inl rfl))) (fun _ _ _ _ _ => pts_nil) (fun _ _ _ _ _ => (pe_callB (cr_sum rfl) (by rfl) B.sum (by decide +kernel) (pa_cons (pe_lc (own := [("step", 6)]) (te := (tOp (rIxT K) (tVar 6) (tC (.int 1)))) (tt := tYes) (by rfl) nd (pi_tup (pv 5)) (blkOk_by (own := [("step", 6)]) (N := N_floors) (sc := relS _ (defScope s_floors)) (by decide +kernel)) (fun _ _ _ _ _ => (pg_name (i := 6) nd rfl (Or.inl rfl))) (fun _ _ _ _ _ => pts_nil) (fun _ _ _ _ _ => (pe_ix ix_tup (pv 6) (pe_glob (v := .int 1) rfl gLONG ⟨_, rfl⟩) (fun _ _ => rfl)))) pa_nil)))) pa_nil) (pk_cons pe_int pk_nil)))
      (pss_cons (ps_set (i := 4) nd rfl (Or.inl rfl) (pe_op op_sub (pe_callB (cr_sum rfl) (by rfl) B.sum (by decide +kernel) (pa_cons (pe_lc2 (own := [("steps", 5), ("step", 6)]) (vs1 := [6]) (g := gName 5) (g1 := gName 6) (tt := tYes) (tt1 := tYes) (te := (tOp (rI0 fun i j => .int (i - j)) (tOp (rIxT K) (tVar 6) (tC (.int 0))) (tOp (rIxT K) (tVar 6) (tC (.int 2))))) (wi := iTup K (tVar 2)) (wi1 := iTup K (tVar 5)) (by rfl) nd (pi_tup (pv 2)) (blkOk_by (own := [("steps", 5), ("step", 6)]) (N := N_floors) (sc := defScope s_floors) (by decide +kernel)) (by decide) (fun _ _ _ _ _ => (pg_name (i := 5) nd rfl (Or.inl rfl))) (fun _ _ _ _ _ => pts_nil) (fun _ _ _ _ _ => (pi_tup (pv 5))) (fun _ _ _ _ _ => (pg_name (i := 6) nd rfl (Or.inl rfl))) (fun _ _ _ _ _ => pts_nil) (fun _ _ _ _ _ => (pe_op op_sub (pe_ix ix_tup (pv 6) (pe_glob (v := .int 0) rfl gDRAW ⟨_, rfl⟩) (fun _ _ => rfl)) (pe_ix ix_tup (pv 6) (pe_glob (v := .int 2) rfl gBACK ⟨_, rfl⟩) (fun _ _ => rfl))))) pa_nil)) (pe_ix ix_tup (pv 1) pe_int (fun _ _ => rfl))))
      (pss_one (ps_ret (pe_tup (pa_cons (pv 3) (pa_cons (pe_call Gbeats_to_refill (by exact hr.mono (by decide)) (by rfl) Cbeats_to_refill.g Cbeats_to_refill.k Cbeats_to_refill.a .nil pass0 (pa_cons (pv 4) (pa_cons (pe_ix ix_tup (pv 1) pe_int (fun _ _ => rfl)) pa_nil))) pa_nil))))))))), ?_⟩
    refine LS.body j q ?_
    obtain ⟨wa, xs, rfl, lx, dxs⟩ := dp_tup dv
    obtain ⟨sv, mv, rfl, ds, dm⟩ := dps2 dxs
    obtain ⟨ma, zs, rfl, lz, dzs⟩ := dp_tup dm
    have hzl : zs.length = w.ms.length := by have := dps_len dzs; simpa using this
    have hm5 := hw.m
    obtain ⟨sa, ys, rfl, ly, dys⟩ := dp_tup (show Dp K F sv (.tuple [.int w.cap, .int w.start, .int w.refill]) from ds)
    obtain ⟨v1, v2, v3, rfl, d1, d2, d3⟩ := dps3 dys
    cases dp_int d1
    cases dp_int d2
    cases dp_int d3
    refine sw_seq (sw_drop (ew_call hd ?_))
    walk_at "ob"
    refine ⟨.ref wa, w, rfl, .tup lx (.cons ds (.cons dm .nil)), hw, fun F1 g1 => ?_⟩
    refine sw_seq (sw_asg ?_)
    walk_at "ob"
    refine gw_tup hd ⟨wa, _, rfl, g1.sqT lx, rfl, gsw_cons (gw_name (gsw_cons (gw_name (gsw_nil ?_))))⟩
    refine sw_seq (sw_asg (ew_maxD hd (aw_cons (ew_lcT hd (ew_var rfl ?_)))))
    refine ⟨ma, zs, rfl, g1.sqT lz, by omega, fun Nl hNl => ?_⟩
    refine ⟨fun i acc _ G => Ex F1 G ∧ acc = ((w.ms.take i).map longS).map V.int, ⟨.refl _, rfl⟩, ?_, ?_, ?_⟩
    · rintro i acc _ G hi hg ⟨g, rfl⟩
      refine ⟨(g1.trans g).sqT lz, ?_⟩
      rw [List.length_map, List.length_map]
      exact List.length_take_le _ _
    · rintro i acc x _ G hi hg ⟨g, rfl⟩
      have hd' := hd.jd (D := Nl) (acc := ((w.ms.take i).map longS).map V.int)
      obtain ⟨d, hd1, hd2⟩ := dps_get' dzs hi
      rw [List.getElem?_map] at hd1
      obtain ⟨ss, hss, rfl⟩ := Option.map_eq_some_iff.mp hd1
      refine gw_name ⟨rfl, tw_yes ⟨fun _ => ?_, (fun z => by cases z)⟩⟩
      obtain ⟨ta, us, rfl, lu, dus⟩ := dp_tup (dp_ex (g1.trans g) hd2)
      have hul : us.length = ss.length := by have := dps_len dus; simpa using this
      have hs6 := hw.n ss (List.mem_of_getElem? hss)
      refine ew_cb (aw_cons (ew_lcT hd' (ew_var rfl ⟨ta, us, rfl, lu, by omega, fun Dl hDl => ?_⟩)))
      refine ⟨fun j acc _ G' => G' = G ∧ acc = ((ss.take j).map fun st => st.long).map V.int, ⟨rfl, rfl⟩, ?_, ?_, ?_⟩
      · rintro j acc _ G' hj hg' ⟨rfl, rfl⟩
        refine ⟨lu, ?_⟩
        rw [List.length_map, List.length_map]
        exact List.length_take_le _ _
      · rintro j acc y _ G' hj hg' ⟨rfl, rfl⟩
        obtain ⟨d, hd3, hd4⟩ := dps_get' dus hj
        rw [List.getElem?_map] at hd3
        obtain ⟨st, hst, rfl⟩ := Option.map_eq_some_iff.mp hd3
        obtain ⟨tb, qs, rfl, lq, dqs⟩ := dp_tup hd4
        obtain ⟨u1, u2, u3, rfl, e1, e2, e3⟩ := dps3 dqs
        cases dp_int e1
        cases dp_int e2
        cases dp_int e3
        refine gw_name ⟨rfl, tw_yes ⟨fun _ => ?_, (fun z => by cases z)⟩⟩
        refine ew_op (ew_var rfl (ew_c (rw_ixT ((hd.jd (D := Nl)).jd (D := Dl)) lq (i := 1) (by rfl) ⟨rfl, ?_⟩)))
        rw [List.take_succ, hst, List.map_append, List.map_append]
        rfl
      · rintro acc _ G' hg' ⟨rfl, rfl⟩
        rw [hul, List.take_length]
        have gD : Ex G' (upd G' Dl (.lst ((ss.map fun st => st.long).map V.int))) := Ex.new (.refl _) hg'
        refine aw_nil (cw_sum hd' (SqL.of upd_same) ⟨g.trans gD, ?_⟩)
        rw [List.take_succ, hss, List.map_append, List.map_append]
        rfl
    · rintro acc _ G hg ⟨g, rfl⟩
      rw [hzl, List.take_length]
      have gD : Ex G (upd G Nl (.lst ((w.ms.map longS).map V.int))) := Ex.new (.refl _) hg
      have gF : Ex F (upd G Nl (.lst ((w.ms.map longS).map V.int))) := g1.trans (g.trans gD)
      refine aw_nil ⟨Nl, _, rfl, SqL.of upd_same, ?_, ?_⟩
      · intro y hy
        obtain ⟨ss, hss, rfl⟩ := List.mem_map.mp hy
        exact long_pos hw hss
      walk_at "ob"
      refine ⟨rfl, SqL.of upd_same, gw_name ?_⟩
      refine sw_seq (sw_asg (ew_op (ew_cb (aw_cons (ew_lc2T hd (ew_var rfl ?_))))))
      have lzG := gF.sqT lz
      refine ⟨ma, zs, w.ms.map fun ss => (ss.map fun st => st.draw - st.back).map V.int, rfl, lzG, by rw [List.length_map]; exact hzl, by rw [List.length_map]; omega, ?_, ?_, ?_⟩
      · intro us hus
        obtain ⟨ss, hss, rfl⟩ := List.mem_map.mp hus
        have := hw.n ss hss
        rw [List.length_map, List.length_map]
        omega
      · intro i x us hi hu Dl acc hDl
        have hd' := hd.jd (D := Dl) (acc := acc)
        obtain ⟨d, hd1, hd2⟩ := dps_get' dzs hi
        rw [List.getElem?_map] at hd1 hu
        obtain ⟨ss, hss, rfl⟩ := Option.map_eq_some_iff.mp hd1
        rw [hss] at hu
        cases hu
        obtain ⟨ta, vs2, rfl, lu, dus⟩ := dp_tup (dp_ex gF hd2)
        have hul : vs2.length = ss.length := by have := dps_len dus; simpa using this
        refine gw_name ⟨rfl, rfl, rfl, ew_var rfl ⟨rfl, rfl, ta, vs2, rfl, lu, by rw [List.length_map, List.length_map]; exact hul, fun k z u hz hu acc' => ?_⟩⟩
        have hd2' := hd.jd (D := Dl) (acc := acc')
        obtain ⟨d, hd3, hd4⟩ := dps_get' dus hz
        rw [List.getElem?_map] at hd3
        obtain ⟨st, hst, rfl⟩ := Option.map_eq_some_iff.mp hd3
        rw [List.getElem?_map, List.getElem?_map, hst] at hu
        cases hu
        obtain ⟨tb, qs, rfl, lq, dqs⟩ := dp_tup hd4
        obtain ⟨u1, u2, u3, rfl, e1, e2, e3⟩ := dps3 dqs
        cases dp_int e1
        cases dp_int e2
        cases dp_int e3
        refine gw_name ⟨rfl, rfl, rfl, ?_⟩
        exact ew_op (ew_op (ew_var rfl (ew_c (rw_ixT hd2' lq (i := 0) (by rfl) (ew_op (ew_var rfl (ew_c (rw_ixT hd2' lq (i := 2) (by rfl) (rw_I0 ⟨rfl, rfl, rfl⟩)))))))))
      · intro Dl hDl
        have e : (List.map (fun ss => List.map V.int (List.map (fun st => st.draw - st.back) ss)) w.ms).flatten = (w.ms.flatMap fun ss => ss.map fun st => st.draw - st.back).map V.int := by
          rw [List.flatMap, List.map_flatten, List.map_map]
          rfl
        rw [e]
        have gD2 : Ex (upd G Nl (.lst ((w.ms.map longS).map V.int))) (upd (upd G Nl (.lst ((w.ms.map longS).map V.int))) Dl (.lst ((w.ms.flatMap fun ss => ss.map fun st => st.draw - st.back).map V.int))) := Ex.new (.refl _) hDl
        have gF2 := gF.trans gD2
        refine aw_nil (cw_sum hd (SqL.of upd_same) ?_)
        refine ew_op (ew_var rfl (ew_c (rw_ixT hd (gF2.sqT ly) (i := 1) (by rfl) (rw_I0 (gw_name ?_)))))
        refine sw_ret (ew_tup hd (aw_cons (ew_var rfl (aw_cons (ew_call hd (aw_cons (ew_var rfl (aw_cons (ew_op (ew_var rfl (ew_c (rw_ixT hd (gF2.sqT ly) (i := 2) (by rfl) (aw_nil ?_)))))))))))))
        refine ⟨lacksF w, w.refill, rfl, Int.le_trans (lacks_le hw) (by decide), hw.r0, by have := hw.r1; omega, fun F' g3 => aw_nil ⟨by walk_at "ob_len", fun q hq => ?_⟩⟩
        have g4 := gF2.trans g3
        exact k q _ (Ex.new g4 hq) (g4.free hq) upd_same
end
end Obr
namespace Obr
open PySem PySem.Spec PyProof.Rows L2 LamX NdefX
/-! ### lambdas that are kept and called elsewhere -/
structure LF where
  qual : Str
  params : Arguments
  body : Expr
  scope : Scope
  cl : List (Str × Addr)
  c : Addr
  dt : Option Addr
def LF.dV (F : LF) : Value := match F.dt with
  | some t => .ref t
  | none => .none
abbrev LF.nf (F : LF) : NF := ⟨"<lambda>", F.qual, F.params, [], F.scope, F.cl, F.c⟩
abbrev LF.fd (F : LF) (doc pm ctv : Value) : FuncData := PySem.W.kdv_fn "<lambda>" F.qual F.params (.expr F.body) F.scope F.cl F.dV doc pm (.ref F.c) ctv
/-- the object at f is the lambda F -/
def LamO (f : Addr) (F : LF) : HO := .ext fun h => ∃ (od : Option Addr) (sl : Array (Option Value)) (doc pm ctv : Value), h.get? f = some (⟨.type "function", od, .func (F.fd doc pm ctv), sl⟩ : Obj)
theorem lamO_at {P : Program} {w : World} {H : Hp} {h : Heap} {f : Addr} {F : LF} (hok : HOk P w H h) (e : H f = some (LamO f F)) : ∃ (od : Option Addr) (sl : Array (Option Value)) (doc pm ctv : Value), h.get? f = some (⟨.type "function", od, .func (F.fd doc pm ctv), sl⟩ : Obj) := by
  obtain ⟨z, _, _⟩ := hok f _ e
  exact z
section
variable {X : Cx} {pins : List (Addr × Obj)} {σ : L2.St} {H : Hp} {s : Shared}
theorem inv_lam {F : LF} {o : Obj} {t' : Nat} {doc pm ctv : Value} (I : Inv X pins σ H s) (ho : o = { cls := .type "function", data := .func (F.fd doc pm ctv) }) :
    Inv X pins σ (upd H s.heap.objs.size (LamO s.heap.objs.size F)) { s with heap := s.heap.push o, toks := t' } := by
  subst ho
  refine I.laid (a := s.heap.objs.size) (fun b u e => Heap.get?_push_of_some _ e) (Nat.le_refl _) ?_
  have e : (s.heap.push ({ cls := .type "function", data := .func (F.fd doc pm ctv) } : Obj)).get? s.heap.objs.size = some ({ cls := .type "function", data := .func (F.fd doc pm ctv) } : Obj) := Heap.get?_push_size _ rfl
  exact ⟨⟨_, _, doc, pm, ctv, e⟩, ⟨_, e⟩, fun h1 h2 ⟨od, sl, d, p, t, z⟩ st => ⟨od, sl, d, p, t, st _ z⟩⟩
/-- how the heap changes when a lambda is made -/
inductive LamStep (H : Hp) (P : Addr) (pos : Pos) (q : Str) (mk : Addr → LF) : Addr → Addr → Hp → Prop where
  | new {ps : Array Value} {f c' : Addr} (hP : H P = some (.tbl ps)) (nc : H c' = none) (nf : upd (upd H P (.tbl (ps ++ #[rawInt pos.line, rawInt pos.col, .ref c']))) c' (CodeO c' q) f = none) :
      LamStep H P pos q mk f c' (upd (upd (upd H P (.tbl (ps ++ #[rawInt pos.line, rawInt pos.col, .ref c']))) c' (CodeO c' q)) f (LamO f (mk c')))
  | hit {ps : Array Value} {f c' : Addr} (hP : H P = some (.tbl ps)) (hc : codeAmong pos ps.toList = some (.ref c')) (nf : H f = none) : LamStep H P pos q mk f c' (upd H f (LamO f (mk c')))
theorem lam_tail {T : List NTab} {nm : Nat → Nat → Str} {c P : Addr} {qual : Str} {params : Arguments} {body : Expr} {scope : Scope} {pos : Pos} {dt : Option Addr} {dV : Value} {fl : Nat} {E : Value → Shared → Prop} {Q : Value → Shared → Prop} (I : Inv X pins σ H s) (TB : TabB X.base X.mg c P) (hcode : X.env.code = .ref c)
    (hm : (P, nm) ∈ T) (hn : nm pos.line pos.col = qual) (hu : ∀ p ∈ T, p.1 = P → p.2 = nm) (hT : TabsN T H) (hfree : ∀ y ∈ scope.names, y.2 = .free → ∃ c, X.env.cells.lookup y.1 = some c)
    (hdV : dV = match dt with | some t => .ref t | none => .none)
    (h : ∀ (f c' : Addr) (H1 : Hp) (s' : Shared), Inv X pins σ H1 s' → LamStep H P pos qual (fun c' => ⟨qual, params, body, scope, cloFrom X.env.cells scope.names [], c', dt⟩) f c' H1 → Q (.ref f) s') :
    wpAny (model X.prog X.w) X.A (makeTail "<lambda>" qual params (.expr body) scope X.env dV .none none pos fl) Q E s := by
  obtain ⟨ps, hP, ht, ha⟩ := (show TabN H P nm from hT _ hm)
  have bP : s.heap.BuiltinsAt X.mg P := TB.bm.keeps I.bk
  have hP' : s.heap.get? P = some { cls := .none, data := .fields ps } := I.hok P _ hP
  have eF : ∀ (c' : Addr) (doc pm ctv : Value), PySem.W.kdv_obj "<lambda>" qual params (.expr body) scope (cloFrom X.env.cells scope.names []) dV doc pm c' ctv = { cls := .type "function", data := .func ((⟨qual, params, body, scope, cloFrom X.env.cells scope.names [], c', dt⟩ : LF).fd doc pm ctv) } := fun c' doc pm ctv => by
    rw [hdV]
    cases dt <;> rfl
  cases hc : codeAmong pos ps.toList with
  | none =>
    refine PySem.W.kdv_makeTail (mg := X.mg) (c := c) (P := P) (ps := ps) (closure_ok hfree) I.ok.glob (I.mod.glob.keeps I.bk) hcode (TB.code.keeps I.bk) hP' ht hc TB.gP bP fun c' ctv doc h' tk hx hge hlt hrec htb => ?_
    obtain ⟨c2, oc, vs, t, e2, hoc, hd, hv⟩ := hrec
    cases e2
    have nC : H c' = none := I.hok.fresh hge
    have I1 := inv_table (t' := tk) (more := #[rawInt pos.line, rawInt pos.col, .ref c']) (h' := h') I hP (fun b o hb e => hx b o hb e) htb hge ⟨oc, vs, t, hoc, hd, hv⟩
    have nF := I1.hok.fresh (Nat.le_refl _)
    have I2 := inv_lam (F := ⟨qual, params, body, scope, cloFrom X.env.cells scope.names [], c', dt⟩) (t' := tk) (doc := doc) (pm := (X.mg "__name__").getD .none) (ctv := ctv) I1 (eF _ _ _ _)
    exact h h'.objs.size c' _ _ I2 (.new hP nC nF)
  | some cv =>
    obtain ⟨c', e, hco⟩ := ha pos cv hc
    subst e
    rw [hn] at hco
    refine PySem.W.kdv_makeTailHit (mg := X.mg) (c := c) (P := P) (ps := ps) (closure_ok hfree) I.ok.glob (I.mod.glob.keeps I.bk) hcode (TB.code.keeps I.bk) hP' ht hc bP fun ctv doc h' tk hx hsz => ?_
    have I1 : Inv X pins σ H { s with heap := h', toks := tk } := I.kept hx
    have nF : H h'.objs.size = none := I1.hok.fresh (Nat.le_refl _)
    have I2 := inv_lam (F := ⟨qual, params, body, scope, cloFrom X.env.cells scope.names [], c', dt⟩) (t' := tk) (doc := doc) (pm := (X.mg "__name__").getD .none) (ctv := ctv) I1 (eF _ _ _ _)
    exact h h'.objs.size c' _ _ I2 (.hit hP hc nF)
end
/-! ### it is made -/
def tLamb (T : List NTab) (P : Addr) (pos : Pos) (q : Str) (mk : Addr → LF) : TE := fun σ H Q => TabsN T H ∧ ∀ (f c' : Addr) (H1 : Hp), LamStep H P pos q mk f c' H1 → Q (.ref f) H1
/-- with a default that is a number -/
def tLambD (T : List NTab) (P : Addr) (pos : Pos) (q : Str) (n : Int) (mk : Addr → Addr → LF) : TE := fun σ H Q => TabsN T H ∧ ∀ t, H t = none → ∀ (f c' : Addr) (H1 : Hp), LamStep (upd H t (.tup [.int n])) P pos q (mk t) f c' H1 → Q (.ref f) H1
section
variable {X : Cx}
theorem pe_lamb {T : List NTab} {nm : Nat → Nat → Str} {c P : Addr} {params : Arguments} {body : Expr} {scope : Scope} {pos : Pos} (TB : TabB X.base X.mg c P) (hcode : X.env.code = .ref c) (hm : (P, nm) ∈ T) (hn : nm pos.line pos.col = X.env.qual ++ "<lambda>") (hu : ∀ p ∈ T, p.1 = P → p.2 = nm)
    (hfree : ∀ y ∈ scope.names, y.2 = .free → X.env.scope.names.lookup y.1 = some .cell ∨ X.env.scope.names.lookup y.1 = some .free) (hd0 : defaultsOf params X.env = ([], [])) :
    PE X (.Lambda params body scope pos) (tLamb T P pos (X.env.qual ++ "<lambda>") fun c' => ⟨X.env.qual ++ "<lambda>", params, body, scope, cloFrom X.env.cells scope.names [], c', none⟩) := by
  refine ⟨fun pins s σ H Q I h => ?_⟩
  obtain ⟨hT, h⟩ := h
  have hfr : ∀ y ∈ scope.names, y.2 = .free → ∃ c, X.env.cells.lookup y.1 = some c := fun y hy e => (hfree y hy e).elim (fun z => I.ok.has _ (.inl z)) fun z => I.ok.has _ (.inr z)
  refine PySem.W.kla_eval hd0 ?_
  rw [makeFunction_eq]
  simp only [List.zip_nil_right, List.filterMap_nil, List.isEmpty_nil, if_true, pure_bind]
  exact lam_tail (dt := none) I TB hcode hm hn hu hT hfr rfl fun f c' H1 s' I1 st => ⟨.ref f, H1, I1, rfl, h f c' H1 st⟩
theorem pe_lambD {T : List NTab} {nm : Nat → Nat → Str} {c P : Addr} {params : Arguments} {d : Expr} {n : Int} {body : Expr} {scope : Scope} {pos : Pos} (TB : TabB X.base X.mg c P) (hcode : X.env.code = .ref c) (hm : (P, nm) ∈ T) (hn : nm pos.line pos.col = X.env.qual ++ "<lambda>") (hu : ∀ p ∈ T, p.1 = P → p.2 = nm)
    (hfree : ∀ y ∈ scope.names, y.2 = .free → X.env.scope.names.lookup y.1 = some .cell ∨ X.env.scope.names.lookup y.1 = some .free) (hd0 : params.defaults = [d]) (hk0 : params.kw_defaults = []) (hd : PE X d (tC (.int n))) :
    PE X (.Lambda params body scope pos) (tLambD T P pos (X.env.qual ++ "<lambda>") n fun t c' => ⟨X.env.qual ++ "<lambda>", params, body, scope, cloFrom X.env.cells scope.names [], c', some t⟩) := by
  refine ⟨fun pins s σ H Q I h => ?_⟩
  obtain ⟨hT, h⟩ := h
  have hfr : ∀ y ∈ scope.names, y.2 = .free → ∃ c, X.env.cells.lookup y.1 = some c := fun y hy e => (hfree y hy e).elim (fun z => I.ok.has _ (.inl z)) fun z => I.ok.has _ (.inr z)
  refine PySem.W.kdv_lam (by rw [hd0]; rfl) hk0 ?_
  rw [hd0]
  refine PySem.W.kdv_all1 (thn (hd.run pins s σ H (fun v H1 => v = .int n ∧ H1 = H) I ⟨rfl, rfl⟩) fun u s1 ⟨v, H1, I1, r1, q1⟩ => ?_)
  obtain ⟨rfl, rfl⟩ := q1
  refine PySem.W.kdv_all0 ?_
  rw [makeFunction_eq]
  simp only [List.zip_nil_right, List.filterMap_nil, List.isEmpty_nil, if_true, pure_bind, List.isEmpty_cons, Bool.false_eq_true, if_false]
  refine wpAny_bind (wpAny_newTextTuple ?_)
  have hsz : H1 s1.heap.objs.size = none := I1.hok.fresh (Nat.le_refl _)
  have I2 : Inv X pins σ (upd H1 s1.heap.objs.size (.tup [.int n])) { s1 with heap := s1.heap.push { cls := .type "tuple", data := .seq [u].toArray } } := by
    refine I1.laid (t' := s1.toks) (fun b o e => Heap.get?_push_of_some _ e) (Nat.le_refl _) ⟨(by decide : 1 ≤ sizeLine), [u], .cons r1 .nil, ?_⟩
    exact ⟨{ cls := .type "tuple", data := .seq [u].toArray }, Heap.get?_push_size _ rfl, rfl, _, rfl⟩
  exact lam_tail (dt := some s1.heap.objs.size) I2 TB hcode hm hn hu (hT.ext fun b o e => (upd_ne (ne_of_none e hsz)).trans e) hfr rfl fun f c' H2 s' I3 st => ⟨.ref f, H2, I3, rfl, h s1.heap.objs.size hsz f c' H2 st⟩
end
/-! ### what stands behind the step -/
theorem codeO_tbl {c : Addr} {q : Str} {ps : Array Value} {H : Hp} {b : Addr} (e : H b = some (CodeO c q)) : ∀ ps, CodeO c q ≠ .tbl ps := fun ps => codeO_ne ps
theorem LamStep.facts {T : List NTab} {nm : Nat → Nat → Str} {H H1 : Hp} {P : Addr} {pos : Pos} {q : Str} {mk : Addr → LF} {f c' : Addr} (st : LamStep H P pos q mk f c' H1) (hm : (P, nm) ∈ T) (hn : nm pos.line pos.col = q) (hu : ∀ p ∈ T, p.1 = P → p.2 = nm) (hT : TabsN T H) :
    ExtN H H1 ∧ TabsN T H1 ∧ H f = none ∧ H1 f = some (LamO f (mk c')) ∧ H1 c' = some (CodeO c' q) := by
  obtain ⟨ps0, hP0, ht, ha⟩ := (show TabN H P nm from hT _ hm)
  cases st with
  | @new ps f c' hP nC nF =>
    rw [hP0] at hP
    cases hP
    have hE : ExtN H (upd (upd H P (.tbl (ps0 ++ #[rawInt pos.line, rawInt pos.col, .ref c']))) c' (CodeO c' q)) := fun b o e n => by
      rw [upd_ne (ne_of_none e nC), upd_ne (fun z => n ps0 (Option.some.inj (e.symm.trans (by rw [z]; exact hP0))))]
      exact e
    have eL : (ps0 ++ #[rawInt pos.line, rawInt pos.col, .ref c']).toList = ps0.toList ++ [rawInt pos.line, rawInt pos.col, .ref c'] := by simp
    have T1 : TabsN T (upd (upd H P (.tbl (ps0 ++ #[rawInt pos.line, rawInt pos.col, .ref c']))) c' (CodeO c' q)) := fun p hp => by
      by_cases hb : p.1 = P
      · rw [hu p hp hb, hb]
        refine ⟨_, by rw [upd_ne (ne_of_none hP0 nC), upd_same], by rw [eL]; exact PySem.TriplesOk_snoc _ _ _ _ ht, fun p' cv hcv => ?_⟩
        rw [eL] at hcv
        rcases among_app2 _ ht hcv with z | ⟨z, z1, z2⟩
        · obtain ⟨c0, e1, e2⟩ := ha p' cv z
          exact ⟨c0, e1, hE _ _ e2 codeO_ne⟩
        · refine ⟨c', z, ?_⟩
          rw [← z1, ← z2, hn]
          exact upd_same
      · obtain ⟨ps', a1, a2, a3⟩ := hT p hp
        refine ⟨ps', by rw [upd_ne (ne_of_none a1 nC), upd_ne hb]; exact a1, a2, fun p' cv hcv => ?_⟩
        obtain ⟨c0, e1, e2⟩ := a3 p' cv hcv
        exact ⟨c0, e1, hE _ _ e2 codeO_ne⟩
    have ncf : c' ≠ f := fun z => by rw [z, upd_same] at nF; cases nF
    refine ⟨fun b o e n => ?_, T1.ext fun b o e => (upd_ne (ne_of_none e nF)).trans e, upd_none (upd_none nF), upd_same, (upd_ne ncf).trans upd_same⟩
    have e1 := hE b o e n
    exact (upd_ne (ne_of_none e1 nF)).trans e1
  | @hit ps f c' hP hc nF =>
    rw [hP0] at hP
    cases hP
    obtain ⟨c0, e1, e2⟩ := ha pos _ hc
    cases e1
    rw [hn] at e2
    exact ⟨fun b o e _ => (upd_ne (ne_of_none e nF)).trans e, hT.ext fun b o e => (upd_ne (ne_of_none e nF)).trans e, nF, upd_same, (upd_ne (ne_of_none e2 nF)).trans e2⟩
section
variable {S : Type} {J : S → Hp → Hp → Prop} {σ : L2.St} {s : S} {F : Hp} {R : V → S → Hp → Prop}
theorem tabs_hid (hd : Hid J) {T : List NTab} {H : Hp} (j : J s F H) (hT : TabsN T F) : TabsN T H := hT.ext fun b o e => hd.ex j b o e
theorem step_hid (hd : Hid J) {P : Addr} {pos : Pos} {q : Str} {mk : Addr → LF} {f c' : Addr} {H H1 : Hp} {ps : Array Value} (j : J s F H) (hP : F P = some (.tbl ps)) (st : LamStep H P pos q mk f c' H1) : ∃ F1, LamStep F P pos q mk f c' F1 ∧ J s F1 H1 := by
  have hPH := hd.ex j P _ hP
  cases st with
  | @new ps' f c' hP' nC nF =>
    rw [hPH] at hP'
    cases hP'
    have nPc : c' ≠ P := fun z => by rw [z, hPH] at nC; cases nC
    have j1 := hd.mu (o' := .tbl (ps ++ #[rawInt pos.line, rawInt pos.col, .ref c'])) j hP
    have j2 := hd.al (o := CodeO c' q) j1 (by rw [upd_ne nPc]; exact nC)
    have j3 := hd.al (o := LamO f (mk c')) j2 nF
    exact ⟨_, .new hP (hd.fresh j nC) (hd.fresh j2 nF), j3⟩
  | @hit ps' f c' hP' hc nF =>
    rw [hPH] at hP'
    cases hP'
    exact ⟨_, .hit hP hc (hd.fresh j nF), hd.al j nF⟩
theorem ew_lamb (hd : Hid J) {T : List NTab} {P : Addr} {pos : Pos} {q : Str} {mk : Addr → LF} {ps : Array Value} (hT : TabsN T F) (hP : F P = some (.tbl ps)) (h : ∀ (f c' : Addr) (F1 : Hp), LamStep F P pos q mk f c' F1 → R (.ref f) s F1) : EW J (tLamb T P pos q mk) σ s F R := fun H j Q k =>
  ⟨tabs_hid hd j hT, fun f c' H1 st => by
    obtain ⟨F1, st1, j1⟩ := step_hid hd j hP st
    exact k _ _ _ _ j1 (h f c' F1 st1)⟩
theorem ew_lambD (hd : Hid J) {T : List NTab} {P : Addr} {pos : Pos} {q : Str} {n : Int} {mk : Addr → Addr → LF} {ps : Array Value} (hT : TabsN T F) (hP : F P = some (.tbl ps)) (h : ∀ t, F t = none → ∀ (f c' : Addr) (F1 : Hp), LamStep (upd F t (.tup [.int n])) P pos q (mk t) f c' F1 → R (.ref f) s F1) : EW J (tLambD T P pos q n mk) σ s F R := fun H j Q k =>
  ⟨tabs_hid hd j hT, fun t ht f c' H1 st => by
    have nt := hd.fresh j ht
    obtain ⟨F1, st1, j1⟩ := step_hid hd (hd.al j ht) ((upd_ne (ne_of_none hP nt)).trans hP) st
    exact k _ _ _ _ j1 (h t nt f c' F1 st1)⟩
end
end Obr
namespace Obr
open PySem PySem.Spec PyProof.Rows L2 LamX NdefX
/-! ### a lambda is called -/
abbrev LSp := List (Option V) → Hp → VK → XK → Prop
/-- where the lambda F stands: itself, its code, its default -/
structure LamAt (H : Hp) (f : Addr) (F : LF) (ds : List V) : Prop where
  fn : H f = some (LamO f F)
  code : H F.c = some (CodeO F.c F.qual)
  dflt : ∀ t, F.dt = some t → H t = some (.tup ds)
theorem LamAt.keep {H H' : Hp} {f : Addr} {F : LF} {ds : List V} (a : LamAt H f F ds) (g : Ex H H') : LamAt H' f F ds := ⟨g _ _ a.fn, g _ _ a.code, fun t e => g _ _ (a.dflt t e)⟩
structure LamOk (P : Program) (w : World) (K : PySem.W.Frag) (mg : Str → Option Value) (base : Heap) (CX : CXT) (k : Nat) (f : Addr) (F : LF) (ds : List V) (fr : List Str) (sp : LSp) : Prop where
  run : ∀ (A : Around) (outer : List Env) (s : Shared) (H : Hp) (ws : List (Option V)) (Q : VK) (E : XK), Room k A → Env0 P w K mg base A outer s H → LamAt H f F ds → CellsAt F.cl fr ws s.heap H → sp ws H Q E →
    codeAny (model P w) A (.call (.ref f) ⟨[], []⟩) (CR CX outer P w H s Q E) s
  mono_ : ∀ (ws : List (Option V)) (H : Hp) (Q Q' : VK) (E E' : XK), sp ws H Q E → (∀ v H', Q v H' → Q' v H') → (∀ cls d H', E cls d H' → E' cls d H') → sp ws H Q' E'
section
variable {CX : CXT} {P : Program} {w : World} {K : PySem.W.Frag} {mg : Str → Option Value} {base : Heap} {N ps fr : List Str} {F : LF} {f : Addr} {k j : Nat} {ds : List V} {sp : LSp}
theorem LamOk.mono (o : LamOk P w K mg base CX j f F ds fr sp) (h : j ≤ k) : LamOk P w K mg base CX k f F ds fr sp := ⟨fun A outer s H ws Q E hr => o.run A outer s H ws Q E (hr.mono h), o.mono_⟩
/-- how the defaults are bound -/
def BindD (F : LF) (ps : List Str) (ds : List V) : Prop := ∀ (P : Program) (w : World) (s : Shared) (H : Hp) (doc pm ctv : Value), HOk P w H s.heap → (∀ t, F.dt = some t → H t = some (.tup ds)) → ∃ us, Vals ds us ∧ BindsTo s (F.fd doc pm ctv) ⟨[], []⟩ (ps.zip us)
theorem bind0 (h : ∀ doc pm ctv : Value, bindArgs (F.fd doc pm ctv) ⟨[], []⟩ = pure []) : BindD F [] [] := fun P w s H doc pm ctv _ _ => ⟨[], .nil, BindsTo.of_eq (h doc pm ctv)⟩
theorem bind1 {t : Addr} {p : Str} {n : Int} (ht : F.dt = some t) (h : ∀ (doc pm ctv u : Value), ∃ k, bindArgs (F.fd doc pm ctv) ⟨[], []⟩ = seqItems? (.ref t) >>= k ∧ k (some #[u]) = pure [(p, u)]) : BindD F [p] [.int n] := fun P w s H doc pm ctv hok hd => by
  obtain ⟨_, its, r, o, ho, _, m, hs⟩ := hok t _ (hd t ht)
  cases r with
  | cons r0 r1 =>
    cases r1
    rename_i u
    obtain ⟨kk, h1, h2⟩ := h doc pm ctv u
    have hdf : (F.fd doc pm ctv).defaults = .ref t := by
      show F.dV = .ref t
      unfold LF.dV
      rw [ht]
    exact ⟨[u], .cons r0 .nil, BindsTo.of_defaults (T := t) (k := kk) hdf ho hs (by rw [hdf]; exact h1) h2⟩
theorem lok_of (S : NScope N ps fr F.scope) (hl : ds.length = ps.length) (hb : BindD F ps ds) (hmo : ∀ (ws : List (Option V)) (H : Hp) (Q Q' : VK) (E E' : XK), sp ws H Q E → (∀ v H', Q v H' → Q' v H') → (∀ cls d H', E cls d H' → E' cls d H') → sp ws H Q' E')
    (hbody : ∀ (A : Around) (outer : List Env) (s : Shared) (H : Hp) (ws : List (Option V)) (Q : VK) (E : XK), Room k (A.deeper (envF F.nf f s.heap.objs.size)) → LamAt H f F ds → ws.length = fr.length → sp ws H Q E →
      ∃ t, PE (ncx CX P w K mg base N F.nf f A outer s H E) F.body t ∧ t (startF N ds ws) H Q) :
    LamOk P w K mg base CX (k + 1) f F ds fr sp := by
  refine ⟨fun A outer s H ws Q E hr e0 ha C hsp => ?_, hmo⟩
  have lim : s.heap.NoLimit := e0.mod.nolimit.keeps fun b o e => (e0.bs b o e).1
  obtain ⟨od, sl, doc, pm, ctv, ho⟩ := lamO_at e0.hok ha.fn
  obtain ⟨us, r, hbi⟩ := hb P w s H doc pm ctv e0.hok ha.dflt
  refine PySem.W.kla_callFunE hr.depth ho rfl S.co S.gen rfl (codeO_at e0.hok ha.code) (hbi _ _ _ _ ?_)
  refine wpAny_newFunctionEnv S.nocell (fun ⟨n, _⟩ hy => S.par n (List.of_mem_zip hy).1) (fun h₁ hns hsb => ⟨lim.fresh _ hsb, ?_⟩) S.kind
  show codeAny _ _ (.expr F.body (envF F.nf f s.heap.objs.size)) _ _
  have kp : ∀ b o, s.heap.get? b = some o → h₁.get? b = some o := fun b o e => hsb.extBut b o (Nat.ne_of_lt (Heap.lt_size e)) (Heap.get?_push_of_some _ e)
  obtain ⟨t, ht, hq⟩ := hbody A outer s H ws Q E (hr.deeper _) ha C.len hsp
  have I : Inv (ncx CX P w K mg base N F.nf f A outer s H E) [] (startF N ds ws) H { s with heap := h₁, toks := s.toks + (ps.zip us).length } := inv_startN (F := F.nf) S hr.hd e0 hl r C hns kp
  refine PySem.W.kla_codeExpr (wpAny_mono (ht.run [] _ (startF N ds ws) H Q I hq) (fun v s' hs => ?_) fun e s' hs => hs)
  obtain ⟨v', H', J, rv, q⟩ := hs
  exact ⟨v', H', J.os, J.bare, J.base, J.hok, rv, q⟩
end
section
variable {X : Cx} {pins : List (Addr × Obj)} {σ : L2.St} {H : Hp} {s : Shared} {CX : CXT} {F : LF} {f : Addr} {ds : List V} {fr : List Str} {ws : List (Option V)} {i j k : Nat} {a : Str} {sp : LSp} {E : L2.St → XK} {p pos : Pos}
theorem lamFnAt (I : Inv X pins σ H s) (e : H f = some (LamO f F)) : PySem.W.FnAt f s.heap := by
  obtain ⟨od, sl, doc, pm, ctv, ho⟩ := lamO_at I.hok e
  exact ⟨_, od, _, sl, ho⟩
/-- what the cells held at the frame's entry they hold still; the frames' slots may change -/
theorem cells_later {cl : List (Str × Addr)} (C : CellsAt cl fr ws X.s_0.heap X.H_0) (nx : X.ex = []) (I : Inv X pins σ H s) : CellsAt cl fr ws s.heap H := by
  have nx' : ∀ b : Addr, b ∉ X.ex := fun b z => by rw [nx] at z; cases z
  have kp : ∀ y c, cl.lookup y = some c → ∀ v, X.s_0.heap.IsCell c v → s.heap.IsCell c v := fun y c e v ⟨o, ho, hd⟩ => by
    obtain ⟨sl, q⟩ := I.base.any ho (C.all y c e).1 (nx' c)
    exact ⟨_, q, hd⟩
  refine ⟨C.len, fun y c e => ?_, C.inj, fun i y e => ?_⟩
  · obtain ⟨n, v, z⟩ := C.all y c e
    refine ⟨?_, v, kp y c e v z⟩
    obtain ⟨o, ho, _⟩ := z
    exact I.base.free c o ho n (nx' c)
  · obtain ⟨c, hc, hv⟩ := C.has i y e
    refine ⟨c, hc, fun v ev => ?_⟩
    obtain ⟨u, r, z⟩ := hv v ev
    exact ⟨u, r, kp y c hc _ z⟩
/-- a(), a a name of the running frame that holds a lambda; what its cells hold is told of the frame's entry -/
theorem pe_calll (O : LamOk X.prog X.w X.K X.mg X.base CX k f F ds fr sp) (C : CellsAt F.cl fr ws X.s_0.heap X.H_0) (nx : X.ex = []) (hr : Room j X.A) (hk : k ≤ j) (hx : ∀ σ, PassesAt CX X σ (E σ)) (hN : X.N[i]? = some a) (hv : Vis X.env.scope a)
    (hd : (a == ("__debug__" : Str)) = false := by decide) (hcd : (a == ("__classdict__" : Str)) = false := by decide) :
    PE X (.Call (.Name a p) [] [] pos) (fun σ H Q => σ[i]? = some (some (.ref f)) ∧ LamAt H f F ds ∧ sp ws H Q (E σ)) := by
  refine ⟨fun pins s σ H Q I h => ?_⟩
  obtain ⟨hs, ha, q⟩ := h
  refine wpAny_Call_Name_kw (thn ((pe_var (pos := p) hN hv hd hcd).run pins s σ H (fun v H1 => v = .ref f ∧ H1 = H) I ⟨.ref f, hs, rfl, rfl⟩) fun u s1 ⟨v, H1, I1, r1, q1⟩ => ?_)
  obtain ⟨ev, eH⟩ := q1
  subst ev
  rw [eH] at I1
  obtain rfl : u = Value.ref f := r1
  refine PySem.W.callWith_F0 (first := []) (lamFnAt I1 ha.fn) ?_
  show wpAny _ _ (call (.ref f) []) _ _ _
  refine wpAny_call (codeAny_mono (O.run X.A X.stack s1 H ws Q (E σ) (hr.mono hk) I1.env0 ha (cells_later C nx I1) q) fun r s' hq => ?_)
  cases r with
  | error e => exact hx σ pins H s1 e s' I1 hq
  | ok fl =>
    cases fl with
    | ret u => exact I1.after hq
    | next => exact False.elim hq
    | brk => exact False.elim hq
    | cont => exact False.elim hq
end
/-! ### a def that is handed a lambda and calls it -/
/-- TT: what the def makes of the lambda's promise -/
abbrev TTr := (XK → Hp → VK → Prop) → Hp → VK → XK → Prop
structure GOk (P : Program) (w : World) (K : PySem.W.Frag) (mg : Str → Option Value) (base : Heap) (CX CXl : CXT) (k kl : Nat) (g : Addr) (TT : TTr) : Prop where
  run : ∀ (A : Around) (outer : List Env) (s : Shared) (H : Hp) (f : Addr) (F : LF) (ds : List V) (fr : List Str) (ws : List (Option V)) (sp : LSp) (Q : VK) (E : XK), Room k A → Env0 P w K mg base A outer s H → LamAt H f F ds → CellsAt F.cl fr ws s.heap H →
    LamOk P w K mg base CXl kl f F ds fr sp → TT (fun E' H' Q' => LamAt H' f F ds ∧ sp ws H' Q' E') H Q E → codeAny (model P w) A (.call (.ref g) ⟨[.ref f], []⟩) (CR CX outer P w H s Q E) s
end Obr
namespace Obr
open PySem PySem.Spec PyProof.Rows L2 LamX NdefX
section
variable {X : Cx} {pins : List (Addr × Obj)} {σ : L2.St} {H : Hp} {s : Shared}
/-- b is none of the frame's own things -/
def Away (X : Cx) (pins : List (Addr × Obj)) (b : Addr) : Prop := (b ∈ X.ex ∨ X.s_0.heap.objs.size ≤ b) ∧ b ≠ X.env.locals ∧ (∀ x c, X.env.cells.lookup x = some c → c ≠ b) ∧ ∀ p ∈ X.pn ++ pins, p.1 ≠ b
theorem away_new (I : Inv X pins σ H s) {b : Addr} (h : s.heap.objs.size ≤ b) : Away X pins b := by
  obtain ⟨_, h1, _, h2, h3, h4⟩ := I.fpOk (H' := fun _ => none) h rfl
  exact ⟨h2, h1, h3, h4⟩
/-- things that nobody tracks have changed -/
theorem inv_ch {ch : List Addr} {h' : Heap} {tk : Nat} (I : Inv X pins σ H s) (ha : ∀ b ∈ ch, Away X pins b) (hn : ∀ b ∈ ch, H b = none) (k : ∀ b o, b ∉ ch → s.heap.get? b = some o → h'.get? b = some o) : Inv X pins σ H { s with heap := h', toks := tk } := by
  have kn : ∀ b u, H b = some u → b ∉ ch := fun b u e z => by rw [hn b z] at e; cases e
  refine I.call' (ch := ch) (s' := { s with heap := h', toks := tk }) rfl ⟨fun b o e _ _ hx => k b o hx e, fun b o e _ _ hx => ⟨o.slots, k b o hx e⟩, fun _ _ _ n _ => n, fun b o e hx => ⟨o, k b o hx e⟩, fun _ _ e => e, fun _ _ _ e => e, fun b ps e => ⟨#[], by rw [e]; simp⟩⟩ (fun b u e => ?_) I.bare ha
  refine (I.hok b u e).stay (fun c v hc q => k c v ?_ q) (fun _ q => q) fun _ _ q => q
  rcases hc with z | z
  · rw [z]
    exact kn b u e
  · exact kn c _ z
/-- a thing that stands there is tracked from now on -/
theorem inv_learn {D : Addr} {o : HO} (I : Inv X pins σ H s) (ha : Away X pins D) (hn : H D = none) (ho : ObjOk X.prog X.w (upd H D o) s.heap D o) : Inv X pins σ (upd H D o) s := by
  have nD : ∀ b u, H b = some u → b ≠ D := fun b u e => ne_of_none e hn
  refine I.call' (ch := [D]) rfl ⟨fun b o e _ _ _ => e, fun b o e _ _ _ => ⟨o.slots, e⟩, fun b o e n hx => ?_, fun b o e _ => ⟨o, e⟩, fun b xs e => by rw [upd_ne (nD b _ e)]; exact e, fun b o u e => by rw [upd_ne (nD b _ e)]; exact e, fun b ps e => ⟨#[], by rw [upd_ne (nD b _ e), e]; simp⟩⟩ (fun b u e => ?_) I.bare fun b hb => by rw [List.mem_singleton.mp hb]; exact ha
  · rw [upd_ne (fun z => hx (by rw [z]; exact List.mem_singleton_self _))]
    exact n
  · by_cases hb : b = D
    · subst hb
      rw [upd_same] at e
      cases e
      exact ho
    · rw [upd_ne hb] at e
      exact (I.hok b u e).stay (fun c v hc q => q) (fun c q => by rw [upd_ne (nD c _ q)]; exact q) fun c xs q => by rw [upd_ne (nD c _ q)]; exact q
end
theorem vals_refs : ∀ {xs : List V} {a b : List Value}, (∀ y ∈ xs, ∃ f, y = V.ref f) → Vals xs a → Vals xs b → a = b
  | _, _, _, _, .nil, .nil => rfl
  | _, _, _, h, .cons r1 k1, .cons r2 k2 => by
    obtain ⟨f, rfl⟩ := h _ (List.mem_cons_self ..)
    cases r1
    cases r2
    rw [vals_refs (fun y hy => h y (List.mem_cons_of_mem _ hy)) k1 k2]
/-! ### [x(a) for a in ..], x a def that is handed a lambda -/
def KCall (X : Cx) (CXl : CXT) (kl : Nat) (TT : TTr) (σ : L2.St) (y : V) (H : Hp) (R : VK) : Prop :=
  ∃ (f : Addr) (F : LF) (ds : List V) (fr : List Str) (js : List Nat) (sp : LSp), y = .ref f ∧ LamAt H f F ds ∧ (X.Ok → Caps X F.cl fr js) ∧ LamOk X.prog X.w X.K X.mg X.base CXl kl f F ds fr sp ∧ TT (fun E' H' Q' => LamAt H' f F ds ∧ sp (js.map (slotAt σ)) H' Q' E') H R C8.E0
def tKC (X : Cx) (CXl : CXT) (kl : Nat) (TT : TTr) (tl : TE) : TE := fun σ H Q => tl σ H fun v H1 => ∃ l xs, v = .ref l ∧ SqL X.K H1 l xs ∧ xs.length ≤ 1000 ∧ (∀ y ∈ xs, ∃ f, y = V.ref f) ∧ ∃ Pv : Nat → List V → Hp → Prop, Pv 0 [] H1 ∧ (∀ i acc H, Pv i acc H → SqL X.K H l xs) ∧
  (∀ (i : Nat) acc y H, xs[i]? = some y → Pv i acc H → KCall X CXl kl TT σ y H fun z H' => Pv (i + 1) (acc ++ [z]) H') ∧ ∀ acc H, Pv xs.length acc H → ∀ D, H D = none → Q (.ref D) (upd H D (.lst acc))
theorem pe_kcomp {X : Cx} {tl : TE} {iter : Expr} {x a : Str} {g : Addr} {scope : Scope} {pn pa pt cpos pos : Pos} {TT : TTr} {CXl : CXT} {kg kl j : Nat}
    (hc : X.calm = true) (hl : PE X iter tl) (hcellS : ∀ y ∈ scope.names, y.2 ≠ .cell) (hkS : scope.kind = .function) (hnS : ∀ y ∈ scope.names, y.2 = .local → scope.names.lookup y.1 = some .local)
    (hfr : ∀ y ∈ scope.names, y.2 = .free → X.env.scope.names.lookup y.1 = some .cell ∨ X.env.scope.names.lookup y.1 = some .free)
    (hal : scope.names.lookup a = some .local) (hgl : (relS scope X.env.scope).names.lookup x = some .globalImplicit) (hm : X.mg x = some (.ref g)) (hk : PySem.W.keepIn X.K (.ref g) = true)
    (G : GOk X.prog X.w X.K X.mg X.base C8.CX0 CXl kg kl g TT) (hr : Room j X.A) (hj : kg ≤ j) (hs : ∀ x, foldedSetIterable iter X.env x = pure x := by intro _; rfl)
    (hd : (x == ("__debug__" : Str)) = false := by decide) (hda : (a == ("__debug__" : Str)) = false := by decide) :
    PE X (.ListComp (.Call (.Name x pn) [.Name a pa] [] cpos) [⟨.Name a pt, iter, [], 0⟩] scope pos) (tKC X CXl kl TT tl) := by
  refine ⟨fun pins s σ H Q I h => ?_⟩
  have hfree : ∀ y ∈ scope.names, y.2 = .free → ∃ c, X.env.cells.lookup y.1 = some c := fun y hy e => (hfr y hy e).elim (fun z => I.ok.has _ (.inl z)) fun z => I.ok.has _ (.inr z)
  refine ListComp_goes (closure_ok hfree) hcellS hkS hnS (thn (hl.run pins s σ H _ I h) fun v s1 ⟨xv, H1, I1, r1, q1⟩ => ?_) hs
  obtain ⟨l, xs, rfl, la, hx, hrf, Pv, p0, pl, pt', pd⟩ := q1
  cases r1
  obtain ⟨its, rv, p, hz⟩ := I1.list la
  have hlen : xs.length = its.length := rv.length
  refine wpAny_pyIter_list p.isList ?_
  have hn1 : ∀ b, s1.heap.objs.size ≤ b → b ∉ frs X.stack := fun f hf z => by
    rcases List.mem_cons.mp (I1.stkSub _ z) with e | e
    · have h1 := I1.lt
      rw [← e] at h1
      exact Nat.lt_irrefl _ (Nat.lt_of_lt_of_le h1 hf)
    · exact I1.nofs hf e
  have hll : l < s1.heap.objs.size := by
    obtain ⟨o, ho, _⟩ := p.isList
    exact Heap.lt_size ho
  have aw : ∀ b, s1.heap.objs.size ≤ b → Away X pins b := fun b hb => away_new I1 hb
  generalize hIt : s1.heap.objs.size = it at hn1 hll aw ⊢
  have hsz2 : (s1.heap.push { cls := .type "list_iterator", data := .fields #[.ref l, .int 0 0] }).objs.size = it + 1 := by rw [Heap.size_push, hIt]
  have hh := I1.ok.hd hc
  refine ⟨it, [it, l], [it], its.toArray.size, _, _, rfl, Goes.list hh it l (Nat.ne_of_lt hll) its.toArray, ?_, ⟨⟨_, by rw [← hIt]; exact Heap.get?_push_size _ rfl, rfl, rfl⟩, p.isList.at fun o e => Heap.get?_push_of_some _ e⟩, ?_, fun D C s3 B => ?_⟩
  · have : its.toArray.size = xs.length := by rw [List.size_toArray, hlen]
    rw [this]
    exact Nat.le_trans hx (by decide)
  · intro b hb
    show b < (s1.heap.push _).objs.size
    rw [hsz2]
    rcases List.mem_cons.mp hb with rfl | hb
    · exact Nat.lt_succ_self _
    · rw [List.mem_singleton.mp hb]
      exact Nat.lt_succ_of_lt hll
  obtain ⟨⟨h3, tk3, rfl⟩, old, nD, nC, hDC, hnm⟩ := B
  have nD' : it + 1 ≤ D := by rw [← hsz2]; exact nD
  have nC' : it + 1 ≤ C := by rw [← hsz2]; exact nC
  have nDi : D ≠ it := fun z => by rw [z] at nD'; exact Nat.lt_irrefl _ nD'
  have nCi : C ≠ it := fun z => by rw [z] at nC'; exact Nat.lt_irrefl _ nC'
  have aD := aw D (Nat.le_of_succ_le nD')
  have aC := aw C (Nat.le_of_succ_le nC')
  have aI := aw it (Nat.le_refl _)
  have fD : D ∉ frs X.stack := hn1 D (Nat.le_of_succ_le nD')
  have fC : C ∉ frs X.stack := hn1 C (Nat.le_of_succ_le nC')
  have fI : it ∉ frs X.stack := hn1 it (Nat.le_refl _)
  have kinds : ∀ y, scope.names.lookup y = some .local → (compEnvC scope (cloFrom X.env.cells scope.names []) C X.env).kindOf y = some .local := fun y hy => lookup_relabel_local hy
  have hp : ((compEnvC scope (cloFrom X.env.cells scope.names []) C X.env).scope.kind == .class || ((compEnvC scope (cloFrom X.env.cells scope.names []) C X.env).scope.kind == .module && (compEnvC scope (cloFrom X.env.cells scope.names []) C X.env).locals != (compEnvC scope (cloFrom X.env.cells scope.names []) C X.env).globals)) = false := by
    show (scope.kind == .class || (scope.kind == .module && _)) = false
    rw [hkS]; rfl
  refine ⟨fun i ys s' => ∃ (H' : Hp) (acc : List V) (m : Str → Option Value), Inv X pins σ H' s' ∧ Vals acc ys ∧ acc.length = i ∧ Pv i acc H' ∧ H' D = none ∧ H' C = none ∧ H' it = none ∧ s'.heap.Ns C m, ?_, ?_, ?_, ?_⟩
  · refine ⟨H1, [], _, I1.kept (t' := tk3) fun b u e => old b u (Heap.get?_push_of_some _ e), .nil, rfl, p0, I1.hok.fresh (by rw [hIt]; exact Nat.le_of_succ_le nD'), I1.hok.fresh (by rw [hIt]; exact Nat.le_of_succ_le nC'), I1.hok.fresh (by rw [hIt]; exact Nat.le_refl _), hnm⟩
  · rintro i ys s4 h' tk ⟨H', acc, m, I4, rA, al, pA, hD, hC, hI, hm4⟩ hk' _
    refine ⟨H', acc, m, inv_ch (ch := [D, it]) I4 (fun b hb => ?_) (fun b hb => ?_) (fun b o hb e => hk' b o hb e), rA, al, pA, hD, hC, hI, hm4.at' fun o e => hk' _ o (fun hb => ?_) e⟩
    · rcases List.mem_cons.mp hb with rfl | hb
      · exact aD
      · rw [List.mem_singleton.mp hb]; exact aI
    · rcases List.mem_cons.mp hb with rfl | hb
      · exact hD
      · rw [List.mem_singleton.mp hb]; exact hI
    · rcases List.mem_cons.mp hb with z | hb
      · exact hDC z.symm
      · exact nCi (List.mem_singleton.mp hb)
  · rintro i v ys s4 hi hY st ⟨H', acc, m, I4, rA, al, pA, hD, hC, hI, hm4⟩ hpl
    have hvi : its[i]? = some v := by simpa using hY
    obtain ⟨y, hyi, ry⟩ : ∃ y, xs[i]? = some y ∧ RelV y v := by
      have hil : i < xs.length := by rw [hlen]; exact (List.getElem?_eq_some_iff.mp hvi).1
      have e : xs[i]? = some xs[i] := List.getElem?_eq_getElem hil
      obtain ⟨u, hu, ru⟩ := rv.get e
      rw [hvi] at hu
      cases hu
      exact ⟨_, e, ru⟩
    obtain ⟨f, F, ds, fr, js, sp, rfl, lat, cap, lok, tt⟩ := pt' i acc y H' hyi pA
    cases ry
    refine wpAny_assign_Name (wpAny_storeName_local (kinds _ hal) hm4 (fun h5 n5 s5 => ?_) hp)
    refine wpAny_tests_nil ?_
    rw [if_pos rfl]
    have I5 : Inv X pins σ H' { s4 with heap := h5, toks := s4.toks + 1 } := inv_ch (ch := [C]) (tk := s4.toks + 1) I4 (fun b hb => by rw [List.mem_singleton.mp hb]; exact aC) (fun b hb => by rw [List.mem_singleton.mp hb]; exact hC) fun b o hb e => s5.extBut b o (fun z => hb (by rw [z]; exact List.mem_singleton_self _)) e
    generalize hs5 : ({ s4 with heap := h5, toks := s4.toks + 1 } : Shared) = s5' at I5
    have e5 : s5'.heap = h5 := by rw [← hs5]
    have kp5 : ∀ b o, b ≠ C → s4.heap.get? b = some o → s5'.heap.get? b = some o := fun b o hb e => by rw [e5]; exact s5.extBut b o hb e
    have cat := cells_of I5 (cap I5.ok)
    show wpAny _ _ _ _ _ s5'
    refine wpAny_Call_Name_kw (Calls.Name_function_global (by show scope.kind = .function; exact hkS) hgl (Calls.loadGlobal_global (by show s5'.heap.Ns X.env.globals X.mg; rw [I5.ok.glob]; exact I5.mod.glob.keeps I5.bk) hm ?_) hd)
    refine PySem.W.callWith_K I5.ok.mod.kin hk ?_ (by rfl) (by rfl)
    show wpAny _ _ (spliced ((false, eval (.Name a pa) (compEnvC scope (cloFrom X.env.cells scope.names []) C X.env)) :: backTo cpos (starEach [] (compEnvC scope (cloFrom X.env.cells scope.names []) C X.env)))) _ _ s5'
    refine Calls.spliced_cons (wpAny_Name (wpAny_loadName_local hkS (kinds _ hal) (by rw [e5]; exact n5) (v := .ref f) (by simp) ?_) hda)
    refine Calls.spliced_nil ⟨I5.kIn, ?_⟩
    show wpAny _ _ (call (.ref g) [.ref f]) _ _ s5'
    refine wpAny_call (codeAny_mono (G.run X.A X.stack s5' H' f F ds fr _ sp _ C8.E0 (hr.mono hj) I5.env0 lat cat lok tt) fun r s6 hq => ?_)
    cases r with
    | error e => exact (show False from hq).elim
    | ok fl =>
      cases fl with
      | ret u =>
        obtain ⟨z, H6, os6, bare6, un6, hok6, rz, pz⟩ := hq
        have I6 : Inv X pins σ H6 s6 := I5.call' (ch := []) os6 un6 hok6 bare6 fun b hb => nomatch hb
        have kp6 : ∀ b o, H' b = none → b ∉ frs X.stack → s5'.heap.get? b = some o → s6.heap.get? b = some o ∧ H6 b = none := fun b o n fb e => ⟨un6.keep b o e n fb (by simp), un6.free b o e n (by simp)⟩
        have oD : ∃ o, s5'.heap.get? D = some o := by
          obtain ⟨n, e⟩ := hpl
          exact ⟨_, kp5 D _ hDC e⟩
        have oC : ∃ o, s5'.heap.get? C = some o := by
          obtain ⟨o, _, _, ho, _⟩ := n5
          exact ⟨o, by rw [e5]; exact ho⟩
        have oI : ∃ o, s5'.heap.get? it = some o := by
          obtain ⟨o, ho, _⟩ := st.1
          exact ⟨o, kp5 it o (Ne.symm nCi) ho⟩
        obtain ⟨od, hod⟩ := oD
        obtain ⟨oc, hoc⟩ := oC
        obtain ⟨oi, hoi⟩ := oI
        refine ⟨⟨H6, acc ++ [z], _, I6, rA.append (.cons rz .nil), by rw [List.length_append, al]; rfl, pz, (kp6 D od hD fD hod).2, (kp6 C oc hC fC hoc).2, (kp6 it oi hI fI hoi).2, (n5.at' fun o e => (kp6 C o hC fC (by rw [e5]; exact e)).1)⟩, ⟨st.1.at fun o e => (kp6 it o hI fI (kp5 it o (Ne.symm nCi) e)).1, ?_⟩, hpl.at fun o e => (kp6 D o hD fD (kp5 D o hDC e)).1⟩
        obtain ⟨its', rv', p', _⟩ := I6.list (pl _ _ _ pz)
        rw [vals_refs hrf rv rv']
        exact p'.isList
      | next => exact False.elim hq
      | brk => exact False.elim hq
      | cont => exact False.elim hq
  · rintro ys s4 ⟨H', acc, m, I4, rA, al, pA, hD, hC, hI, hm4⟩ hpl
    have esz : its.toArray.size = xs.length := by rw [List.size_toArray, hlen]
    rw [esz] at pA
    refine ⟨m, hm4, fun h' hs' => ?_⟩
    have I5 : Inv X pins σ H' { s4 with heap := h' } := inv_ch (ch := [C]) (tk := s4.toks) I4 (fun b hb => by rw [List.mem_singleton.mp hb]; exact aC) (fun b hb => by rw [List.mem_singleton.mp hb]; exact hC) fun b o hb e => hs'.extBut b o (fun z => hb (by rw [z]; exact List.mem_singleton_self _)) e
    obtain ⟨n, hd5⟩ := hpl.extBut hs'.extBut hDC
    refine ⟨.ref D, upd H' D (.lst acc), inv_learn I5 aD hD ⟨?_, ys, n, rA, hd5⟩, rfl, pd acc H' pA D hD⟩
    rw [al, esz]
    exact Nat.le_trans hx (by decide)
end Obr
namespace Obr
open PySem PySem.Spec PyProof.Rows L2 LamX NdefX
/-! ### defs that raise -/
/-- the promise of a def that ends by raising -/
def LX (A : List V → Hp → (Value → Option Addr → Hp → Prop) → Prop) : Sp := fun vs H _ E => ∃ (J : Unit → Hp → Hp → Prop) (F : Hp) (W : Value → Option Addr → Hp → Prop), Hid J ∧ J () F H ∧ A vs F W ∧ ∀ cls d F' H', J () F' H' → W cls d F' → E cls d H'
theorem LX.body {J : Unit → Hp → Hp → Prop} {F H : Hp} {Q : VK} {t : TS} {σ : L2.St} (j : J () F H) (h : SW J t { nx := fun _ _ _ => False, rt := fun _ _ _ => False } σ () F) : t { nx := fun _ H' => Q .non H', rt := Q } σ H :=
  h H j _ ⟨fun _ _ _ _ _ k => k.elim, fun _ _ _ _ _ k => k.elim, fun _ _ _ _ _ k => k.elim, fun _ _ _ _ _ k => k.elim⟩
section
variable {S : Type} {J : S → Hp → Hp → Prop} {K : PySem.W.Frag} {σ : L2.St} {s : S} {F : Hp} {R : V → S → Hp → Prop} {tr : TA} {te : TE} {A : List V → Hp → (Value → Option Addr → Hp → Prop) → Prop} {E : XK}
theorem sw_raise1 {D : En S} {cls : Value} {d : Option Addr} (h : EW J te σ s F fun _ s1 F1 => ∀ H1, J s1 F1 H1 → E cls d H1) : SW J (fun _ σ H => te σ H fun _ H1 => (fun cls d _ H => E cls d H : WX) cls d σ H1) D σ s F := fun H j D' _ => h H j _ fun _ _ _ H1 j1 k => k H1 j1
/-- a call that raises -/
theorem ew_callX (hd : Hid J) (h : AW J tr σ s F fun vs s1 F1 => ∃ W : Value → Option Addr → Hp → Prop, A vs F1 W ∧ ∀ cls d F' H', J s1 F' H' → W cls d F' → E cls d H') : EW J (tCall (LX A) [] E tr) σ s F R := fun H j Q q =>
  h H j _ fun vs s1 F1 H1 j1 ⟨W, a, k⟩ => by
    show LX A (vs ++ []) H1 Q E
    rw [List.append_nil]
    exact ⟨_, F1, W, hd.unit s1, j1, a, fun cls d F' H' j' w => k cls d F' H' j' w⟩
end
/-! ### how often a flat value stands in a list -/
section
variable {X : Cx}
def rCntV (K : PySem.W.Frag) : V → List V → Hp → VK → Prop := fun x xs H Q => ∃ (p : Addr) (ys : List V) (y : V), x = .ref p ∧ xs = [y] ∧ SqL K H p ys ∧ flatV y = true ∧ ys.all flatV = true ∧ Q (.int (ys.countP fun z => eqV z y : Nat)) H
theorem count_eqU {y : V} : ∀ {ys : List V} {us : List Value}, Vals ys us → ys.all flatV = true → us.countP (eqU y) = ys.countP fun z => eqV z y
  | [], _, .nil, _ => rfl
  | a :: ys, _, .cons ra rt, h => by
    rw [List.all_cons, Bool.and_eq_true] at h
    rw [List.countP_cons, List.countP_cons, count_eqU rt h.2, eqU_of ra h.1]
theorem mt_countV : MtR X "list.count" (rCntV X.K) := by
  intro pins s σ H x xs v us Q I rx rxs h
  obtain ⟨p, ys, y, rfl, rfl, hs, fy, fys, q⟩ := h
  cases rx
  obtain ⟨u, rfl, ru⟩ := rxs.one
  obtain ⟨its, rv, ⟨⟨cls, dd, data, sl⟩, n, ho, hc, hdn, hd⟩, hlen⟩ := I.list hs
  simp only at hc hd
  subst hc hd
  refine call_meets PySem.F.slot_list_count ⟨_, ho, rfl⟩ PySem.F.entry_list_count (PySem.F.args_list_count_2 _ _)
    (SeqAt.list_countAt p its.toArray n dd sl u (eqU y)) ⟨ho, fun u' hu' => mem_eqAt ru fy rv fys u' (by simpa using hu'), ?_⟩
  refine ⟨.int (ys.countP fun z => eqV z y : Nat), H, I.tok _, ⟨s.toks, ?_⟩, q⟩
  show Value.int ((its.toArray.toList.countP (eqU y) : Nat) : Int) s.toks = _
  rw [show its.toArray.toList = its from rfl, count_eqU rv fys]
end
section
variable {S : Type} {J : S → Hp → Hp → Prop} {K : PySem.W.Frag} {s : S} {F : Hp} {R : V → S → Hp → Prop}
theorem mw_countV (hd : Hid J) {p : Addr} {ys : List V} {y : V} (l : SqL K F p ys) (fy : flatV y = true) (fys : ys.all flatV = true) (h : R (.int (ys.countP fun z => eqV z y : Nat)) s F) : MW J (rCntV K) (.ref p) [y] s F R := fun H j Q q => ⟨p, ys, y, rfl, rfl, hd.sqL j l, fy, fys, q _ _ _ _ j h⟩
theorem mw_indexV (hd : Hid J) {p : Addr} {ys : List V} {y z : V} {i : Nat} (l : SqL K F p ys) (fy : flatV y = true) (fys : ys.all flatV = true) (h1 : ys[i]? = some z) (h2 : eqV z y = true) (h3 : ∀ (m : Nat) (z' : V), m < i → ys[m]? = some z' → eqV z' y = false) (h : R (.int (i : Nat)) s F) : MW J (rIndex K) (.ref p) [y] s F R := fun H j Q q =>
  ⟨p, ys, y, i, z, rfl, rfl, hd.sqL j l, fy, fys, h1, h2, h3, q _ _ _ _ j h⟩
theorem cw_isE {D a : Addr} {c : V} {cv : Value} {b : Bool} (h1 : ∀ u, L2.RelV c u → u = cv) (h2 : PySem.W.kitOne K (.ref D) cv = some b) (h : R (.bl b) s F) : CW J (rIsE K D a) [.ref a, c] s F R := fun H j Q q => ⟨c, cv, b, rfl, h1, h2, q _ _ _ _ j h⟩
end
/-- what is told of an own exception class without own words -/
structure XF (K : PySem.W.Frag) (mg : Str → Option Value) (x : Str) (C : Addr) : Prop where
  xF : PySem.W.excIn K C [Value.type "ValueError", Value.type "Exception", Value.type "BaseException", Value.type "object"] "ValueError.__new__" = true
  gF : mg x = some (.ref C)
  kF : PySem.W.keepIn K (.ref C) = true
  bF : PySem.W.subIn K (.ref C) (.type "BaseException") = some true
  tF : PySem.W.typeIn K (.ref C) = some (.type "type")
end Obr
namespace Obr
open PySem PySem.Spec L2 PyProof.Rows
local macro_rules | `(tactic| walk_at "ob_at") => `(tactic| first
  | assumption
  | exact upd_same
  | (refine Eq.trans (upd_ne ?obn) ?obr; (case obn => walk_at "ob_ne"); (case obr => walk_at "ob_at")))
local macro_rules | `(tactic| walk_at "ob_ne") => `(tactic| first
  | assumption
  | (refine Ne.symm ?obs; (case obs => assumption))
  | (refine' ne_of_none (H := ?_) ?obe ?obh; (case obh => assumption); (case obe => walk_at "ob_at"))
  | (refine Ne.symm ?obs; (case obs => (refine' ne_of_none (H := ?_) ?obe ?obh; (case obh => assumption); (case obe => walk_at "ob_at")))))
local macro_rules | `(tactic| walk_at "ob_fr") => `(tactic| first
  | assumption
  | (refine Eq.trans (upd_ne ?obn) ?obr; (case obn => walk_at "ob_ne"); (case obr => walk_at "ob_fr"))
  | (refine Ex.free (G := ?_) (by assumption) ?obh; (case obh => walk_at "ob_fr")))
local macro_rules | `(tactic| walk_at "ob_ex") => `(tactic| first
  | assumption
  | exact Ex.refl _
  | (refine Ex.out ?obg ?obh; (case obh => assumption); (case obg => walk_at "ob_ex"))
  | (refine Ex.new ?obg ?obh; (case obh => assumption); (case obg => walk_at "ob_ex"))
  | (refine Ex.new ?obg ?obh; (case obh => walk_at "ob_fr"); (case obg => walk_at "ob_ex")))
local macro_rules | `(tactic| walk_at "ob_sq") => `(tactic| first
  | assumption
  | (refine SqL.of ?oba; (case oba => walk_at "ob_at"))
  | (refine Ex.sqT (F := ?_) ?obg ?obh; (case obh => assumption); (case obg => walk_at "ob_ex"))
  | (refine Ex.sqL (F := ?_) ?obg ?obh; (case obh => assumption); (case obg => walk_at "ob_ex"))
  | (refine SqT.of ?oba; (case oba => walk_at "ob_at")))
local macro_rules | `(tactic| walk_at "ob_side") => `(tactic| first | exact rfl | assumption | decide | omega | exact ⟨by decide, by decide, by decide⟩ | exact Or.inr ⟨by decide, by decide⟩ | exact Or.inl ⟨by decide, by decide⟩ | exact wide_div (b := 60) (by first | decide | omega) (by first | decide | omega) (by decide) (by decide))
local macro_rules | `(tactic| walk_at "ob1") => `(tactic| first
  | with_reducible refine sw_seq ?_
  | with_reducible refine sw_asg ?_
  | with_reducible refine sw_ret ?_
  | with_reducible refine sw_par ?_
  | with_reducible refine ⟨_, _, rfl, ?_⟩
  | with_reducible refine sw_drop ?_
  | with_reducible refine sw_if ?_
  | with_reducible refine sw_next ?_
  | with_reducible refine gw_name ?_
  | with_reducible refine gw_subL (by assumption) ?_
  | with_reducible refine gsw_cons ?_
  | with_reducible refine gsw_nil ?_
  | with_reducible refine ew_c ?_
  | ((with_reducible refine' ew_var (v := ?_) ?obv ?_); (case obv => exact rfl))
  | ((with_reducible refine ew_next (by assumption) ?obv ?_); (case obv => exact rfl))
  | ((with_reducible refine ew_world (by assumption) ?obv ?_); (case obv => exact rfl))
  | ((with_reducible refine ew_rule (by assumption) ?obv ?_); (case obv => exact rfl))
  | with_reducible refine ew_op ?_
  | with_reducible refine ew_un ?_
  | with_reducible refine ew_dget (by assumption) ?_
  | with_reducible refine uw_I ?_
  | with_reducible refine ppw_nil ?_
  | with_reducible refine ppw_cons ?_
  | with_reducible refine sw_dput (by assumption) ?_
  | with_reducible refine ew_cb ?_
  | with_reducible refine ew_if ?_
  | with_reducible refine ew_slL (by assumption) ?_
  | with_reducible refine ow_some ?_
  | with_reducible refine ow_none ?_
  | with_reducible refine aw_nil ?_
  | with_reducible refine aw_cons ?_
  | with_reducible refine rw_I0 ?_
  | ((with_reducible refine rw_I ?obc ?_); (case obc => walk_at "ob_side"))
  | with_reducible refine rw_isN ?_
  | with_reducible refine rw_notN ?_
  | ((with_reducible refine rw_eq ?obc ?_); (case obc => exact rfl))
  | ((with_reducible refine rw_ne ?obc ?_); (case obc => exact rfl))
  | with_reducible refine cw_max2 ?_
  | with_reducible refine cw_min2 ?_
  | with_reducible refine tw_test ?_
  | with_reducible refine tw_B ?_
  | with_reducible refine tw_not ?_
  | with_reducible refine tw_truB ?_
  | with_reducible refine tw_and ?_
  | with_reducible refine tw_or ?_
  | with_reducible refine ew_and ?_
  | (refine' Exists.intro _ (And.intro (show V.bl _ = V.bl _ from rfl) ?_))
  | (refine' Exists.intro _ (And.intro (show V.int _ = V.int _ from rfl) ?_))
  | ((with_reducible refine' rw_ixL (v := ?_) (xs := ?_) (by assumption) ?obl ?oba ?_); (case obl => walk_at "ob_sq"); (case oba => first | exact rfl | exact at_zero))
  | ((with_reducible refine' rw_ixT (v := ?_) (xs := ?_) (by assumption) ?obl ?oba ?_); (case obl => walk_at "ob_sq"); (case oba => first | exact rfl | exact at_zero))
  | ((with_reducible refine' ew_lst (by assumption) ?_))
  | ((with_reducible refine' ew_tup (by assumption) ?_)))
local macro_rules | `(tactic| walk_at "ob_len") => `(tactic| first | exact Nat.le_of_ble_eq_true rfl | (simp; done) | omega)
local macro_rules | `(tactic| walk_at "ob") => `(tactic| repeat walk_at "ob1")

section
variable {S : Type} {J : S → Hp → Hp → Prop} {σ : L2.St} {s : S} {F : Hp} {ta tb tc : TE} {R : V → S → Hp → Prop}
theorem ew_outside (h : EW J ta σ s F fun x s1 F1 => ∃ i, x = .int i ∧ EW J tb σ s1 F1 fun y s2 F2 => ∃ k, y = .int k ∧ (¬ i ≤ k → R (.bl false) s2 F2) ∧ (i ≤ k → EW J tc σ s2 F2 fun z s3 F3 => ∃ l, z = .int l ∧ ¬ k ≤ l ∧ R (.bl false) s3 F3)) :
    EW J (tChain (rI0 fun i j => .bl (decide (i ≤ j))) (rI0 fun i j => .bl (decide (i ≤ j))) ta tb tc) σ s F R :=
  ew_chain (h.imp fun x s1 F1 ⟨i, ex, h1⟩ => by
    subst ex
    exact h1.imp fun y s2 F2 ⟨k, ey, h0, h2⟩ => by
      subst ey
      refine rw_I0 ⟨_, rfl, fun hb => (h2 (of_decide_eq_true hb)).imp fun z s3 F3 ⟨l, ez, hkl, r⟩ => ?_, fun hb => ?_⟩
      · subst ez
        refine rw_I0 ?_
        rw [decide_eq_false hkl]
        exact r
      · exact h0 (of_decide_eq_false hb))
end
theorem log_tiny {n : Int} (h : n.natAbs ≤ 100) : n.natAbs.log2 < 1000 := Nat.lt_of_le_of_lt (Nat.log2_le_self _) (by omega)
theorem txt_len {a : Int} (h : a.natAbs.log2 < 1000) : (Str.ofString (toString a)).length ≤ 1001 := by
  have e := int_text_length_le (k := 1000) (by decide) h
  clear h
  rw [PySem.ofString_length]
  exact e
theorem fstr3 {σ : L2.St} {H : Hp} {Q : Str → Hp → Prop} {a b c : Int} {s1 s2 : Str} {i j k : Nat} (h1 : a.natAbs.log2 < 1000) (h2 : b.natAbs.log2 < 1000) (h3 : c.natAbs.log2 < 1000) (l1 : s1.length ≤ 100) (l2 : s2.length ≤ 100) (e1 : σ[i]? = some (some (.int a))) (e2 : σ[j]? = some (some (.int b))) (e3 : σ[k]? = some (some (.int c))) (q : ∀ out, Q out H) :
    tJs [tFmt (tVar i), tC (V.str s1), tFmt (tVar j), tC (V.str s2), tFmt (tVar k)] Str.empty σ H Q := by
  have z : (10000 : Nat) ≤ sizeLine := by rw [sizeLine_eq]; decide
  have t1 := txt_len h1
  have t2 := txt_len h2
  have t3 := txt_len h3
  have l0 : (Str.empty).length = 0 := rfl
  have lt : ∀ x y : Str, (x ++ y).length = x.length + y.length := fun x y => PySem.Str.length_append x y
  refine ⟨.int a, e1, Or.inr ⟨a, rfl, by omega, _, rfl, ?_, _, rfl, ?_, .int b, e2, Or.inr ⟨b, rfl, by omega, _, rfl, ?_, _, rfl, ?_, .int c, e3, Or.inr ⟨c, rfl, by omega, _, rfl, ?_, q _⟩⟩⟩⟩
  all_goals (simp only [lt, l0]; omega)
def aCountBad (C : Addr) : List V → Hp → (Value → Option Addr → Hp → Prop) → Prop := fun vs F W => ∃ a b c : Int, vs = [.int a, .int b, .int c] ∧ ¬ (b ≤ a ∧ a ≤ c) ∧ a.natAbs.log2 < 1000 ∧ b.natAbs.log2 < 1000 ∧ c.natAbs.log2 < 1000 ∧ W (.ref C) none F
def aBeatsBad (K : PySem.W.Frag) (C : Addr) : List V → Hp → (Value → Option Addr → Hp → Prop) → Prop := fun vs F W => ∃ (wv rv : V) (w : Wld) (r : Rgt) (p : Bool) (n : Int), vs = [wv, rv, .int n] ∧ Dp K F wv (wldD w) ∧ Dp K F rv (rulD r p) ∧ WldOk w ∧ (n < 0 ∨ 500 < n) ∧ n.natAbs.log2 < 1000 ∧ ∀ F', Ex F F' → W (.ref C) none F'
def aAfterBad (K : PySem.W.Frag) (C : Addr) : List V → Hp → (Value → Option Addr → Hp → Prop) → Prop := fun vs F W => ∃ (wv rv : V) (w : Wld) (r : Rgt) (p : Bool) (n : Int), vs = [wv, rv, .int n] ∧ Dp K F wv (wldD w) ∧ Dp K F rv (rulD r p) ∧ WldOk w ∧ (n < 0 ∨ 1000000000000 < n) ∧ n.natAbs.log2 < 1000 ∧ ∀ F', Ex F F' → W (.ref C) none F'
def aNeedOfBad (K : PySem.W.Frag) (C : Addr) : List V → Hp → (Value → Option Addr → Hp → Prop) → Prop := fun vs F W => ∃ (wv : V) (w : Wld) (n : Int), vs = [wv, .int n] ∧ Dp K F wv (wldD w) ∧ WldOk w ∧ (n < 0 ∨ (w.ms.length : Int) ≤ n) ∧ n.natAbs.log2 < 1000 ∧ ∀ F', Ex F F' → W (.ref C) none F'
section
variable {P : Program} {w : World} {K : PySem.W.Frag} {mg : Str → Option Value} {base : Heap} {C M cBadCount : Addr}

theorem okX_check_count {f : Addr} {fd : FuncData}  (Fn : Fun K "check_count" "check_count" s_check_count f fd) (B : Blt mg) (XBadCount : XF K mg "BadCount" cBadCount) : FnOk P w K mg base (L2.CX P w) 1 f fd ["many", "least", "most"] (LX (aCountBad cBadCount)) := by
  refine Fn.okX sc_check_count (fun vs H Q E h => ?_) (fun cdv A outer s H vs Q E hr h => ?_)
  · obtain ⟨J, F, W, hd, j, h, _⟩ := h
    obtain ⟨a, b, c, rfl, _⟩ := h
    rfl
  · have nd := sc_check_count.nd
    obtain ⟨J, F, W, hd, j, h, q⟩ := h
    obtain ⟨a, b, c, rfl, hne, hs1, hs2, hs3, k⟩ := h
    refine ⟨_, (pss_one (ps_if (pt_not (pt_chain op_le op_le (pv 1) (pv 0) (pv 2))) (pss_one (ps_raise rfl (takes_of rfl rfl rfl rfl) (SkE.pmk_own1 PySem.F.excBase_ValueError XBadCount.xF XBadCount.gF XBadCount.kF (raises_own XBadCount.bF XBadCount.tF) rfl (pe_joined (PJ.cons (pe_fmt (pv 0)) (PJ.cons pe_str (PJ.cons (pe_fmt (pv 1)) (PJ.cons pe_str (PJ.cons (pe_fmt (pv 2)) PJ.nil))))))))) pss_nil)), ?_⟩
    refine LX.body j ?_
    refine sw_if (tw_not (tw_test (ew_outside ?_)))
    walk_at "ob"
    have hraise : ∀ {D : En Unit}, SW J (fun _ σ H => tJs [tFmt (tVar 0), tC (V.str (Str.ofString " is not ")), tFmt (tVar 1), tC (V.str (Str.ofString " to ")), tFmt (tVar 2)] Str.empty σ H fun out H1 => (fun x H1 => (fun cls d H' => E cls d H') (Value.ref cBadCount) none H1) (V.str out) H1) D (L2.start N_check_count [V.int a, V.int b, V.int c]) () F := fun H' j' D' _ =>
      fstr3 hs1 hs2 hs3 (by decide) (by decide) rfl rfl rfl fun out => q _ _ _ _ j' k
    refine ⟨fun _ => ⟨_, rfl, fun _ => hraise, (fun z => by cases z)⟩, fun hba => ?_⟩
    walk_at "ob"
    exact ⟨fun hc => hne ⟨hba, hc⟩, _, rfl, fun _ => hraise, (fun z => by cases z)⟩

theorem okX_need_of {f : Addr} {fd : FuncData} {f1 f2 : Addr} {fd1 fd2 : FuncData} (Fn : Fun K "need_of" "need_of" s_need_of f fd) (B : Blt mg) (Ccheck_world : Cal K mg "check_world" f1 fd1 ["world"]) (Gcheck_world : FnOk P w K mg base CX0 3 f1 fd1 ["world"] (LS (aChkW K))) (Ccheck_count : Cal K mg "check_count" f2 fd2 ["many", "least", "most"]) (Gcheck_count : FnOk P w K mg base (L2.CX P w) 1 f2 fd2 ["many", "least", "most"] (LX (aCountBad cBadCount))) : FnOk P w K mg base (L2.CX P w) 4 f fd ["world", "machine"] (LX (aNeedOfBad K cBadCount)) := by
  refine Fn.okX sc_need_of (fun vs H Q E h => ?_) (fun cdv A outer s H vs Q E hr h => ?_)
  · obtain ⟨J, F, W, hd, j, h, _⟩ := h
    obtain ⟨wv, w, n, rfl, _⟩ := h
    rfl
  · have nd := sc_need_of.nd
    obtain ⟨J, F, W, hd, j, h, q⟩ := h
    obtain ⟨wv, w, n, rfl, dv, hw, hn, hlog, k⟩ := h
    refine ⟨_, (pss_cons (ps_expr (pe_call Gcheck_world (by exact hr.mono (by decide)) (by rfl) Ccheck_world.g Ccheck_world.k Ccheck_world.a .nil pass0 (pa_cons (pv 0) pa_nil)))
      (pss_cons (ps_asg (pv 0) (pg_tup rfl (pgs_cons (pg_name (i := 2) nd rfl (Or.inl rfl)) (pgs_cons (pg_name (i := 3) nd rfl (Or.inl rfl)) pgs_nil))))
      (pss_cons (ps_expr (pe_call Gcheck_count (by exact hr.mono (by decide)) (by rfl) Ccheck_count.g Ccheck_count.k Ccheck_count.a .nil (passes_call (takes_of rfl rfl rfl rfl) (fun _ _ _ _ h => h)) (pa_cons (pv 1) (pa_cons pe_int (pa_cons (pe_op op_sub (pe_callB call_len_seq (by rfl) B.len (by decide +kernel) (pa_cons (pv 3) pa_nil)) pe_int) pa_nil)))))
      (pss_one (ps_never))))), ?_⟩
    refine LX.body j ?_
    obtain ⟨wa, xs, rfl, lx, dxs⟩ := dp_tup dv
    obtain ⟨sv, mv, rfl, ds, dm⟩ := dps2 dxs
    obtain ⟨ma, zs, rfl, lz, dzs⟩ := dp_tup dm
    have hzl : zs.length = w.ms.length := by have := dps_len dzs; simpa using this
    have hm5 := hw.m
    refine sw_seq (sw_drop (ew_call hd ?_))
    walk_at "ob"
    refine ⟨.ref wa, w, rfl, .tup lx (.cons ds (.cons dm .nil)), hw, fun F1 g1 => ?_⟩
    refine sw_seq (sw_asg ?_)
    walk_at "ob"
    refine gw_tup hd ⟨wa, _, rfl, g1.sqT lx, rfl, gsw_cons (gw_name (gsw_cons (gw_name (gsw_nil ?_))))⟩
    refine sw_seq (sw_drop (ew_callX hd (aw_cons (ew_var rfl (aw_cons (ew_c ?_))))))
    refine aw_cons (ew_op (ew_cb (aw_cons (ew_var rfl (aw_nil (cw_lenS hd (Or.inr (g1.sqT lz)) ?_))))))
    refine ew_c (rw_I0 (aw_nil ⟨fun cls d F' => cls = .ref cBadCount ∧ d = none ∧ F' = F1, ⟨n, 0, _, rfl, by rw [hzl]; omega, hlog, by decide, log_tiny (by rw [hzl]; omega), rfl, rfl, rfl⟩, ?_⟩))
    rintro cls d F' H' j' ⟨rfl, rfl, rfl⟩
    exact q _ _ _ _ j' (k _ g1)
end
end Obr
namespace Obr
open PySem PySem.Spec L2 LamX NdefX PyProof.Rows
local macro_rules | `(tactic| walk_at "ob_at") => `(tactic| first
  | assumption
  | exact upd_same
  | (refine Eq.trans (upd_ne ?obn) ?obr; (case obn => walk_at "ob_ne"); (case obr => walk_at "ob_at")))
local macro_rules | `(tactic| walk_at "ob_ne") => `(tactic| first
  | assumption
  | (refine Ne.symm ?obs; (case obs => assumption))
  | (refine' ne_of_none (H := ?_) ?obe ?obh; (case obh => assumption); (case obe => walk_at "ob_at"))
  | (refine Ne.symm ?obs; (case obs => (refine' ne_of_none (H := ?_) ?obe ?obh; (case obh => assumption); (case obe => walk_at "ob_at")))))
local macro_rules | `(tactic| walk_at "ob_fr") => `(tactic| first
  | assumption
  | (refine Eq.trans (upd_ne ?obn) ?obr; (case obn => walk_at "ob_ne"); (case obr => walk_at "ob_fr"))
  | (refine Ex.free (G := ?_) (by assumption) ?obh; (case obh => walk_at "ob_fr")))
local macro_rules | `(tactic| walk_at "ob_ex") => `(tactic| first
  | assumption
  | exact Ex.refl _
  | (refine Ex.out ?obg ?obh; (case obh => assumption); (case obg => walk_at "ob_ex"))
  | (refine Ex.new ?obg ?obh; (case obh => assumption); (case obg => walk_at "ob_ex"))
  | (refine Ex.new ?obg ?obh; (case obh => walk_at "ob_fr"); (case obg => walk_at "ob_ex")))
local macro_rules | `(tactic| walk_at "ob_sq") => `(tactic| first
  | assumption
  | (refine SqL.of ?oba; (case oba => walk_at "ob_at"))
  | (refine Ex.sqT (F := ?_) ?obg ?obh; (case obh => assumption); (case obg => walk_at "ob_ex"))
  | (refine Ex.sqL (F := ?_) ?obg ?obh; (case obh => assumption); (case obg => walk_at "ob_ex"))
  | (refine SqT.of ?oba; (case oba => walk_at "ob_at")))
local macro_rules | `(tactic| walk_at "ob_side") => `(tactic| first | exact rfl | assumption | decide | omega | exact ⟨by decide, by decide, by decide⟩ | exact Or.inr ⟨by decide, by decide⟩ | exact Or.inl ⟨by decide, by decide⟩ | exact wide_div (b := 60) (by first | decide | omega) (by first | decide | omega) (by decide) (by decide))
local macro_rules | `(tactic| walk_at "ob1") => `(tactic| first
  | with_reducible refine sw_seq ?_
  | with_reducible refine sw_asg ?_
  | with_reducible refine sw_ret ?_
  | with_reducible refine sw_par ?_
  | with_reducible refine ⟨_, _, rfl, ?_⟩
  | with_reducible refine sw_drop ?_
  | with_reducible refine sw_if ?_
  | with_reducible refine sw_next ?_
  | with_reducible refine gw_name ?_
  | with_reducible refine gw_subL (by assumption) ?_
  | with_reducible refine gsw_cons ?_
  | with_reducible refine gsw_nil ?_
  | with_reducible refine ew_c ?_
  | ((with_reducible refine' ew_var (v := ?_) ?obv ?_); (case obv => exact rfl))
  | ((with_reducible refine ew_next (by assumption) ?obv ?_); (case obv => exact rfl))
  | ((with_reducible refine ew_world (by assumption) ?obv ?_); (case obv => exact rfl))
  | ((with_reducible refine ew_rule (by assumption) ?obv ?_); (case obv => exact rfl))
  | with_reducible refine ew_op ?_
  | with_reducible refine ew_un ?_
  | with_reducible refine ew_dget (by assumption) ?_
  | with_reducible refine uw_I ?_
  | with_reducible refine ppw_nil ?_
  | with_reducible refine ppw_cons ?_
  | with_reducible refine sw_dput (by assumption) ?_
  | with_reducible refine ew_cb ?_
  | with_reducible refine ew_if ?_
  | with_reducible refine ew_slL (by assumption) ?_
  | with_reducible refine ow_some ?_
  | with_reducible refine ow_none ?_
  | with_reducible refine aw_nil ?_
  | with_reducible refine aw_cons ?_
  | with_reducible refine rw_I0 ?_
  | ((with_reducible refine rw_I ?obc ?_); (case obc => walk_at "ob_side"))
  | with_reducible refine rw_isN ?_
  | with_reducible refine rw_notN ?_
  | ((with_reducible refine rw_eq ?obc ?_); (case obc => exact rfl))
  | ((with_reducible refine rw_ne ?obc ?_); (case obc => exact rfl))
  | with_reducible refine cw_max2 ?_
  | with_reducible refine cw_min2 ?_
  | with_reducible refine tw_test ?_
  | with_reducible refine tw_B ?_
  | with_reducible refine tw_not ?_
  | with_reducible refine tw_truB ?_
  | with_reducible refine tw_and ?_
  | with_reducible refine tw_or ?_
  | with_reducible refine ew_and ?_
  | (refine' Exists.intro _ (And.intro (show V.bl _ = V.bl _ from rfl) ?_))
  | (refine' Exists.intro _ (And.intro (show V.int _ = V.int _ from rfl) ?_))
  | ((with_reducible refine' rw_ixL (v := ?_) (xs := ?_) (by assumption) ?obl ?oba ?_); (case obl => walk_at "ob_sq"); (case oba => first | exact rfl | exact at_zero))
  | ((with_reducible refine' rw_ixT (v := ?_) (xs := ?_) (by assumption) ?obl ?oba ?_); (case obl => walk_at "ob_sq"); (case oba => first | exact rfl | exact at_zero))
  | ((with_reducible refine' ew_lst (by assumption) ?_))
  | ((with_reducible refine' ew_tup (by assumption) ?_)))
local macro_rules | `(tactic| walk_at "ob_len") => `(tactic| first | exact Nat.le_of_ble_eq_true rfl | (simp; done) | omega)
local macro_rules | `(tactic| walk_at "ob") => `(tactic| repeat walk_at "ob1")

theorem zc_of {cls C : Value} {d : Option Addr} {o : Obj} (e : cls = C ∧ d = none) (h : Zc cls d o) : Zc C none o := by rw [← e.1, ← e.2]; exact h
theorem pss_given {X : Cx} {sts : List Stmt} {t : TS} {p : Prop} (h : p → PSs X sts t) : PSs X sts (fun D σ H => p ∧ t D σ H) := ⟨fun pins s σ H D I h' => (h h'.1).run pins s σ H D I h'.2⟩
theorem pss_imp {X : Cx} {sts : List Stmt} {t t' : TS} (h : PSs X sts t) (hi : ∀ D σ H, t' D σ H → t D σ H) : PSs X sts t' := ⟨fun pins s σ H D I h' => h.run pins s σ H D I (hi _ _ _ h')⟩
def tKind (a : Addr) : TS := fun D σ H => σ.length = 3 ∧ σ[1]? = some (some (.ref a)) ∧ ∃ (J : Unit → Hp → Hp → Prop) (F : Hp), Hid J ∧ J () F H ∧ ∀ (F' H' : Hp) (p : Addr), J () F' H' → Ex F F' → F' p = some (.tup [.str "count", .int 0]) → D.rt (.ref p) H'
theorem sw_runJ {J : Unit → Hp → Hp → Prop} {F : Hp} {t : TS} {σ : L2.St} {H : Hp} {D : Ends} (j : J () F H) (h : SW J t { nx := fun _ _ _ => False, rt := fun v _ F => ∀ H, J () F H → D.rt v H } σ () F) : t D σ H := h H j D ⟨fun _ _ _ _ _ z => z.elim, fun v _ F H j k => k H j, fun _ _ _ _ _ z => z.elim, fun _ _ _ _ _ z => z.elim⟩
/-- what _law_kind makes of a lambda -/
def kindT (cBad : Addr) : TTr := fun tl H Q _ => tl (fun cls d H' => cls = .ref cBad ∧ d = none ∧ ∃ (J : Unit → Hp → Hp → Prop) (F : Hp), Hid J ∧ J () F H' ∧ ∀ (F' H'' : Hp) (p : Addr), J () F' H'' → Ex F F' → F' p = some (.tup [.str "count", .int 0]) → Q (.ref p) H'') H (fun _ H' => ∀ p, H' p = none → Q (.ref p) (upd H' p (.tup [.str "", .int 0])))
section
variable {P : Program} {w : World} {K : PySem.W.Frag} {mg : Str → Option Value} {base : Heap} {cBadStep cBadPlan cNoMachine cBadDeed cBadText cBadStore cBadRule cBadCount cTooMany cBreathError : Addr}
abbrev s__law_kind : Stmt := top 38
def N__law_kind : List Str := ["_law_call", "e", "_law_kinds"]
theorem sc__law_kind : FnScope N__law_kind ["_law_call"] (defScope s__law_kind) := ⟨rfl, rfl, rfl, by decide +kernel, rfl, by decide +kernel, by decide +kernel⟩
theorem gok_kind {f : Addr} {fd : FuncData} {kl : Nat} (Fn : Fun K "_law_kind" "_law_kind" s__law_kind f fd) (B : Blt mg) (Ca : Cal K mg "_law_kind" f fd ["_law_call"]) (gBadStep : mg "BadStep" = some (.ref cBadStep)) (gBadPlan : mg "BadPlan" = some (.ref cBadPlan)) (gNoMachine : mg "NoMachine" = some (.ref cNoMachine)) (gBadDeed : mg "BadDeed" = some (.ref cBadDeed)) (gBadText : mg "BadText" = some (.ref cBadText)) (gBadStore : mg "BadStore" = some (.ref cBadStore)) (gBadRule : mg "BadRule" = some (.ref cBadRule)) (gBadCount : mg "BadCount" = some (.ref cBadCount)) (gTooMany : mg "TooMany" = some (.ref cTooMany)) (gBreathError : mg "BreathError" = some (.ref cBreathError)) (kBadStep : PySem.W.kitOne K (.ref cBadCount) (.ref cBadStep) = some false) (kBadPlan : PySem.W.kitOne K (.ref cBadCount) (.ref cBadPlan) = some false) (kNoMachine : PySem.W.kitOne K (.ref cBadCount) (.ref cNoMachine) = some false) (kBadDeed : PySem.W.kitOne K (.ref cBadCount) (.ref cBadDeed) = some false) (kBadText : PySem.W.kitOne K (.ref cBadCount) (.ref cBadText) = some false) (kBadStore : PySem.W.kitOne K (.ref cBadCount) (.ref cBadStore) = some false) (kBadRule : PySem.W.kitOne K (.ref cBadCount) (.ref cBadRule) = some false) (kBadCount : PySem.W.kitOne K (.ref cBadCount) (.ref cBadCount) = some true) (kTooMany : PySem.W.kitOne K (.ref cBadCount) (.ref cTooMany) = some false) (kValueError : PySem.W.kitOne K (.ref cBadCount) (.type "ValueError") = some true)
    (xm : PySem.W.exmOne K (.ref cBadCount) (.ref cBreathError) = some true) (XC : ExcC K cBadCount) : GOk P w K mg base C8.CX0 (L2.CX P w) (kl + 1) kl f (kindT cBadCount) := by
  refine ⟨fun A outer s H a F ds fr ws sp Q E hr e0 ha C O hT => ?_⟩
  have S := sc__law_kind
  have nd := S.nd
  have hb := Ca.a
  obtain ⟨oc, od, kV, doc, pm, an, cdv, ct, osl, rfl, lk, hcd⟩ := Fn.ex
  have KX : K.In s.heap := e0.mod.kin.keeps fun b o e => (e0.bs b o e).1
  refine run_ofS (N := N__law_kind) (ps := ["_law_call"]) (us := [.ref a]) (vs := [.ref a]) lk hcd S hr e0 (hb s [.ref a] KX rfl) (.cons rfl .nil) rfl fun hr' => ?_
  obtain ⟨_, hsp⟩ := hT
  suffices hh : ∃ t, PSs (cxOf C8.CX0 P w K mg base N__law_kind "_law_kind" (defScope s__law_kind) f cdv A outer s H E).nox (defBody s__law_kind) t ∧ t { nx := fun _ H' => Q .non H', rt := Q } (L2.start N__law_kind [.ref a]) H by
    obtain ⟨t, h1, h2⟩ := hh
    exact ⟨t, h1.nox, h2⟩
  refine ⟨_, (pss_cons (ps_try_as (c := .ref cBreathError) (i := 1) (Wout := fun _ _ _ _ => False) (ts := fun a cls d D σ H => (cls = .ref cBadCount ∧ d = none) ∧ tKind a D σ H) rfl rfl nd rfl rfl ⟨by rfl, by decide, .inl gBreathError⟩ L2.takes0
    (fun W pn xe tk _ => pss_one (ps_expr (pe_calll (i := 0) (k := kl) (j := kl) (E := WE W) O C rfl hr' (Nat.le_refl _) (fun σ => passAt tk σ) rfl (.inl (by rfl)))))
    (fun a oe cls d pn hz hf => pss_given fun e => ?_))
    (pss_one (ps_ret (pe_tup (pa_cons pe_str (pa_cons pe_int pa_nil)))))), ?_⟩
  · have IS : CallR ((cxOf C8.CX0 P w K mg base N__law_kind "_law_kind" (defScope s__law_kind) f cdv A outer s H E).nox.suite a ((a, oe) :: pn)) (.builtin "isinstance") (rIsE K cBadCount a) := call_isE XC (zc_of e hz) hf
    refine pss_imp (pss_cons (ps_set (i := 2) nd rfl (Or.inl rfl) (pe_lst (pa_cons (pe_callB IS (by rfl) B.isinstance (by decide +kernel) (pa_cons (pv 1) (pa_cons (pe_glob (v := .ref cBadStep) (by rfl) gBadStep (by rfl)) pa_nil))) (pa_cons (pe_callB IS (by rfl) B.isinstance (by decide +kernel) (pa_cons (pv 1) (pa_cons (pe_glob (v := .ref cBadPlan) (by rfl) gBadPlan (by rfl)) pa_nil))) (pa_cons (pe_callB IS (by rfl) B.isinstance (by decide +kernel) (pa_cons (pv 1) (pa_cons (pe_glob (v := .ref cNoMachine) (by rfl) gNoMachine (by rfl)) pa_nil))) (pa_cons (pe_callB IS (by rfl) B.isinstance (by decide +kernel) (pa_cons (pv 1) (pa_cons (pe_glob (v := .ref cBadDeed) (by rfl) gBadDeed (by rfl)) pa_nil))) pa_nil))))))
      (pss_cons (ps_expr (pe_bm PySem.F.plainAttrs_list PySem.F.slot_list_extend PySem.F.type_list_extend mt_extend (pv 2) (pa_cons (pe_lst (pa_cons (pe_callB IS (by rfl) B.isinstance (by decide +kernel) (pa_cons (pv 1) (pa_cons (pe_glob (v := .ref cBadText) (by rfl) gBadText (by rfl)) pa_nil))) (pa_cons (pe_callB IS (by rfl) B.isinstance (by decide +kernel) (pa_cons (pv 1) (pa_cons (pe_glob (v := .ref cBadStore) (by rfl) gBadStore (by rfl)) pa_nil))) (pa_cons (pe_callB IS (by rfl) B.isinstance (by decide +kernel) (pa_cons (pv 1) (pa_cons (pe_glob (v := .ref cBadRule) (by rfl) gBadRule (by rfl)) pa_nil))) (pa_cons (pe_callB IS (by rfl) B.isinstance (by decide +kernel) (pa_cons (pv 1) (pa_cons (pe_glob (v := .ref cBadCount) (by rfl) gBadCount (by rfl)) pa_nil))) pa_nil))))) pa_nil)))
      (pss_cons (ps_expr (pe_bm PySem.F.plainAttrs_list PySem.F.slot_list_append PySem.F.type_list_append mt_append (pv 2) (pa_cons (pe_callB IS (by rfl) B.isinstance (by decide +kernel) (pa_cons (pv 1) (pa_cons (pe_glob (v := .ref cTooMany) (by rfl) gTooMany (by rfl)) pa_nil))) pa_nil)))
      (pss_cons (ps_if (PW.pt (pw_or (pt_cmpR op_ne (pe_bm PySem.F.plainAttrs_list PySem.F.slot_list_count PySem.F.type_list_count mt_countV (pv 2) (pa_cons pe_bl pa_nil)) pe_int (nomark _)) (pw_or1 (pt_not (pt_val (pe_callB IS (by rfl) B.isinstance (by decide +kernel) (pa_cons (pv 1) (pa_cons (pe_bltn (v := .ty "ValueError") (by rfl) B.verr (by decide +kernel) rfl) pa_nil)))))))) (pss_one (ps_never)) pss_nil)
      (pss_cons (ps_if (pt_val (pe_ix ix_list (pv 2) pe_int (fun _ _ => rfl))) (pss_one (ps_never)) pss_nil)
      (pss_cons (ps_if (PW.pt (pw_or (pt_val (pe_ix ix_list (pv 2) pe_int (fun _ _ => rfl))) (pw_or1 (pt_val (pe_ix ix_list (pv 2) pe_int (fun _ _ => rfl)))))) (pss_one (ps_never)) pss_nil)
      (pss_cons (ps_if (PW.pt (pw_or (pt_val (pe_ix ix_list (pv 2) pe_int (fun _ _ => rfl))) (pw_or1 (pt_val (pe_ix ix_list (pv 2) pe_int (fun _ _ => rfl)))))) (pss_one (ps_never)) pss_nil)
      (pss_one (ps_ret (pe_tup (pa_cons (pe_ix ix_list (pe_lst (pa_cons pe_str (pa_cons pe_str (pa_cons pe_str (pa_cons pe_str pa_nil))))) (pe_bm PySem.F.plainAttrs_list PySem.F.slot_list_index PySem.F.type_list_index mt_index (pe_slice sl_list (pv 2) (po_some pe_int) po_none) (pa_cons pe_bl pa_nil)) (fun _ _ => rfl)) (pa_cons pe_int pa_nil)))))))))))) ?_
    rintro D' σ HH ⟨hlen, hs1, J, H', hd, jj, kk⟩
    obtain ⟨x0, x1, x2, rfl⟩ : ∃ x0 x1 x2, σ = [x0, x1, x2] := by
      match σ, hlen with
      | [a, b, c], _ => exact ⟨_, _, _, rfl⟩
    cases hs1
    refine sw_runJ jj ?_
    refine sw_seq (sw_asg (ew_lst hd ?_))
    walk_at "ob"
    refine cw_isE (cv := .ref _) (fun u r => r) (by assumption) ?_
    walk_at "ob"
    refine cw_isE (cv := .ref _) (fun u r => r) (by assumption) ?_
    walk_at "ob"
    refine cw_isE (cv := .ref _) (fun u r => r) (by assumption) ?_
    walk_at "ob"
    refine cw_isE (cv := .ref _) (fun u r => r) (by assumption) ?_
    walk_at "ob"
    refine ⟨by walk_at "ob_len", fun p1 hp1 => ?_⟩
    refine gw_name ?_
    refine sw_seq (sw_drop (ew_bmL hd ?_))
    walk_at "ob"
    refine ⟨p1, _, rfl, SqL.of upd_same, aw_cons (ew_lst hd ?_)⟩
    walk_at "ob"
    refine cw_isE (cv := .ref _) (fun u r => r) (by assumption) ?_
    walk_at "ob"
    refine cw_isE (cv := .ref _) (fun u r => r) (by assumption) ?_
    walk_at "ob"
    refine cw_isE (cv := .ref _) (fun u r => r) (by assumption) ?_
    walk_at "ob"
    refine cw_isE (cv := .ref _) (fun u r => r) (by assumption) ?_
    walk_at "ob"
    refine ⟨by walk_at "ob_len", fun p2 hp2 => ?_⟩
    have hO0 := (own_nil (F := H')).more (o := .lst [V.bl false, V.bl false, V.bl false, V.bl false]) hp1
    have hO1 := hO0.new' (o := .lst [V.bl false, V.bl false, V.bl false, V.bl true]) hp2
    refine aw_nil (mw_extend hd (hO1.get (i := 0) rfl) upd_same (by simp) ?_)
    have hO2 := hO1.set (i := 0) (a := p1) (o' := .lst ([V.bl false, V.bl false, V.bl false, V.bl false] ++ [V.bl false, V.bl false, V.bl false, V.bl true])) rfl
    refine sw_seq (sw_drop (ew_bmL hd ?_))
    walk_at "ob"
    refine ⟨p1, _, rfl, SqL.of (hO2.get (i := 0) rfl), aw_cons (ew_cb ?_)⟩
    walk_at "ob"
    refine cw_isE (cv := .ref _) (fun u r => r) (by assumption) ?_
    refine aw_nil (mw_append hd (hO2.get (i := 0) rfl) (by simp) ?_)
    have hO3 := hO2.set (i := 0) (a := p1) (o' := .lst ([V.bl false, V.bl false, V.bl false, V.bl false] ++ [V.bl false, V.bl false, V.bl false, V.bl true] ++ [V.bl false])) rfl
    have sq3 : SqL K _ p1 [V.bl false, V.bl false, V.bl false, V.bl false, V.bl false, V.bl false, V.bl false, V.bl true, V.bl false] := SqL.of (K := K) (hO3.get (i := 0) rfl)
    have aw3 := hO3.ex
    generalize (upd _ p1 (.lst ([V.bl false, V.bl false, V.bl false, V.bl false] ++ [V.bl false, V.bl false, V.bl false, V.bl true] ++ [V.bl false]))) = F3 at hO3 sq3 aw3 ⊢
    refine sw_seq (sw_if (tw_or (tw_test (ew_op (ew_bmL hd ?_)))))
    walk_at "ob"
    refine ⟨p1, _, rfl, sq3, ?_⟩
    walk_at "ob"
    refine mw_countV hd sq3 rfl rfl ?_
    walk_at "ob"
    refine ⟨fun hb => absurd hb (by decide), fun _ => ?_⟩
    refine tw_not (tw_B (ew_cb ?_))
    walk_at "ob"
    refine cw_isE (cv := .type "ValueError") (fun u r => r) kValueError ?_
    refine ⟨true, rfl, (fun z => by cases z), fun _ => sw_next ?_⟩
    refine sw_seq (sw_if (tw_B (ew_op ?_)))
    walk_at "ob"
    refine ⟨(fun z => by cases z), fun _ => sw_next ?_⟩
    refine sw_seq (sw_if (tw_or (tw_B (ew_op ?_))))
    walk_at "ob"
    refine ⟨(fun z => by cases z), fun _ => ?_⟩
    refine tw_B (ew_op ?_)
    walk_at "ob"
    refine ⟨(fun z => by cases z), fun _ => sw_next ?_⟩
    refine sw_seq (sw_if (tw_or (tw_B (ew_op ?_))))
    walk_at "ob"
    refine ⟨(fun z => by cases z), fun _ => ?_⟩
    refine tw_B (ew_op ?_)
    walk_at "ob"
    refine ⟨(fun z => by cases z), fun _ => sw_next ?_⟩
    refine sw_ret (ew_tup hd (aw_cons (ew_op (ew_lst hd ?_))))
    walk_at "ob"
    refine ⟨by walk_at "ob_len", fun p3 hp3 => ?_⟩
    refine ew_bmL hd (ew_slL hd ?_)
    walk_at "ob"
    have g3 := Ex.new (.refl F3) hp3 (u := .lst [V.str "store", V.str "rule", V.str "count", V.str "many"])
    refine ⟨p1, _, rfl, g3.sqL sq3, fun p4 hp4 => ?_⟩
    refine ⟨p4, _, rfl, SqL.of upd_same, ?_⟩
    walk_at "ob"
    refine mw_indexV hd (i := 2) (z := .bl true) (SqL.of upd_same) rfl rfl rfl rfl (fun m z' hm hz => ?_) ?_
    · match m, hm with
      | 0, _ => cases hz; rfl
      | 1, _ => cases hz; rfl
    refine rw_ixL hd (v := .str "count") (SqL.of ((Ex.new (.refl _) hp4) _ _ upd_same)) (by rfl) ?_
    walk_at "ob"
    exact ⟨by walk_at "ob_len", fun p5 hp5 => fun H j => kk _ _ p5 j (aw3.trans (g3.trans (Ex.new (Ex.new (.refl _) hp4) hp5))) upd_same⟩
  refine ⟨rfl, ha, O.mono_ _ _ _ _ _ _ hsp ?_ ?_⟩
  · exact fun v H' k => ⟨by decide, fun p hp => k p hp⟩
  · rintro cls d H' ⟨rfl, rfl, k⟩
    exact ⟨true, xm, fun _ a ha => ⟨⟨rfl, rfl⟩, rfl, rfl, k⟩, fun z => by cases z⟩
end
end Obr
namespace Obr
open PySem PySem.Spec L2 LamX NdefX PyProof.Rows
local macro_rules | `(tactic| walk_at "ob_at") => `(tactic| first
  | assumption
  | exact upd_same
  | (refine Eq.trans (upd_ne ?obn) ?obr; (case obn => walk_at "ob_ne"); (case obr => walk_at "ob_at")))
local macro_rules | `(tactic| walk_at "ob_ne") => `(tactic| first
  | assumption
  | (refine Ne.symm ?obs; (case obs => assumption))
  | (refine' ne_of_none (H := ?_) ?obe ?obh; (case obh => assumption); (case obe => walk_at "ob_at"))
  | (refine Ne.symm ?obs; (case obs => (refine' ne_of_none (H := ?_) ?obe ?obh; (case obh => assumption); (case obe => walk_at "ob_at")))))
local macro_rules | `(tactic| walk_at "ob_fr") => `(tactic| first
  | assumption
  | (refine Eq.trans (upd_ne ?obn) ?obr; (case obn => walk_at "ob_ne"); (case obr => walk_at "ob_fr"))
  | (refine Ex.free (G := ?_) (by assumption) ?obh; (case obh => walk_at "ob_fr")))
local macro_rules | `(tactic| walk_at "ob_ex") => `(tactic| first
  | assumption
  | exact Ex.refl _
  | (refine Ex.out ?obg ?obh; (case obh => assumption); (case obg => walk_at "ob_ex"))
  | (refine Ex.new ?obg ?obh; (case obh => assumption); (case obg => walk_at "ob_ex"))
  | (refine Ex.new ?obg ?obh; (case obh => walk_at "ob_fr"); (case obg => walk_at "ob_ex")))
local macro_rules | `(tactic| walk_at "ob_sq") => `(tactic| first
  | assumption
  | (refine SqL.of ?oba; (case oba => walk_at "ob_at"))
  | (refine Ex.sqT (F := ?_) ?obg ?obh; (case obh => assumption); (case obg => walk_at "ob_ex"))
  | (refine Ex.sqL (F := ?_) ?obg ?obh; (case obh => assumption); (case obg => walk_at "ob_ex"))
  | (refine SqT.of ?oba; (case oba => walk_at "ob_at")))
local macro_rules | `(tactic| walk_at "ob_side") => `(tactic| first | exact rfl | assumption | decide | omega | exact ⟨by decide, by decide, by decide⟩ | exact Or.inr ⟨by decide, by decide⟩ | exact Or.inl ⟨by decide, by decide⟩ | exact wide_div (b := 60) (by first | decide | omega) (by first | decide | omega) (by decide) (by decide))
local macro_rules | `(tactic| walk_at "ob1") => `(tactic| first
  | with_reducible refine sw_seq ?_
  | with_reducible refine sw_asg ?_
  | with_reducible refine sw_ret ?_
  | with_reducible refine sw_par ?_
  | with_reducible refine ⟨_, _, rfl, ?_⟩
  | with_reducible refine sw_drop ?_
  | with_reducible refine sw_if ?_
  | with_reducible refine sw_next ?_
  | with_reducible refine gw_name ?_
  | with_reducible refine gw_subL (by assumption) ?_
  | with_reducible refine gsw_cons ?_
  | with_reducible refine gsw_nil ?_
  | with_reducible refine ew_c ?_
  | ((with_reducible refine' ew_var (v := ?_) ?obv ?_); (case obv => exact rfl))
  | ((with_reducible refine ew_next (by assumption) ?obv ?_); (case obv => exact rfl))
  | ((with_reducible refine ew_world (by assumption) ?obv ?_); (case obv => exact rfl))
  | ((with_reducible refine ew_rule (by assumption) ?obv ?_); (case obv => exact rfl))
  | with_reducible refine ew_op ?_
  | with_reducible refine ew_un ?_
  | with_reducible refine ew_dget (by assumption) ?_
  | with_reducible refine uw_I ?_
  | with_reducible refine ppw_nil ?_
  | with_reducible refine ppw_cons ?_
  | with_reducible refine sw_dput (by assumption) ?_
  | with_reducible refine ew_cb ?_
  | with_reducible refine ew_if ?_
  | with_reducible refine ew_slL (by assumption) ?_
  | with_reducible refine ow_some ?_
  | with_reducible refine ow_none ?_
  | with_reducible refine aw_nil ?_
  | with_reducible refine aw_cons ?_
  | with_reducible refine rw_I0 ?_
  | ((with_reducible refine rw_I ?obc ?_); (case obc => walk_at "ob_side"))
  | with_reducible refine rw_isN ?_
  | with_reducible refine rw_notN ?_
  | ((with_reducible refine rw_eq ?obc ?_); (case obc => exact rfl))
  | ((with_reducible refine rw_ne ?obc ?_); (case obc => exact rfl))
  | with_reducible refine cw_max2 ?_
  | with_reducible refine cw_min2 ?_
  | with_reducible refine tw_test ?_
  | with_reducible refine tw_B ?_
  | with_reducible refine tw_not ?_
  | with_reducible refine tw_truB ?_
  | with_reducible refine tw_and ?_
  | with_reducible refine tw_or ?_
  | with_reducible refine ew_and ?_
  | (refine' Exists.intro _ (And.intro (show V.bl _ = V.bl _ from rfl) ?_))
  | (refine' Exists.intro _ (And.intro (show V.int _ = V.int _ from rfl) ?_))
  | ((with_reducible refine' rw_ixL (v := ?_) (xs := ?_) (by assumption) ?obl ?oba ?_); (case obl => walk_at "ob_sq"); (case oba => first | exact rfl | exact at_zero))
  | ((with_reducible refine' rw_ixT (v := ?_) (xs := ?_) (by assumption) ?obl ?oba ?_); (case obl => walk_at "ob_sq"); (case oba => first | exact rfl | exact at_zero))
  | ((with_reducible refine' ew_lst (by assumption) ?_))
  | ((with_reducible refine' ew_tup (by assumption) ?_)))
local macro_rules | `(tactic| walk_at "ob_len") => `(tactic| first | exact Nat.le_of_ble_eq_true rfl | (simp; done) | omega)
local macro_rules | `(tactic| walk_at "ob") => `(tactic| repeat walk_at "ob1")

/-! ### lambdas that raise -/
def badSp (cBad : Addr) (BW : Hp → List (Option V) → Prop) : LSp := fun ws H _ E => ∃ (J : Unit → Hp → Hp → Prop) (F : Hp), Hid J ∧ J () F H ∧ BW F ws ∧ ∀ F' H', J () F' H' → Ex F F' → E (.ref cBad) none H'
theorem badSp_mono {cBad : Addr} {BW : Hp → List (Option V) → Prop} (ws : List (Option V)) (H : Hp) (Q Q' : VK) (E E' : XK) (h : badSp cBad BW ws H Q E) (_ : ∀ v H', Q v H' → Q' v H') (hE : ∀ cls d H', E cls d H' → E' cls d H') : badSp cBad BW ws H Q' E' := by
  obtain ⟨J, F, hd, j, b, k⟩ := h
  exact ⟨J, F, hd, j, b, fun F' H' j' g => hE _ _ _ (k F' H' j' g)⟩
def cntD : PyData := .tuple [.str "count", .int 0]
section
variable {S : Type} {J : S → Hp → Hp → Prop} {σ : L2.St} {s : S} {F : Hp} {R : V → S → Hp → Prop} {X : Cx} {tl : TE} {kl : Nat} {cBad : Addr}
theorem ew_kcomp (hd : Hid J) (h : EW J tl σ s F fun v s1 F1 => ∃ l xs, v = .ref l ∧ SqL X.K F1 l xs ∧ xs.length ≤ 1000 ∧ (∀ y ∈ xs, ∃ f, y = V.ref f) ∧
      (∀ (i : Nat) y F2, xs[i]? = some y → Ex F1 F2 → ∃ (f : Addr) (L : LF) (ds : List V) (fr : List Str) (js : List Nat) (BW : Hp → List (Option V) → Prop), y = .ref f ∧ LamAt F2 f L ds ∧ (X.Ok → Caps X L.cl fr js) ∧ LamOk X.prog X.w X.K X.mg X.base (L2.CX X.prog X.w) kl f L ds fr (badSp cBad BW) ∧ BW F2 (js.map (slotAt σ))) ∧
      (∀ F2 rs, Ex F1 F2 → rs.length = xs.length → (∀ r ∈ rs, Dp X.K F2 r cntD) → ∀ D, F2 D = none → R (.ref D) s1 (upd F2 D (.lst rs)))) : EW J (tKC X (L2.CX X.prog X.w) kl (kindT cBad) tl) σ s F R := fun H j Q q =>
  h H j _ fun v s1 F1 H1 j1 ⟨l, xs, e, la, hx, hrf, hk, hdn⟩ => ⟨l, xs, e, hd.sqL j1 la, hx, hrf, fun i acc H => ∃ F2, J s1 F2 H ∧ Ex F1 F2 ∧ acc.length = i ∧ ∀ r ∈ acc, Dp X.K F2 r cntD, ⟨F1, j1, .refl _, rfl, fun r hr => by cases hr⟩, fun i acc H ⟨F2, j2, g2, _, _⟩ => hd.sqL j2 (g2.sqL la),
    fun i acc y H hy ⟨F2, j2, g2, al, hr⟩ => by
      obtain ⟨f, L, ds, fr, js, BW, rfl, lat, cap, lok, bw⟩ := hk i y F2 hy g2
      have latH : LamAt H f L ds := ⟨hd.ex j2 _ _ lat.fn, hd.ex j2 _ _ lat.code, fun t e => hd.ex j2 _ _ (lat.dflt t e)⟩
      refine ⟨f, L, ds, fr, js, _, rfl, latH, cap, lok, latH, fun _ F H => J s1 F H, F2, hd.unit s1, j2, bw, fun F' H' j' g' => ⟨rfl, rfl, fun _ F H => J s1 F H, F', hd.unit s1, j', fun F'' H'' p j'' g'' e => ⟨F'', j'', g2.trans (g'.trans g''), by rw [List.length_append, al]; rfl, fun r hm => ?_⟩⟩⟩
      rcases List.mem_append.mp hm with z | z
      · exact dp_ex (g'.trans g'') (hr r z)
      · rw [List.mem_singleton.mp z]
        exact .tup (SqT.of e) (.cons (.str _) (.cons (.int _) .nil)),
    fun acc H ⟨F2, j2, g2, al, hr⟩ D hD => q _ _ _ _ (hd.al j2 hD) (hdn F2 acc g2 al hr D (hd.fresh j2 hD))⟩
end
def nthS : List Stmt → Nat → Stmt
  | [], _ => .Pass ⟨0, 0, 0, 0⟩
  | a :: _, 0 => a
  | _ :: l, n + 1 => nthS l n
def nthE : List Expr → Nat → Expr
  | [], _ => .Constant .none 0 ⟨0, 0, 0, 0⟩
  | a :: _, 0 => a
  | _ :: l, n + 1 => nthE l n
def forBody : Stmt → List Stmt
  | .For _ _ b _ _ => b
  | _ => []
def asgVal : Stmt → Expr
  | .Assign _ v _ => v
  | _ => .Constant .none 0 ⟨0, 0, 0, 0⟩
def lstElts : Expr → List Expr
  | .List es _ => es
  | _ => []
def lamPar : Expr → Arguments
  | .Lambda p _ _ _ => p
  | _ => default
def lamBody : Expr → Expr
  | .Lambda _ b _ _ => b
  | e => e
def lamScope : Expr → Scope
  | .Lambda _ _ s _ => s
  | _ => default
abbrev s_law : Stmt := top 40
def lam1 : Expr := nthE (lstElts (asgVal (nthS (forBody (nthS (defBody s_law) 1)) 7))) 0
def lam2 : Expr := nthE (lstElts (asgVal (nthS (forBody (nthS (defBody s_law) 1)) 7))) 1
theorem log_small {n : Int} (h : n.natAbs < 100000000000000000) : n.natAbs.log2 < 1000 := by
  by_cases h0 : n.natAbs = 0
  · rw [h0]; decide
  · exact Nat.lt_trans ((Nat.log2_lt (k := 64) h0).mpr (Nat.lt_of_lt_of_le h (by decide))) (by decide)
def bwWR (K : PySem.W.Frag) : Hp → List (Option V) → Prop := fun F ws => ∃ (wv rv : V) (w : Wld) (r : Rgt) (p : Bool) (far : Int), ws = [some wv, some rv, some (.int far)] ∧ Dp K F wv (wldD w) ∧ Dp K F rv (rulD r p) ∧ WldOk w ∧ 0 ≤ far ∧ far < 10000000
def bwWR1 (K : PySem.W.Frag) : Hp → List (Option V) → Prop := fun F ws => ∃ (wv mv : V) (w : Wld) (far : Int), ws = [some wv, some mv, some (.int far)] ∧ Dp K F wv (wldD w) ∧ Dp K F mv (.tuple (w.ms.map macD)) ∧ WldOk w ∧ 0 ≤ far ∧ far < 10000000
def bwWR2 (K : PySem.W.Frag) : Hp → List (Option V) → Prop := fun F ws => ∃ (wv : V) (w : Wld) (far : Int), ws = [some wv, some (.int far)] ∧ Dp K F wv (wldD w) ∧ WldOk w ∧ 0 ≤ far ∧ far < 10000000
section
variable {P : Program} {w : World} {K : PySem.W.Frag} {mg : Str → Option Value} {base : Heap} {cBadCount : Addr}

theorem lamok1 (B : Blt mg) {f1 : Addr} {fd1 : FuncData} (Cneed_of : Cal K mg "need_of" f1 fd1 ["world", "machine"]) (Gneed_of : FnOk P w K mg base (L2.CX P w) 4 f1 fd1 ["world", "machine"] (LX (aNeedOfBad K cBadCount))) {f c : Addr} {qn : Str} {cl : List (Str × Addr)}  :
    LamOk P w K mg base (L2.CX P w) 5 f ⟨qn, lamPar lam1, lamBody lam1, lamScope lam1, cl, c, none⟩ [] ["_law_world_here", "_law_machines", "_law_far"] (badSp cBadCount (bwWR1 K)) := by
  refine lok_of (N := ["_law_world_here", "_law_machines", "_law_far"]) (ps := []) (nscope_by (sc := lamScope lam1) (by decide +kernel)) rfl (bind0 (fun _ _ _ => rfl)) badSp_mono (fun A outer s H ws Q E hr ha hl hsp => ?_)
  obtain ⟨J, F, hd, j, ⟨wv, mv, w', far, rfl, dw, dm, hw, h0, h1⟩, q⟩ := hsp
  have hm5 := hw.m
  refine ⟨_, (pe_call Gneed_of (by exact hr.mono (by decide)) (by rfl) Cneed_of.g Cneed_of.k Cneed_of.a .nil (passes_call (takes_of rfl rfl rfl rfl) (fun _ _ _ _ h => h)) (pa_cons (pv 0) (pa_cons (pe_op op_add (pe_callB call_len_seq (by rfl) B.len (by decide +kernel) (pa_cons (pv 1) pa_nil)) (pv 2)) pa_nil))), ?_⟩
  refine (show EW J _ _ () F (fun _ _ _ => False) from ?_) H j _ (fun _ _ _ _ _ z => z.elim)
  obtain ⟨ma, zs, rfl, lz, dzs⟩ := dp_tup dm
  have hzl : zs.length = w'.ms.length := by have := dps_len dzs; simpa using this
  refine ew_callX hd (aw_cons (ew_var rfl (aw_cons (ew_op (ew_cb (aw_cons (ew_var rfl (aw_nil (cw_lenS hd (Or.inr lz) (ew_var rfl (rw_I0 (aw_nil ?_))))))))))))
  refine ⟨fun cls d F' => cls = .ref cBadCount ∧ d = none ∧ Ex F F', ⟨wv, w', _, rfl, dw, hw, (by rw [hzl]; omega), log_small (by rw [hzl]; omega), fun F' g => ⟨rfl, rfl, g⟩⟩, ?_⟩
  rintro cls d F' H' j' ⟨rfl, rfl, g⟩
  exact q F' H' j' g

theorem lamok2 (B : Blt mg) {f1 : Addr} {fd1 : FuncData} (Cneed_of : Cal K mg "need_of" f1 fd1 ["world", "machine"]) (Gneed_of : FnOk P w K mg base (L2.CX P w) 4 f1 fd1 ["world", "machine"] (LX (aNeedOfBad K cBadCount))) {f c : Addr} {qn : Str} {cl : List (Str × Addr)} {t : Addr} :
    LamOk P w K mg base (L2.CX P w) 5 f ⟨qn, lamPar lam2, lamBody lam2, lamScope lam2, cl, c, some t⟩ [.int 0] ["_law_world_here", "_law_far"] (badSp cBadCount (bwWR2 K)) := by
  refine lok_of (N := ["_law_a", "_law_world_here", "_law_far"]) (ps := ["_law_a"]) (nscope_by (sc := lamScope lam2) (by decide +kernel)) rfl (bind1 (t := t) rfl (fun _ _ _ u => ⟨_, rfl, rfl⟩)) badSp_mono (fun A outer s H ws Q E hr ha hl hsp => ?_)
  obtain ⟨J, F, hd, j, ⟨wv, w', far, rfl, dw, hw, h0, h1⟩, q⟩ := hsp
  have hm5 := hw.m
  refine ⟨_, (pe_call Gneed_of (by exact hr.mono (by decide)) (by rfl) Cneed_of.g Cneed_of.k Cneed_of.a .nil (passes_call (takes_of rfl rfl rfl rfl) (fun _ _ _ _ h => h)) (pa_cons (pv 1) (pa_cons (pe_op op_sub (pe_un un_neg pe_int) (pv 2)) pa_nil))), ?_⟩
  refine (show EW J _ _ () F (fun _ _ _ => False) from ?_) H j _ (fun _ _ _ _ _ z => z.elim)
  refine ew_callX hd ?_
  walk_at "ob"
  refine ⟨fun cls d F' => cls = .ref cBadCount ∧ d = none ∧ Ex F F', ⟨wv, w', _, rfl, dw, hw, (by omega), log_small (by omega), fun F' g => ⟨rfl, rfl, g⟩⟩, ?_⟩
  rintro cls d F' H' j' ⟨rfl, rfl, g⟩
  exact q F' H' j' g
end
end Obr
namespace Obr
open PySem L2 PyProof.Rows
local macro_rules | `(tactic| walk_at "ob_at") => `(tactic| first
  | assumption
  | exact upd_same
  | (refine Eq.trans (upd_ne ?obn) ?obr; (case obn => walk_at "ob_ne"); (case obr => walk_at "ob_at")))
local macro_rules | `(tactic| walk_at "ob_ne") => `(tactic| first
  | assumption
  | (refine Ne.symm ?obs; (case obs => assumption))
  | (refine' ne_of_none (H := ?_) ?obe ?obh; (case obh => assumption); (case obe => walk_at "ob_at"))
  | (refine Ne.symm ?obs; (case obs => (refine' ne_of_none (H := ?_) ?obe ?obh; (case obh => assumption); (case obe => walk_at "ob_at")))))
local macro_rules | `(tactic| walk_at "ob_fr") => `(tactic| first
  | assumption
  | (refine Eq.trans (upd_ne ?obn) ?obr; (case obn => walk_at "ob_ne"); (case obr => walk_at "ob_fr"))
  | (refine Ex.free (G := ?_) (by assumption) ?obh; (case obh => walk_at "ob_fr")))
local macro_rules | `(tactic| walk_at "ob_ex") => `(tactic| first
  | assumption
  | exact Ex.refl _
  | (refine Ex.out ?obg ?obh; (case obh => assumption); (case obg => walk_at "ob_ex"))
  | (refine Ex.new ?obg ?obh; (case obh => assumption); (case obg => walk_at "ob_ex"))
  | (refine Ex.new ?obg ?obh; (case obh => walk_at "ob_fr"); (case obg => walk_at "ob_ex")))
local macro_rules | `(tactic| walk_at "ob_sq") => `(tactic| first
  | assumption
  | (refine SqL.of ?oba; (case oba => walk_at "ob_at"))
  | (refine Ex.sqT (F := ?_) ?obg ?obh; (case obh => assumption); (case obg => walk_at "ob_ex"))
  | (refine Ex.sqL (F := ?_) ?obg ?obh; (case obh => assumption); (case obg => walk_at "ob_ex"))
  | (refine SqT.of ?oba; (case oba => walk_at "ob_at")))
local macro_rules | `(tactic| walk_at "ob_side") => `(tactic| first | exact rfl | assumption | decide | omega | exact ⟨by decide, by decide, by decide⟩ | exact Or.inr ⟨by decide, by decide⟩ | exact Or.inl ⟨by decide, by decide⟩ | exact wide_div (b := 60) (by first | decide | omega) (by first | decide | omega) (by decide) (by decide))
local macro_rules | `(tactic| walk_at "ob1") => `(tactic| first
  | with_reducible refine sw_seq ?_
  | with_reducible refine sw_asg ?_
  | with_reducible refine sw_ret ?_
  | with_reducible refine sw_par ?_
  | with_reducible refine ⟨_, _, rfl, ?_⟩
  | with_reducible refine sw_drop ?_
  | with_reducible refine sw_if ?_
  | with_reducible refine sw_next ?_
  | with_reducible refine gw_name ?_
  | with_reducible refine gw_subL (by assumption) ?_
  | with_reducible refine gsw_cons ?_
  | with_reducible refine gsw_nil ?_
  | with_reducible refine ew_c ?_
  | ((with_reducible refine' ew_var (v := ?_) ?obv ?_); (case obv => exact rfl))
  | ((with_reducible refine ew_next (by assumption) ?obv ?_); (case obv => exact rfl))
  | ((with_reducible refine ew_world (by assumption) ?obv ?_); (case obv => exact rfl))
  | ((with_reducible refine ew_rule (by assumption) ?obv ?_); (case obv => exact rfl))
  | with_reducible refine ew_op ?_
  | with_reducible refine ew_un ?_
  | with_reducible refine ew_dget (by assumption) ?_
  | with_reducible refine uw_I ?_
  | with_reducible refine ppw_nil ?_
  | with_reducible refine ppw_cons ?_
  | with_reducible refine sw_dput (by assumption) ?_
  | with_reducible refine ew_cb ?_
  | with_reducible refine ew_if ?_
  | with_reducible refine ew_slL (by assumption) ?_
  | with_reducible refine ow_some ?_
  | with_reducible refine ow_none ?_
  | with_reducible refine aw_nil ?_
  | with_reducible refine aw_cons ?_
  | with_reducible refine rw_I0 ?_
  | ((with_reducible refine rw_I ?obc ?_); (case obc => walk_at "ob_side"))
  | with_reducible refine rw_isN ?_
  | with_reducible refine rw_notN ?_
  | ((with_reducible refine rw_eq ?obc ?_); (case obc => exact rfl))
  | ((with_reducible refine rw_ne ?obc ?_); (case obc => exact rfl))
  | with_reducible refine cw_max2 ?_
  | with_reducible refine cw_min2 ?_
  | with_reducible refine tw_test ?_
  | with_reducible refine tw_B ?_
  | with_reducible refine tw_not ?_
  | with_reducible refine tw_truB ?_
  | with_reducible refine tw_and ?_
  | with_reducible refine tw_or ?_
  | with_reducible refine ew_and ?_
  | (refine' Exists.intro _ (And.intro (show V.bl _ = V.bl _ from rfl) ?_))
  | (refine' Exists.intro _ (And.intro (show V.int _ = V.int _ from rfl) ?_))
  | ((with_reducible refine' rw_ixL (v := ?_) (xs := ?_) (by assumption) ?obl ?oba ?_); (case obl => walk_at "ob_sq"); (case oba => first | exact rfl | exact at_zero))
  | ((with_reducible refine' rw_ixT (v := ?_) (xs := ?_) (by assumption) ?obl ?oba ?_); (case obl => walk_at "ob_sq"); (case oba => first | exact rfl | exact at_zero))
  | ((with_reducible refine' ew_lst (by assumption) ?_))
  | ((with_reducible refine' ew_tup (by assumption) ?_)))
local macro_rules | `(tactic| walk_at "ob_len") => `(tactic| first | exact Nat.le_of_ble_eq_true rfl | (simp; done) | omega)
local macro_rules | `(tactic| walk_at "ob") => `(tactic| repeat walk_at "ob1")
/-! ### _law_alike of the same data -/
def tyD : PyData → String
  | .none => "NoneType"
  | .bool _ => "bool"
  | .int _ => "int"
  | .str _ => "str"
  | .list _ => "list"
  | .tuple _ => "tuple"
  | .dict _ => "dict"
theorem dp_ty {K : PySem.W.Frag} {H : Hp} {v : V} {d : PyData} (h : Dp K H v d) : TyX K H v (.type (tyD d)) := by
  cases h with
  | non => exact .base .non
  | bl b => exact .base (.bl b)
  | int i => exact .base (.int i)
  | str x => exact .base (.str x)
  | lst hs ha =>
    rcases hs with (h | ⟨o, h⟩) | ⟨o, its, n, h1, h2, _⟩
    · exact .base (.lst h)
    · exact .base (.frz h)
    · exact .kList h1 h2
  | tup hs ha =>
    rcases hs with (h | ⟨o, h⟩) | ⟨o, its, n, h1, h2, _⟩
    · exact .base (.tup h)
    · exact .fTuple h
    · exact .kTuple h1 h2
section
variable {S : Type} {J : S → Hp → Hp → Prop} {K : PySem.W.Frag} {s : S} {F : Hp} {R : V → S → Hp → Prop}
theorem cw_isi (hd : Hid J) {v : V} {d : PyData} {n : String} {b : Bool} (h : Dp K F v d) (e : kitB (tyD d) n = some b) (k : R (.bl b) s F) : CW J (rIsi K) [v, .ty n] s F R := fun H j Q q =>
  ⟨v, .ty n, _, _, b, rfl, .ty n, dp_ty (dp_ex (hd.ex j) h), kit_ty e, q _ _ _ _ j k⟩
theorem cw_isi2 (hd : Hid J) {v : V} {d : PyData} {n1 n2 : String} {b1 b2 : Bool} {tp : Addr} (ht : F tp = some (.tup [.ty n1, .ty n2])) (h : Dp K F v d) (e1 : kitB (tyD d) n1 = some b1) (e2 : kitB (tyD d) n2 = some b2) (k : R (.bl (b1 || b2)) s F) : CW J (rIsiT K) [v, .ref tp] s F R := fun H j Q q =>
  ⟨v, tp, [.ty n1, .ty n2], _, [.type n1, .type n2], b1 || b2, rfl, hd.ex j _ _ ht, .cons (.ty n1) (.cons (.ty n2) .nil), dp_ty (dp_ex (hd.ex j) h),
    kitAny_cons (kit_ty e1) (fun hb => by rw [hb]; exact kitAny_cons (kit_ty e2) (fun hb2 => by rw [hb2]; exact kitAny_nil) (fun hb2 => by rw [hb2]; rfl)) (fun hb => by rw [hb]; rfl), q _ _ _ _ j k⟩
theorem rw_ixD (hd : Hid J) {p : Addr} {xs : List V} {i : Nat} {v : V} (l : SqL K F p xs ∨ SqT K F p xs) (a : xs[i]? = some v) (h : R v s F) : RW J (rIx K) (.ref p) (.int (i : Int)) s F R := fun H j Q q => by
  rcases l with l | l
  · exact .inl ⟨p, xs, i, v, rfl, rfl, hd.sqL j l, atI_nat a, q _ _ _ _ j h⟩
  · exact .inr (.inl ⟨p, xs, i, v, rfl, rfl, hd.sqT j l, atI_nat a, q _ _ _ _ j h⟩)
end
/-- data of depth n at most, none longer than a thousand -/
def szD : Nat → PyData → Bool
  | _, .none => true
  | _, .bool _ => true
  | _, .int _ => true
  | _, .str x => PyData.strOk x
  | n + 1, .list ds => decide (ds.length ≤ 1000) && ds.all (szD n)
  | n + 1, .tuple ds => decide (ds.length ≤ 1000) && ds.all (szD n)
  | _, _ => false
/-- two that hold the same -/
def aAlike (K : PySem.W.Frag) : Nat → List V → Hp → VK → Prop
  | 0 => fun _ _ _ => False
  | n + 1 => fun vs F R => ∃ (x y : V) (d : PyData), vs = [x, y] ∧ Dp K F x d ∧ Dp K F y d ∧ szD n d = true ∧ ∀ F', Ex F F' → R (.bl true) F'
abbrev sAlike : Stmt := top 35
def N_alike : List Str := ["_law_found", "_law_due", "_law_k"]
theorem sc_alike : FnScope N_alike ["_law_found", "_law_due"] (defScope sAlike) := ⟨rfl, rfl, rfl, by decide +kernel, rfl, by decide +kernel, by decide +kernel⟩
section
variable {P : Program} {w : World} {K : PySem.W.Frag} {mg : Str → Option Value} {base : Heap}
theorem ok_alike {f : Addr} {fd : FuncData} (Fn : Fun K "_law_alike" "_law_alike" sAlike f fd) (B : Blt mg) (C_law_alike : Cal K mg "_law_alike" f fd ["_law_found", "_law_due"]) :
    ∀ n, FnOk P w K mg base CX0 n f fd ["_law_found", "_law_due"] (LS (aAlike K n))
  | 0 => ⟨fun _ _ _ _ ⟨_, _, _, _, _, h, _⟩ => h.elim, fun _ _ _ _ _ _ _ _ _ _ _ _ _ ⟨_, _, _, _, _, h, _⟩ => h.elim⟩
  | n + 1 => by
    have ih := ok_alike Fn B C_law_alike n
    refine Fn.ok sc_alike (fun vs H Q E h => ?_) (fun cdv A outer s H vs Q E hr h => ?_)
    · obtain ⟨J, F, R, hd, j, ⟨x, y, d, rfl, _⟩, _⟩ := h
      rfl
    have nd := sc_alike.nd
    obtain ⟨J, F, R, hd, j, ⟨x, y, d, rfl, hx, hy, hz, k⟩, q⟩ := h
    refine ⟨_, (pss_cons (ps_if (pt_val (pe_callB call_isiT (by rfl) B.isinstance (by decide +kernel) (pa_cons (pv 1) (pa_cons (pe_tup (pa_cons (pe_bltn (v := .ty "tuple") (by rfl) B.tuple (by decide +kernel) rfl) (pa_cons (pe_bltn (v := .ty "list") (by rfl) B.list (by decide +kernel) rfl) pa_nil))) pa_nil)))) (pss_cons (ps_if (PW.pt (pw_or (pt_not (pt_val (pe_callB call_isiT (by rfl) B.isinstance (by decide +kernel) (pa_cons (pv 0) (pa_cons (pe_tup (pa_cons (pe_bltn (v := .ty "tuple") (by rfl) B.tuple (by decide +kernel) rfl) (pa_cons (pe_bltn (v := .ty "list") (by rfl) B.list (by decide +kernel) rfl) pa_nil))) pa_nil))))) (pw_or1 (pt_cmpR op_ne (pe_callB call_isi (by rfl) B.isinstance (by decide +kernel) (pa_cons (pv 0) (pa_cons (pe_bltn (v := .ty "list") (by rfl) B.list (by decide +kernel) rfl) pa_nil))) (pe_callB call_isi (by rfl) B.isinstance (by decide +kernel) (pa_cons (pv 1) (pa_cons (pe_bltn (v := .ty "list") (by rfl) B.list (by decide +kernel) rfl) pa_nil))) (nomark _))))) (pss_one (ps_ret pe_bl)) pss_nil)
      (pss_cons (ps_if (pt_cmpR op_ne (pe_callB call_len_seq (by rfl) B.len (by decide +kernel) (pa_cons (pv 0) pa_nil)) (pe_callB call_len_seq (by rfl) B.len (by decide +kernel) (pa_cons (pv 1) pa_nil)) (nomark _)) (pss_one (ps_ret pe_bl)) pss_nil)
      (pss_one (ps_ret (pe_cmpR (op_eqD (by exact hr.units)) (pe_lc (own := [("_law_k", 2)]) (te := (tVar 2)) (tt := (tNot (tB (tCall (LS (aAlike K n)) [] E0 (tCons (tOp (rIx K) (tVar 0) (tVar 2)) (tCons (tOp (rIx K) (tVar 1) (tVar 2)) tNil)))))) (by rfl) nd (pi_range1 rfl B.range (pa_cons (pe_callB call_len_seq (by rfl) B.len (by decide +kernel) (pa_cons (pv 1) pa_nil)) pa_nil)) (blkOk_by (own := [("_law_k", 2)]) (N := N_alike) (sc := defScope sAlike) (by decide +kernel)) (fun _ _ _ _ _ => (pg_name (i := 2) nd rfl (Or.inl rfl))) (fun _ _ _ _ _ => pts_one (pt_not (pt_val (pe_call ih (by exact hr) (by rfl) C_law_alike.g C_law_alike.k C_law_alike.a .nil pass0 (pa_cons (pe_ix ix_seq (pv 0) (pv 2) (fun _ _ => rfl)) (pa_cons (pe_ix ix_seq (pv 1) (pv 2) (fun _ _ => rfl)) pa_nil)))))) (fun _ _ _ _ _ => (pv 2))) (pe_lst pa_nil) (nomark _)))))) pss_nil)
      (pss_cons (ps_if (PW.pt (pw_or (pt_cmpR op_isN (pv 1) pe_non (nomark _)) (pw_or1 (pt_val (pe_callB call_isi (by rfl) B.isinstance (by decide +kernel) (pa_cons (pv 1) (pa_cons (pe_bltn (v := .ty "str") (by rfl) B.str (by decide +kernel) rfl) pa_nil))))))) (pss_one (ps_ret (pe_and (pe_cmpR op_eq (pv 0) (pv 1) (nomark _)) (pe_one (pe_cmpR op_eq (pe_callB call_isi (by rfl) B.isinstance (by decide +kernel) (pa_cons (pv 0) (pa_cons (pe_bltn (v := .ty "str") (by rfl) B.str (by decide +kernel) rfl) pa_nil))) (pe_callB call_isi (by rfl) B.isinstance (by decide +kernel) (pa_cons (pv 1) (pa_cons (pe_bltn (v := .ty "str") (by rfl) B.str (by decide +kernel) rfl) pa_nil))) (nomark _)))))) pss_nil)
      (pss_one (ps_ret (pe_and (pe_callB call_isi (by rfl) B.isinstance (by decide +kernel) (pa_cons (pv 0) (pa_cons (pe_bltn (v := .ty "int") (by rfl) B.int (by decide +kernel) rfl) pa_nil))) (pe_and (pe_cmpR op_eq (pe_callB call_isi (by rfl) B.isinstance (by decide +kernel) (pa_cons (pv 0) (pa_cons (pe_bltn (v := .ty "bool") (by rfl) B.bool (by decide +kernel) rfl) pa_nil))) (pe_callB call_isi (by rfl) B.isinstance (by decide +kernel) (pa_cons (pv 1) (pa_cons (pe_bltn (v := .ty "bool") (by rfl) B.bool (by decide +kernel) rfl) pa_nil))) (nomark _)) (pe_one (pe_cmpR op_eq (pv 0) (pv 1) (nomark _))))))))), ?_⟩
    refine LS.body j q ?_
    walk_at "ob"
    refine ⟨by walk_at "ob_len", fun t1 ht1 => ?_⟩
    walk_at "ob"
    have g1 : Ex F (upd F t1 (.tup [.ty "tuple", .ty "list"])) := by walk_at "ob_ex"
    have fin : ∀ b, b = true → R (.bl b) (upd F t1 (.tup [.ty "tuple", .ty "list"])) := fun b e => by rw [e]; exact k _ g1
    cases d with
    | none =>
      cases dp_non hx
      refine cw_isi2 hd (b1 := false) (b2 := false) upd_same (dp_ex g1 hy) (by simp only [tyD]; decide +kernel) (by simp only [tyD]; decide +kernel) ?_
      walk_at "ob"
      refine ⟨(fun h => by cases h), fun _ => ?_⟩
      cases dp_non hy
      walk_at "ob"
      refine ⟨fun _ => ⟨fun _ => ?_, fun h => by cases h⟩, fun h => absurd h (by decide)⟩
      walk_at "ob"
      refine ⟨fun _ => ?_, fun h => absurd h (by decide)⟩
      walk_at "ob"
      refine cw_isi hd (n := "str") (b := false) (dp_ex g1 hx) (by simp only [tyD]; decide +kernel) ?_
      walk_at "ob"
      refine cw_isi hd (n := "str") (b := false) (dp_ex g1 hy) (by simp only [tyD]; decide +kernel) ?_
      walk_at "ob"
      exact fin _ (by decide)
    | str z =>
      cases dp_str hx
      refine cw_isi2 hd (b1 := false) (b2 := false) upd_same (dp_ex g1 hy) (by simp only [tyD]; decide +kernel) (by simp only [tyD]; decide +kernel) ?_
      walk_at "ob"
      refine ⟨(fun h => by cases h), fun _ => ?_⟩
      cases dp_str hy
      walk_at "ob"
      refine ⟨fun h => by simp at h, fun _ => ?_⟩
      walk_at "ob"
      refine cw_isi hd (n := "str") (b := true) (dp_ex g1 hy) (by simp only [tyD]; decide +kernel) ?_
      walk_at "ob"
      refine ⟨fun _ => ?_, (fun h => by cases h)⟩
      walk_at "ob"
      refine ⟨fun _ => ?_, fun h => by simp at h⟩
      walk_at "ob"
      refine cw_isi hd (n := "str") (b := true) (dp_ex g1 hx) (by simp only [tyD]; decide +kernel) ?_
      walk_at "ob"
      refine cw_isi hd (n := "str") (b := true) (dp_ex g1 hy) (by simp only [tyD]; decide +kernel) ?_
      walk_at "ob"
      exact fin _ (by decide)
    | bool b =>
      cases dp_bl hx
      refine cw_isi2 hd (b1 := false) (b2 := false) upd_same (dp_ex g1 hy) (by simp only [tyD]; decide +kernel) (by simp only [tyD]; decide +kernel) ?_
      walk_at "ob"
      refine ⟨(fun h => by cases h), fun _ => ?_⟩
      cases dp_bl hy
      walk_at "ob"
      refine ⟨fun h => by simp at h, fun _ => ?_⟩
      walk_at "ob"
      refine cw_isi hd (n := "str") (b := false) (dp_ex g1 hy) (by simp only [tyD]; decide +kernel) ?_
      walk_at "ob"
      refine ⟨(fun h => by cases h), fun _ => ?_⟩
      walk_at "ob"
      refine cw_isi hd (n := "int") (b := true) (dp_ex g1 hx) (by simp only [tyD]; decide +kernel) ?_
      walk_at "ob"
      refine ⟨fun _ => ?_, (fun h => by cases h)⟩
      walk_at "ob"
      refine cw_isi hd (n := "bool") (b := true) (dp_ex g1 hx) (by simp only [tyD]; decide +kernel) ?_
      walk_at "ob"
      refine cw_isi hd (n := "bool") (b := true) (dp_ex g1 hy) (by simp only [tyD]; decide +kernel) ?_
      walk_at "ob"
      refine ⟨fun _ => ?_, fun h => absurd h (by decide)⟩
      walk_at "ob"
      exact fin _ (by simp)
    | int i =>
      cases dp_int hx
      refine cw_isi2 hd (b1 := false) (b2 := false) upd_same (dp_ex g1 hy) (by simp only [tyD]; decide +kernel) (by simp only [tyD]; decide +kernel) ?_
      walk_at "ob"
      refine ⟨(fun h => by cases h), fun _ => ?_⟩
      cases dp_int hy
      walk_at "ob"
      refine ⟨fun h => by simp at h, fun _ => ?_⟩
      walk_at "ob"
      refine cw_isi hd (n := "str") (b := false) (dp_ex g1 hy) (by simp only [tyD]; decide +kernel) ?_
      walk_at "ob"
      refine ⟨(fun h => by cases h), fun _ => ?_⟩
      walk_at "ob"
      refine cw_isi hd (n := "int") (b := true) (dp_ex g1 hx) (by simp only [tyD]; decide +kernel) ?_
      walk_at "ob"
      refine ⟨fun _ => ?_, (fun h => by cases h)⟩
      walk_at "ob"
      refine cw_isi hd (n := "bool") (b := false) (dp_ex g1 hx) (by simp only [tyD]; decide +kernel) ?_
      walk_at "ob"
      refine cw_isi hd (n := "bool") (b := false) (dp_ex g1 hy) (by simp only [tyD]; decide +kernel) ?_
      walk_at "ob"
      refine ⟨fun _ => ?_, fun h => absurd h (by decide)⟩
      walk_at "ob"
      exact fin _ (by simp)
    | list ds =>
      have hz2 : ds.length ≤ 1000 ∧ ∃ n', n = n' + 1 ∧ ds.all (szD n') = true := by
        cases n with
        | zero => simp [szD] at hz
        | succ n' => simp only [szD, Bool.and_eq_true, decide_eq_true_eq] at hz; exact ⟨hz.1, n', rfl, hz.2⟩
      obtain ⟨hlen, n', rfl, hall⟩ := hz2
      refine cw_isi2 hd (b1 := false) (b2 := true) upd_same (dp_ex g1 hy) (by simp only [tyD]; decide +kernel) (by simp only [tyD]; decide +kernel) ?_
      walk_at "ob"
      refine ⟨fun _ => ?_, (fun h => by cases h)⟩
      walk_at "ob"
      refine ⟨by walk_at "ob_len", fun t2 ht2 => ?_⟩
      have g2 : Ex F (upd (upd F t1 (.tup [.ty "tuple", .ty "list"])) t2 (.tup [.ty "tuple", .ty "list"])) := by walk_at "ob_ex"
      walk_at "ob"
      refine cw_isi2 hd (b1 := false) (b2 := true) upd_same (dp_ex g2 hx) (by simp only [tyD]; decide +kernel) (by simp only [tyD]; decide +kernel) ?_
      walk_at "ob"
      refine ⟨(fun h => by cases h), fun _ => ?_⟩
      walk_at "ob"
      refine cw_isi hd (n := "list") (b := true) (dp_ex g2 hx) (by simp only [tyD]; decide +kernel) ?_
      walk_at "ob"
      refine cw_isi hd (n := "list") (b := true) (dp_ex g2 hy) (by simp only [tyD]; decide +kernel) ?_
      walk_at "ob"
      refine ⟨fun h => by simp at h, fun _ => ?_⟩
      obtain ⟨xa, xs, rfl, hxs, hxd⟩ := dp_lst hx
      obtain ⟨ya, ys, rfl, hys, hyd⟩ := dp_lst hy
      have lx : xs.length = ds.length := dps_len hxd
      have ly : ys.length = ds.length := dps_len hyd
      walk_at "ob"
      refine cw_lenS hd (ys := xs) (Or.inl (g2.sqL hxs)) ?_
      walk_at "ob"
      refine cw_lenS hd (ys := ys) (Or.inl (g2.sqL hys)) ?_
      rw [lx, ly]
      walk_at "ob"
      refine ⟨fun h => by simp at h, fun _ => ?_⟩
      walk_at "ob"
      refine ew_lcR hd ?_
      walk_at "ob"
      refine cw_lenS hd (ys := ys) (Or.inl (g2.sqL hys)) ?_
      rw [ly]
      walk_at "ob"
      refine ⟨(ds.length : Int), rfl, by omega, by omega, fun Dl hDl => ?_⟩
      refine ⟨fun i acc _ G => acc = [] ∧ Ex (upd (upd F t1 (.tup [.ty "tuple", .ty "list"])) t2 (.tup [.ty "tuple", .ty "list"])) G, ⟨rfl, .refl _⟩, ?_, ?_, ?_⟩
      · rintro i acc _ G hi hg ⟨rfl, g⟩
        exact Nat.zero_le _
      · rintro i acc _ G hi hg ⟨rfl, g⟩
        have hd' := hd.jd (D := Dl) (acc := [])
        have hil : i < ds.length := by omega
        obtain ⟨vx, ex1, dx⟩ := dps_get hxd (List.getElem?_eq_getElem hil)
        obtain ⟨vy, ey1, dy⟩ := dps_get hyd (List.getElem?_eq_getElem hil)
        have hgx := g2.trans g
        refine gw_name ⟨rfl, ?_⟩
        walk_at "ob"
        refine ew_call hd' ?_
        walk_at "ob"
        refine rw_ixD hd' (Or.inl (hgx.sqL hxs)) ex1 ?_
        walk_at "ob"
        refine rw_ixD hd' (Or.inl (hgx.sqL hys)) ey1 ?_
        walk_at "ob"
        refine ⟨vx, vy, ds[i], rfl, dp_ex hgx dx, dp_ex hgx dy, List.all_eq_true.mp hall _ (List.getElem_mem hil), fun G2 gG => ?_⟩
        walk_at "ob"
        exact ⟨(fun h => by cases h), fun _ => ⟨rfl, g.trans gG⟩⟩
      · rintro acc _ G hg ⟨rfl, g⟩
        walk_at "ob"
        refine ⟨by walk_at "ob_len", fun e1 he1 => ?_⟩
        refine rw_eqD hd (d := .list []) (e := .list []) (.lst (SqL.of (by walk_at "ob_at")) .nil) (.lst (SqL.of upd_same) .nil) (shaped_low (n := 1) rfl) (shaped_low (n := 1) rfl) ?_
        have he2 : G e1 = none := (Ex.out (F := G) (.refl _) hg).free he1
        exact k _ ((g2.trans g).trans (Ex.new (Ex.out (.refl _) hg) he1))
    | tuple ds =>
      have hz2 : ds.length ≤ 1000 ∧ ∃ n', n = n' + 1 ∧ ds.all (szD n') = true := by
        cases n with
        | zero => simp [szD] at hz
        | succ n' => simp only [szD, Bool.and_eq_true, decide_eq_true_eq] at hz; exact ⟨hz.1, n', rfl, hz.2⟩
      obtain ⟨hlen, n', rfl, hall⟩ := hz2
      refine cw_isi2 hd (b1 := true) (b2 := false) upd_same (dp_ex g1 hy) (by simp only [tyD]; decide +kernel) (by simp only [tyD]; decide +kernel) ?_
      walk_at "ob"
      refine ⟨fun _ => ?_, (fun h => by cases h)⟩
      walk_at "ob"
      refine ⟨by walk_at "ob_len", fun t2 ht2 => ?_⟩
      have g2 : Ex F (upd (upd F t1 (.tup [.ty "tuple", .ty "list"])) t2 (.tup [.ty "tuple", .ty "list"])) := by walk_at "ob_ex"
      walk_at "ob"
      refine cw_isi2 hd (b1 := true) (b2 := false) upd_same (dp_ex g2 hx) (by simp only [tyD]; decide +kernel) (by simp only [tyD]; decide +kernel) ?_
      walk_at "ob"
      refine ⟨(fun h => by cases h), fun _ => ?_⟩
      walk_at "ob"
      refine cw_isi hd (n := "list") (b := false) (dp_ex g2 hx) (by simp only [tyD]; decide +kernel) ?_
      walk_at "ob"
      refine cw_isi hd (n := "list") (b := false) (dp_ex g2 hy) (by simp only [tyD]; decide +kernel) ?_
      walk_at "ob"
      refine ⟨fun h => by simp at h, fun _ => ?_⟩
      obtain ⟨xa, xs, rfl, hxs, hxd⟩ := dp_tup hx
      obtain ⟨ya, ys, rfl, hys, hyd⟩ := dp_tup hy
      have lx : xs.length = ds.length := dps_len hxd
      have ly : ys.length = ds.length := dps_len hyd
      walk_at "ob"
      refine cw_lenS hd (ys := xs) (Or.inr (g2.sqT hxs)) ?_
      walk_at "ob"
      refine cw_lenS hd (ys := ys) (Or.inr (g2.sqT hys)) ?_
      rw [lx, ly]
      walk_at "ob"
      refine ⟨fun h => by simp at h, fun _ => ?_⟩
      walk_at "ob"
      refine ew_lcR hd ?_
      walk_at "ob"
      refine cw_lenS hd (ys := ys) (Or.inr (g2.sqT hys)) ?_
      rw [ly]
      walk_at "ob"
      refine ⟨(ds.length : Int), rfl, by omega, by omega, fun Dl hDl => ?_⟩
      refine ⟨fun i acc _ G => acc = [] ∧ Ex (upd (upd F t1 (.tup [.ty "tuple", .ty "list"])) t2 (.tup [.ty "tuple", .ty "list"])) G, ⟨rfl, .refl _⟩, ?_, ?_, ?_⟩
      · rintro i acc _ G hi hg ⟨rfl, g⟩
        exact Nat.zero_le _
      · rintro i acc _ G hi hg ⟨rfl, g⟩
        have hd' := hd.jd (D := Dl) (acc := [])
        have hil : i < ds.length := by omega
        obtain ⟨vx, ex1, dx⟩ := dps_get hxd (List.getElem?_eq_getElem hil)
        obtain ⟨vy, ey1, dy⟩ := dps_get hyd (List.getElem?_eq_getElem hil)
        have hgx := g2.trans g
        refine gw_name ⟨rfl, ?_⟩
        walk_at "ob"
        refine ew_call hd' ?_
        walk_at "ob"
        refine rw_ixD hd' (Or.inr (hgx.sqT hxs)) ex1 ?_
        walk_at "ob"
        refine rw_ixD hd' (Or.inr (hgx.sqT hys)) ey1 ?_
        walk_at "ob"
        refine ⟨vx, vy, ds[i], rfl, dp_ex hgx dx, dp_ex hgx dy, List.all_eq_true.mp hall _ (List.getElem_mem hil), fun G2 gG => ?_⟩
        walk_at "ob"
        exact ⟨(fun h => by cases h), fun _ => ⟨rfl, g.trans gG⟩⟩
      · rintro acc _ G hg ⟨rfl, g⟩
        walk_at "ob"
        refine ⟨by walk_at "ob_len", fun e1 he1 => ?_⟩
        refine rw_eqD hd (d := .list []) (e := .list []) (.lst (SqL.of (by walk_at "ob_at")) .nil) (.lst (SqL.of upd_same) .nil) (shaped_low (n := 1) rfl) (shaped_low (n := 1) rfl) ?_
        have he2 : G e1 = none := (Ex.out (F := G) (.refl _) hg).free he1
        exact k _ ((g2.trans g).trans (Ex.new (Ex.out (.refl _) hg) he1))
    | dict kv => cases hx
end
end Obr
namespace Obr
/-! ### what a beat does, machine by machine (mathematics only) -/
theorem turn_uniq {r : Rgt} {last : Int} {cs a b : List Clm} (h1 : TurnOk r last cs a) (h2 : TurnOk r last cs b) : a = b :=
  List.Perm.eq_of_pairwise (fun x y _ _ h k => by unfold cLt at h k; omega) h1.srt h2.srt (h1.perm.trans h2.perm.symm)
theorem beat_uniq {w : Wld} {r : Rgt} {p anew : Bool} {t a b : LSt} {l1 l2 : Int} {g1 g2 : List Int} (h1 : LBeat w r p anew t a l1 g1) (h2 : LBeat w r p anew t b l2 g2) : a = b ∧ l1 = l2 ∧ g1 = g2 := by
  obtain ⟨ts, k1, e1, e2, e3⟩ := h1.ex
  obtain ⟨ts2, k2, f1, f2, f3⟩ := h2.ex
  obtain rfl := turn_uniq k1 k2
  subst e1 e2 e3 f1 f2 f3
  exact ⟨rfl, rfl, rfl⟩
def endM (anew : Bool) (b : Int) (ss : List Stp) (m : Mac) : Mac :=
  if m.over = b then
    match ss[m.at_.toNat]? with
    | some _ => if m.at_ + 1 = ss.length then ⟨if anew then 0 else m.at_ + 1, -1, b, m.done + 1, m.waits, some b⟩ else ⟨m.at_ + 1, -1, b, m.done + 1, m.waits, m.ends⟩
    | none => m
  else m
theorem set_get {α : Type} {l : List α} {k j : Nat} {x : α} : (l.set k x)[j]? = if k = j then (l[j]?).map (fun _ => x) else l[j]? := by
  rw [List.getElem?_set]
  by_cases c : k = j
  · subst c
    rw [if_pos rfl, if_pos rfl]
    by_cases h : k < l.length
    · rw [if_pos h, List.getElem?_eq_getElem h]; rfl
    · rw [if_neg h, List.getElem?_eq_none (by omega)]; rfl
  · rw [if_neg c, if_neg c]
theorem lEnd_ms {w : Wld} {anew : Bool} {t : LSt} {k : Nat} {ss : List Stp} (hs : w.ms[k]? = some ss) (j : Nat) : (lEnd w anew t k).ms[j]? = if k = j then (t.ms[j]?).map (endM anew t.beat ss) else t.ms[j]? := by
  unfold lEnd
  split
  · rename_i m s2 hm h2
    rw [hs] at h2
    cases h2
    by_cases c : k = j
    · subst c
      rw [if_pos rfl, hm]
      unfold endM
      split
      · rename_i ho
        simp only [Option.map_some]
        rw [if_pos ho]
        split
        · rename_i st hst
          try simp only [hst]
          split
          · rw [set_get, if_pos rfl, hm]; rfl
          · rw [set_get, if_pos rfl, hm]; rfl
        · rename_i hst
          try simp only [hst]
          exact hm
      · rename_i ho
        simp only [Option.map_some]
        rw [if_neg ho]
        exact hm
    · rw [if_neg c]
      split
      · split
        · split
          · rw [set_get, if_neg c]
          · rw [set_get, if_neg c]
        · rfl
      · rfl
  · rename_i hno
    by_cases c : k = j
    · subst c
      rw [if_pos rfl]
      cases hm : t.ms[k]? with
      | none => rfl
      | some m => exact absurd hs (hno m ss hm)
    · rw [if_neg c]
theorem lEnds_ms {w : Wld} {anew : Bool} {t : LSt} : ∀ {n : Nat} {j : Nat} {ss : List Stp}, n ≤ w.ms.length → w.ms[j]? = some ss → (lEnds w anew t n).ms[j]? = if j < n then (t.ms[j]?).map (endM anew t.beat ss) else t.ms[j]?
  | 0, j, ss, _, _ => by rw [if_neg (by omega)]; rfl
  | n + 1, j, ss, hn, hj => by
    have hk : w.ms[n]? = some w.ms[n] := List.getElem?_eq_getElem (by omega)
    rw [lEnds, lEnd_ms hk, lEnds_beat]
    by_cases c : n = j
    · subst c
      rw [if_pos rfl, if_pos (by omega), lEnds_ms (by omega) hk, if_neg (by omega)]
      rw [hk] at hj
      cases hj
      rfl
    · rw [if_neg c, lEnds_ms (by omega) hj]
      by_cases d : j < n
      · rw [if_pos d, if_pos (by omega)]
      · rw [if_neg d, if_neg (by omega)]
theorem lFill_ms {w : Wld} {t : LSt} : (lFill w t).ms = t.ms := by unfold lFill; split <;> rfl
theorem lFill_beat {w : Wld} {t : LSt} : (lFill w t).beat = t.beat := by unfold lFill; split <;> rfl
theorem lFill_last {w : Wld} {t : LSt} : (lFill w t).last = t.last := by unfold lFill; split <;> rfl
theorem lEnd_last {w : Wld} {anew : Bool} {t : LSt} {k : Nat} : (lEnd w anew t k).last = t.last := by
  unfold lEnd
  repeat' split
  all_goals rfl
theorem lEnds_last {w : Wld} {anew : Bool} {t : LSt} : ∀ n, (lEnds w anew t n).last = t.last
  | 0 => rfl
  | n + 1 => by rw [lEnds, lEnd_last, lEnds_last n]
theorem lDraw_beat {w : Wld} {p : Bool} {x : LSt × List Int × Bool} {c : Clm} : (lDraw w p x c).1.beat = x.1.beat ∧ (lDraw w p x c).1.last = x.1.last := by
  unfold lDraw
  repeat' split
  all_goals exact ⟨rfl, rfl⟩
theorem lDraws_beat {w : Wld} {p : Bool} : ∀ (ts : List Clm) {x : LSt × List Int × Bool}, (ts.foldl (lDraw w p) x).1.beat = x.1.beat ∧ (ts.foldl (lDraw w p) x).1.last = x.1.last
  | [], _ => ⟨rfl, rfl⟩
  | c :: ts, x => by
    have h := lDraws_beat ts (w := w) (p := p) (x := lDraw w p x c)
    have k := lDraw_beat (w := w) (p := p) (x := x) (c := c)
    exact ⟨h.1.trans k.1, h.2.trans k.2⟩
theorem lDraw_other {w : Wld} {p : Bool} {x : LSt × List Int × Bool} {c : Clm} {j : Nat} (h : c.k.toNat ≠ j) : (lDraw w p x c).1.ms[j]? = x.1.ms[j]? := by
  unfold lDraw
  split
  · split
    · split
      · rw [set_get, if_neg h]
      · rfl
    · rw [set_get, if_neg h]
  · rfl
theorem lDraw_bg {w : Wld} {p : Bool} {x : LSt × List Int × Bool} {c : Clm} : (lDraw w p x c).2.1 = x.2.1 ∨ (lDraw w p x c).2.1 = x.2.1 ++ [c.k] := by
  unfold lDraw
  split
  · split
    · split
      · exact Or.inr rfl
      · exact Or.inl rfl
    · exact Or.inl rfl
  · exact Or.inl rfl
theorem lDraw_here {w : Wld} {p : Bool} {x : LSt × List Int × Bool} {c : Clm} {m : Mac} {ss : List Stp} {st : Stp} (hm : x.1.ms[c.k.toNat]? = some m) (hs : w.ms[c.k.toNat]? = some ss) (hst : ss[m.at_.toNat]? = some st) :
    ((lDraw w p x c).2.1 = x.2.1 ++ [c.k] ∧ c.draw ≤ x.1.level ∧ (lDraw w p x c).1.level = x.1.level - c.draw ∧ (lDraw w p x c).1.ms[c.k.toNat]? = some { m with over := x.1.beat + st.long }) ∨
    ((lDraw w p x c).2.1 = x.2.1 ∧ (lDraw w p x c).1.level = x.1.level ∧ (lDraw w p x c).1.ms[c.k.toNat]? = some { m with waits := m.waits + 1 }) := by
  unfold lDraw
  rw [hm, hs]
  simp only [hst]
  split
  · rename_i h
    refine Or.inl ⟨rfl, h.2, rfl, ?_⟩
    show (x.1.ms.set _ _)[_]? = _
    rw [set_get, if_pos rfl, hm]; rfl
  · refine Or.inr ⟨rfl, rfl, ?_⟩
    show (x.1.ms.set _ _)[_]? = _
    rw [set_get, if_pos rfl, hm]; rfl
/-- after the draws: each machine -/
theorem lDraws_ms {w : Wld} {p : Bool} {s : LSt} : ∀ (ts : List Clm) {x : LSt × List Int × Bool}, (ts.map Clm.k).Nodup → (∀ c ∈ ts, 0 ≤ c.k) → (∀ c ∈ ts, ∀ b ∈ x.2.1, b ≠ c.k) →
    (∀ c ∈ ts, ∃ m ss st, x.1.ms[c.k.toNat]? = some m ∧ w.ms[c.k.toNat]? = some ss ∧ ss[m.at_.toNat]? = some st) →
    (∀ b ∈ (ts.foldl (lDraw w p) x).2.1, b ∈ x.2.1 ∨ b ∈ ts.map Clm.k) ∧ (∀ b ∈ x.2.1, b ∈ (ts.foldl (lDraw w p) x).2.1) ∧
    (∀ j : Nat, (j : Int) ∉ ts.map Clm.k → (ts.foldl (lDraw w p) x).1.ms[j]? = x.1.ms[j]?) ∧
    (∀ (j : Nat) (m : Mac), (j : Int) ∈ ts.map Clm.k → x.1.ms[j]? = some m → ∃ ss st, w.ms[j]? = some ss ∧ ss[m.at_.toNat]? = some st ∧
      (((j : Int) ∈ (ts.foldl (lDraw w p) x).2.1 ∧ (ts.foldl (lDraw w p) x).1.ms[j]? = some { m with over := x.1.beat + st.long }) ∨ ((j : Int) ∉ (ts.foldl (lDraw w p) x).2.1 ∧ (ts.foldl (lDraw w p) x).1.ms[j]? = some { m with waits := m.waits + 1 })))
  | [], x, _, _, _, _ => ⟨fun b h => Or.inl h, fun b h => h, fun _ _ => rfl, fun j m h _ => by cases h⟩
  | c :: ts, x, hn, h0, hb, hx => by
    rw [List.map_cons, List.nodup_cons] at hn
    have hc0 := h0 c List.mem_cons_self
    have hkk : ∀ j : Nat, c.k.toNat = j ↔ c.k = (j : Int) := fun j => by omega
    have hne : ∀ d ∈ ts, c.k ≠ d.k := fun d hd e => hn.1 (by rw [e]; exact List.mem_map_of_mem hd)
    have ih := lDraws_ms (s := s) ts (w := w) (p := p) (x := lDraw w p x c) hn.2 (fun d hd => h0 d (List.mem_cons_of_mem _ hd))
      (fun d hd b hbm => by
        rcases lDraw_bg (w := w) (p := p) (x := x) (c := c) with e | e
        · rw [e] at hbm; exact hb d (List.mem_cons_of_mem _ hd) b hbm
        · rw [e] at hbm
          rcases List.mem_append.mp hbm with hbm | hbm
          · exact hb d (List.mem_cons_of_mem _ hd) b hbm
          · rw [List.mem_singleton.mp hbm]; exact hne d hd)
      (fun d hd => by
        obtain ⟨m, ss, st, h1, h2, h3⟩ := hx d (List.mem_cons_of_mem _ hd)
        refine ⟨m, ss, st, ?_, h2, h3⟩
        rw [lDraw_other (fun e => hne d hd (by have := h0 d (List.mem_cons_of_mem _ hd); omega))]
        exact h1)
    obtain ⟨i1, i2, i3, i4⟩ := ih
    rw [List.foldl_cons]
    refine ⟨fun b hbm => ?_, fun b hbm => ?_, fun j hj => ?_, fun j m hj hm => ?_⟩
    · rcases i1 b hbm with h | h
      · rcases lDraw_bg (w := w) (p := p) (x := x) (c := c) with e | e
        · rw [e] at h; exact Or.inl h
        · rw [e] at h
          rcases List.mem_append.mp h with h | h
          · exact Or.inl h
          · rw [List.mem_singleton.mp h]; exact Or.inr List.mem_cons_self
      · exact Or.inr (List.mem_cons_of_mem _ h)
    · refine i2 b ?_
      rcases lDraw_bg (w := w) (p := p) (x := x) (c := c) with e | e
      · rw [e]; exact hbm
      · rw [e]; exact List.mem_append_left _ hbm
    · rw [List.map_cons, List.mem_cons, not_or] at hj
      rw [i3 j hj.2]
      exact lDraw_other (fun e => hj.1 ((hkk j).mp e).symm)
    · by_cases e : c.k = (j : Int)
      · have ej : c.k.toNat = j := (hkk j).mpr e
        obtain ⟨m2, ss, st, h1, h2, h3⟩ := hx c List.mem_cons_self
        rw [ej] at h1 h2
        rw [hm] at h1
        cases h1
        have hnt : (j : Int) ∉ ts.map Clm.k := by rw [← e]; exact hn.1
        refine ⟨ss, st, h2, h3, ?_⟩
        rw [i3 j hnt]
        rcases lDraw_here (w := w) (p := p) (x := x) (c := c) (by rw [ej]; exact hm) (by rw [ej]; exact h2) h3 with ⟨k1, k2, k3, k4⟩ | ⟨k1, k2, k3⟩
        · rw [ej] at k4
          refine Or.inl ⟨i2 _ ?_, k4⟩
          rw [k1, ← e]
          simp
        · rw [ej] at k3
          refine Or.inr ⟨fun hin => ?_, k3⟩
          rcases i1 _ hin with h | h
          · rw [k1] at h
            exact hb c List.mem_cons_self _ h e.symm
          · exact hnt h
      · have hjt : (j : Int) ∈ ts.map Clm.k := by
          rw [List.map_cons] at hj
          rcases List.mem_cons.mp hj with h | h
          · exact absurd h.symm e
          · exact h
        have hm' : (lDraw w p x c).1.ms[j]? = some m := by rw [lDraw_other (fun q => e ((hkk j).mp q))]; exact hm
        obtain ⟨ss, st, h2, h3, h4⟩ := i4 j m hjt hm'
        rw [lDraw_beat.1] at h4
        exact ⟨ss, st, h2, h3, h4⟩
/-- what a beat does to a machine -/
structure MBeat (anew : Bool) (b : Int) (ss : List Stp) (m m' : Mac) (began : Prop) : Prop where
  no : ¬ ((endM anew b ss m).over < 0 ∧ (endM anew b ss m).at_ < ss.length) → m' = endM anew b ss m ∧ ¬ began
  yes : ((endM anew b ss m).over < 0 ∧ (endM anew b ss m).at_ < ss.length) → ∃ st, ss[(endM anew b ss m).at_.toNat]? = some st ∧ ((began ∧ m' = { endM anew b ss m with over := b + st.long }) ∨ (¬ began ∧ m' = { endM anew b ss m with waits := m.waits + 1 }))
theorem endM_waits {anew : Bool} {b : Int} {ss : List Stp} {m : Mac} : (endM anew b ss m).waits = m.waits := by
  unfold endM
  repeat' split
  all_goals rfl
theorem beat_ms {w : Wld} {r : Rgt} {p anew : Bool} {t t' : LSt} {lv : Int} {bg : List Int} (h : LOk w t) (b : LBeat w r p anew t t' lv bg) : t'.ms.length = w.ms.length ∧ t'.beat = t.beat + 1 ∧
    ∀ (k : Nat) (m : Mac) (ss : List Stp), t.ms[k]? = some m → w.ms[k]? = some ss → ∃ m', t'.ms[k]? = some m' ∧ MBeat anew t.beat ss m m' ((k : Int) ∈ bg) := by
  obtain ⟨ts, hts, e1, e2, _⟩ := b.ex
  have hS : ∀ (k : Nat) (m : Mac) (ss : List Stp), t.ms[k]? = some m → w.ms[k]? = some ss → (lFill w (lEnds w anew t w.ms.length)).ms[k]? = some (endM anew t.beat ss m) := fun k m ss hm hs => by
    rw [lFill_ms, lEnds_ms (Nat.le_refl _) hs, if_pos (List.getElem?_eq_some_iff.mp hs).1, hm]
    rfl
  have hok := lFill_ok (lEnds_ok (anew := anew) h w.ms.length)
  have hmem : ∀ c ∈ ts, ∃ (j : Nat) (m : Mac) (ss : List Stp) (st : Stp), j < w.ms.length ∧ (lFill w (lEnds w anew t w.ms.length)).ms[j]? = some m ∧ w.ms[j]? = some ss ∧ m.over < 0 ∧ m.at_ < ss.length ∧ ss[m.at_.toNat]? = some st ∧ c = ⟨j, st.draw, m.since⟩ := fun c hc => by
    obtain ⟨j, hj, hcj⟩ := lClaims_mem (hts.perm.mem_iff.mp hc)
    obtain ⟨m, ss, st, h1, h2, h3, h4, h5, h6⟩ := lClaim_mem hcj
    exact ⟨j, m, ss, st, hj, h1, h2, h3, h4, h5, h6⟩
  have hD := lDraws_ms (w := w) (p := p) (s := t) ts (x := (lFill w (lEnds w anew t w.ms.length), [], true)) ((hts.perm.map Clm.k).nodup_iff.mpr (lClaims_nd _))
    (fun c hc => by obtain ⟨j, _, _, _, _, _, _, _, _, _, e⟩ := hmem c hc; rw [e]; exact Int.natCast_nonneg _) (fun _ _ b hb => by cases hb)
    (fun c hc => by
      obtain ⟨j, m, ss, st, _, h1, h2, _, _, h5, e⟩ := hmem c hc
      refine ⟨m, ss, st, ?_, ?_, h5⟩
      · rw [e]; show _[((j : Int)).toNat]? = _; rw [Int.toNat_natCast]; exact h1
      · rw [e]; show _[((j : Int)).toNat]? = _; rw [Int.toNat_natCast]; exact h2)
  have hlen : (lDraws w p ts (lFill w (lEnds w anew t w.ms.length))).1.ms.length = w.ms.length := by
    have hh : ∀ (ts : List Clm) (x : LSt × List Int × Bool), (ts.foldl (lDraw w p) x).1.ms.length = x.1.ms.length := by
      intro ts
      induction ts with
      | nil => intro x; rfl
      | cons c ts ih =>
        intro x
        rw [List.foldl_cons, ih]
        unfold lDraw
        repeat' split
        all_goals simp
    unfold lDraws
    rw [hh]
    exact hok.len
  subst e2
  refine ⟨hlen, ?_, fun k m ss hm hs => ?_⟩
  · show (lDraws w p ts _).1.beat + 1 = _
    unfold lDraws
    rw [(lDraws_beat ts).1, lFill_beat, lEnds_beat]
  · have h1 := hS k m ss hm hs
    have hD1 := hD.1
    obtain ⟨_, _, d3, d4⟩ := hD
    have hbgk : (k : Int) ∈ bg → (k : Int) ∈ ts.map Clm.k := fun hb => by
      rw [e1] at hb
      rcases hD1 _ hb with q | q
      · cases q
      · exact q
    by_cases hc : (endM anew t.beat ss m).over < 0 ∧ (endM anew t.beat ss m).at_ < ss.length
    · have hin : (k : Int) ∈ ts.map Clm.k := by
        have ho := hok.m k _ ss h1 hs
        have hl : (endM anew t.beat ss m).at_.toNat < ss.length := by have := ho.a0; omega
        have : (⟨k, ss[(endM anew t.beat ss m).at_.toNat].draw, (endM anew t.beat ss m).since⟩ : Clm) ∈ lClaims w (lFill w (lEnds w anew t w.ms.length)) w.ms.length := by
          have hall : ∀ (n : Nat), k < n → ∀ c ∈ lClaim w (lFill w (lEnds w anew t w.ms.length)) k, c ∈ lClaims w (lFill w (lEnds w anew t w.ms.length)) n := by
            intro n
            induction n with
            | zero => intro hk; omega
            | succ n ih =>
              intro hk c hcm
              rw [lClaims]
              by_cases e : k = n
              · subst e; exact List.mem_append_right _ hcm
              · exact List.mem_append_left _ (ih (by omega) c hcm)
          refine hall _ (List.getElem?_eq_some_iff.mp hs).1 _ ?_
          unfold lClaim
          rw [h1, hs]
          simp only []
          rw [if_pos hc, List.getElem?_eq_getElem hl]
          simp
        exact List.mem_map.mpr ⟨_, hts.perm.mem_iff.mpr this, rfl⟩
      obtain ⟨ss2, st, hs2, hst, hd⟩ := d4 k _ hin h1
      rw [hs] at hs2
      cases hs2
      have eb : (lFill w (lEnds w anew t w.ms.length)).beat = t.beat := by rw [lFill_beat, lEnds_beat]
      rcases hd with ⟨q1, q2⟩ | ⟨q1, q2⟩
      · refine ⟨_, q2, ⟨fun z => absurd hc z, fun _ => ⟨st, hst, Or.inl ⟨by rw [e1]; exact q1, ?_⟩⟩⟩⟩
        show { endM anew t.beat ss m with over := (lFill w (lEnds w anew t w.ms.length)).beat + st.long } = _
        rw [eb]
      · exact ⟨_, q2, ⟨fun z => absurd hc z, fun _ => ⟨st, hst, Or.inr ⟨by rw [e1]; exact q1, by rw [endM_waits]⟩⟩⟩⟩
    · have hout : (k : Int) ∉ ts.map Clm.k := fun hin => by
        obtain ⟨c, hcm, ek⟩ := List.mem_map.mp hin
        obtain ⟨j, m2, ss2, st, _, g1, g2, g3, g4, _, e⟩ := hmem c hcm
        rw [e] at ek
        have ej : j = k := by have : ((j : Int)) = k := ek; omega
        subst ej
        rw [h1] at g1
        rw [hs] at g2
        cases g1
        cases g2
        exact hc ⟨g3, g4⟩
      refine ⟨_, (d3 k hout).trans h1, ⟨fun _ => ⟨rfl, fun hb => hout (hbgk hb)⟩, fun z => absurd z hc⟩⟩
end Obr
namespace Obr
open PySem PySem.Spec L2 LamX NdefX PyProof.Rows Obp
local macro_rules | `(tactic| walk_at "ob_wat") => `(tactic| first
  | with_reducible refine WAt.g_store (by assumption) ?_
  | with_reducible refine WAt.g_machines (by assumption) ?_
  | with_reducible refine WAt.g_rule (by assumption) ?_
  | with_reducible refine WAt.g_level (by assumption) ?_
  | with_reducible refine WAt.g_at (by assumption) ?_
  | with_reducible refine WAt.g_over (by assumption) ?_
  | with_reducible refine WAt.g_since (by assumption) ?_
  | with_reducible refine WAt.g_last (by assumption) ?_
  | with_reducible refine WAt.g_beat (by assumption) ?_
  | with_reducible refine WAt.g_done (by assumption) ?_
  | with_reducible refine WAt.g_waits (by assumption) ?_
  | with_reducible refine WAt.g_ends (by assumption) ?_
  | ((with_reducible refine' WAt.r_at_ (t := ?_) (m := ?_) ?obw ?obd ?obm ?_); (case obw => assumption); (case obd => assumption); (case obm => assumption))
  | ((with_reducible refine' WAt.r_over (t := ?_) (m := ?_) ?obw ?obd ?obm ?_); (case obw => assumption); (case obd => assumption); (case obm => assumption))
  | ((with_reducible refine' WAt.r_since (t := ?_) (m := ?_) ?obw ?obd ?obm ?_); (case obw => assumption); (case obd => assumption); (case obm => assumption))
  | ((with_reducible refine' WAt.r_done (t := ?_) (m := ?_) ?obw ?obd ?obm ?_); (case obw => assumption); (case obd => assumption); (case obm => assumption))
  | ((with_reducible refine' WAt.r_waits (t := ?_) (m := ?_) ?obw ?obd ?obm ?_); (case obw => assumption); (case obd => assumption); (case obm => assumption))
  | ((with_reducible refine' WAt.r_right ?obw ?obd ?_); (case obw => assumption); (case obd => assumption))
  | ((with_reducible refine' WAt.r_pass ?obw ?obd ?_); (case obw => assumption); (case obd => assumption)))
local macro_rules | `(tactic| walk_at "ob_at") => `(tactic| first
  | assumption
  | exact upd_same
  | (refine Eq.trans (upd_ne ?obn) ?obr; (case obn => walk_at "ob_ne"); (case obr => walk_at "ob_at")))
local macro_rules | `(tactic| walk_at "ob_ne") => `(tactic| first
  | assumption
  | (refine Ne.symm ?obs; (case obs => assumption))
  | (refine' ne_of_none (H := ?_) ?obe ?obh; (case obh => assumption); (case obe => walk_at "ob_at"))
  | (refine Ne.symm ?obs; (case obs => (refine' ne_of_none (H := ?_) ?obe ?obh; (case obh => assumption); (case obe => walk_at "ob_at")))))
local macro_rules | `(tactic| walk_at "ob_fr") => `(tactic| first
  | assumption
  | (refine Eq.trans (upd_ne ?obn) ?obr; (case obn => walk_at "ob_ne"); (case obr => walk_at "ob_fr"))
  | (refine Ex.free (G := ?_) (by assumption) ?obh; (case obh => walk_at "ob_fr")))
local macro_rules | `(tactic| walk_at "ob_ex") => `(tactic| first
  | assumption
  | exact Ex.refl _
  | (refine Ex.out ?obg ?obh; (case obh => assumption); (case obg => walk_at "ob_ex"))
  | (refine Ex.new ?obg ?obh; (case obh => assumption); (case obg => walk_at "ob_ex"))
  | (refine Ex.new ?obg ?obh; (case obh => walk_at "ob_fr"); (case obg => walk_at "ob_ex")))
local macro_rules | `(tactic| walk_at "ob_sq") => `(tactic| first
  | assumption
  | (refine SqL.of ?oba; (case oba => walk_at "ob_at"))
  | (refine Ex.sqT (F := ?_) ?obg ?obh; (case obh => assumption); (case obg => walk_at "ob_ex"))
  | (refine Ex.sqL (F := ?_) ?obg ?obh; (case obh => assumption); (case obg => walk_at "ob_ex"))
  | (refine SqT.of ?oba; (case oba => walk_at "ob_at")))
local macro_rules | `(tactic| walk_at "ob_side") => `(tactic| first | exact rfl | assumption | decide | omega | exact ⟨by decide, by decide, by decide⟩ | exact Or.inr ⟨by decide, by decide⟩ | exact Or.inl ⟨by decide, by decide⟩ | exact wide_div (b := 60) (by first | decide | omega) (by first | decide | omega) (by decide) (by decide))
local macro_rules | `(tactic| walk_at "ob1") => `(tactic| first
  | walk_at "ob_wat"
  | with_reducible refine sw_seq ?_
  | with_reducible refine sw_asg ?_
  | with_reducible refine sw_ret ?_
  | with_reducible refine sw_par ?_
  | with_reducible refine ⟨_, _, rfl, ?_⟩
  | with_reducible refine sw_drop ?_
  | with_reducible refine sw_if ?_
  | with_reducible refine sw_next ?_
  | with_reducible refine gw_name ?_
  | with_reducible refine gw_subL (by assumption) ?_
  | with_reducible refine gsw_cons ?_
  | with_reducible refine gsw_nil ?_
  | with_reducible refine ew_c ?_
  | ((with_reducible refine' ew_var (v := ?_) ?obv ?_); (case obv => exact rfl))
  | ((with_reducible refine ew_next (by assumption) ?obv ?_); (case obv => exact rfl))
  | ((with_reducible refine ew_world (by assumption) ?obv ?_); (case obv => exact rfl))
  | ((with_reducible refine ew_rule (by assumption) ?obv ?_); (case obv => exact rfl))
  | with_reducible refine ew_op ?_
  | with_reducible refine ew_un ?_
  | with_reducible refine ew_dget (by assumption) ?_
  | with_reducible refine uw_I ?_
  | with_reducible refine ppw_nil ?_
  | with_reducible refine ppw_cons ?_
  | with_reducible refine sw_dput (by assumption) ?_
  | with_reducible refine ew_cb ?_
  | with_reducible refine ew_if ?_
  | with_reducible refine ew_slL (by assumption) ?_
  | with_reducible refine ow_some ?_
  | with_reducible refine ow_none ?_
  | with_reducible refine aw_nil ?_
  | with_reducible refine aw_cons ?_
  | with_reducible refine rw_I0 ?_
  | ((with_reducible refine rw_I ?obc ?_); (case obc => walk_at "ob_side"))
  | with_reducible refine rw_isN ?_
  | with_reducible refine rw_notN ?_
  | ((with_reducible refine rw_eq ?obc ?_); (case obc => exact rfl))
  | ((with_reducible refine rw_ne ?obc ?_); (case obc => exact rfl))
  | with_reducible refine cw_max2 ?_
  | with_reducible refine cw_min2 ?_
  | with_reducible refine tw_test ?_
  | with_reducible refine tw_B ?_
  | with_reducible refine tw_not ?_
  | with_reducible refine tw_truB ?_
  | with_reducible refine tw_and ?_
  | with_reducible refine tw_or ?_
  | with_reducible refine ew_and ?_
  | (refine' Exists.intro _ (And.intro (show V.bl _ = V.bl _ from rfl) ?_))
  | (refine' Exists.intro _ (And.intro (show V.int _ = V.int _ from rfl) ?_))
  | ((with_reducible refine' rw_ixL (v := ?_) (xs := ?_) (by assumption) ?obl ?oba ?_); (case obl => walk_at "ob_sq"); (case oba => first | exact rfl | exact at_zero))
  | ((with_reducible refine' rw_ixT (v := ?_) (xs := ?_) (by assumption) ?obl ?oba ?_); (case obl => walk_at "ob_sq"); (case oba => first | exact rfl | exact at_zero))
  | ((with_reducible refine' ew_lst (by assumption) ?_))
  | ((with_reducible refine' ew_tup (by assumption) ?_)))
local macro_rules | `(tactic| walk_at "ob_len") => `(tactic| first | exact Nat.le_of_ble_eq_true rfl | (simp; done) | omega)
local macro_rules | `(tactic| walk_at "ob") => `(tactic| repeat walk_at "ob1")
theorem extN_sqT {F G : Hp} (g : ExtN F G) {K a xs} (h : SqT K F a xs) : SqT K G a xs := by
  rcases h with (h | ⟨o, h⟩) | h
  · exact Or.inl (Or.inl (g _ _ h (fun ps z => by cases z)))
  · exact Or.inl (Or.inr ⟨o, g _ _ h (fun ps z => by cases z)⟩)
  · exact Or.inr h
theorem extN_sqL {F G : Hp} (g : ExtN F G) {K a xs} (h : SqL K F a xs) : SqL K G a xs := by
  rcases h with (h | ⟨o, h⟩) | h
  · exact Or.inl (Or.inl (g _ _ h (fun ps z => by cases z)))
  · exact Or.inl (Or.inr ⟨o, g _ _ h (fun ps z => by cases z)⟩)
  · exact Or.inr h
mutual
theorem dp_extN {K : PySem.W.Frag} {F G : Hp} (g : ExtN F G) : ∀ {d : PyData} {v : V}, Dp K F v d → Dp K G v d
  | .none, _, h => by cases h; exact .non
  | .bool b, _, h => by cases h; exact .bl b
  | .int i, _, h => by cases h; exact .int i
  | .str x, _, h => by cases h; exact .str x
  | .list ds, _, h => by
    cases h with
    | lst hs ha => exact .lst (extN_sqL g hs) (dps_extN g ha)
  | .tuple ds, _, h => by
    cases h with
    | tup hs ha => exact .tup (extN_sqT g hs) (dps_extN g ha)
  | .dict _, _, h => by cases h
theorem dps_extN {K : PySem.W.Frag} {F G : Hp} (g : ExtN F G) : ∀ {ds : List PyData} {vs : List V}, DpAll K F vs ds → DpAll K G vs ds
  | [], _, h => by cases h; exact .nil
  | d :: ds, _, h => by
    cases h with
    | cons h1 h2 => exact .cons (dp_extN g h1) (dps_extN g h2)
end
theorem lamO_ne {f : Addr} {F : LF} (ps : Array Value) : LamO f F ≠ .tbl ps := fun z => by
  unfold LamO at z
  cases z
theorem Fun.okC {P : Program} {w : World} {K : PySem.W.Frag} {mg : Str → Option Value} {base : Heap} {x qual : Str} {st : Stmt} {f : Addr} {fd : FuncData} {N ps : List Str} {k : Nat} {sp : Sp} (F : Fun K x qual st f fd) (S : FnScope N ps (defScope st)) (len : ∀ vs H Q E, sp vs H Q E → vs.length = ps.length)
    (hbody : ∀ (cdv : Value) (_ : fd.code = cdv) (A : Around) (outer : List Env) (s : Shared) (H : Hp) (vs : List V) (Q : VK) (E : XK), Room k (A.deeper (envOfC qual (defScope st) s.heap.objs.size f cdv)) → sp vs H Q E →
      ∃ t, PSs (cxOf CX0 P w K mg base N qual (defScope st) f cdv A outer s H E).nox (defBody st) t ∧ t { nx := fun _ H' => Q .non H', rt := Q } (start N vs) H) : FnOk P w K mg base CX0 (k + 1) f fd ps sp := by
  obtain ⟨oc, od, kV, doc, pm, an, cdv, ct, osl, rfl, lk, hcd⟩ := F.ex
  refine fn_of lk hcd S len fun A outer s H vs Q E hr hsp => ?_
  obtain ⟨t, h, q⟩ := hbody cdv rfl A outer s H vs Q E hr hsp
  exact ⟨t, h.nox, q⟩
theorem nofree {p : Str × NameKind → Prop} {names : List (Str × NameKind)} (h : (names.all fun y => !decide (y.2 = .free)) = true) : ∀ y ∈ names, y.2 = .free → p y := fun y hy e => by
  have := List.all_eq_true.mp h y hy
  rw [e] at this
  cases this

/-! ### _law_goes -/
def aGoes (K : PySem.W.Frag) : List V → Hp → VK → Prop := fun vs F R => ∃ (v : V) (n : Int) (ss : List Stp), vs = [v, .int n] ∧ Dp K F v (macD ss) ∧ 0 ≤ n ∧ ((needS ss).1 ≤ n → R (.int (n - (needS ss).2)) F) ∧ (n < (needS ss).1 → R .non F)
theorem steps_at {ss : List Stp} {i : Nat} {st : Stp} (h : ss[i]? = some st) : (stepsN ss)[i]? = some (st.draw, st.draw - st.back) := by
  rw [stepsN, List.getElem?_map, h]
  rfl
theorem need_take {ss : List Stp} {n : Int} {i : Nat} {st : Stp} (h : ss[i]? = some st) (h1 : (needL ((stepsN ss).take i)).1 ≤ n) (h2 : (((stepsN ss).take i).map (·.2)).sum + st.draw ≤ n) : (needL ((stepsN ss).take (i + 1))).1 ≤ n := by
  obtain ⟨h0, h1⟩ := (needL_le _ _).mp h1
  refine (needL_le _ _).mpr ⟨h0, fun j p hj => ?_⟩
  have hjl := (List.getElem?_eq_some_iff.mp hj).1
  rw [List.length_take] at hjl
  have hj2 : (stepsN ss)[j]? = some p := by
    rw [List.getElem?_take_of_lt (by omega)] at hj
    exact hj
  rw [List.take_take, Nat.min_eq_left (by omega)]
  by_cases e : j = i
  · subst e
    rw [steps_at h] at hj2
    cases hj2
    exact h2
  · have z := h1 j p (by rw [List.getElem?_take_of_lt (by omega)]; exact hj2)
    rw [List.take_take, Nat.min_eq_left (by omega)] at z
    exact z
theorem need_lt {ss : List Stp} {i : Nat} {st : Stp} (h : ss[i]? = some st) : (((stepsN ss).take i).map (·.2)).sum + st.draw ≤ (needS ss).1 := ((needL_le _ _).mp (Int.le_refl _)).2 i _ (steps_at h)
section
variable {P : Program} {w : World} {K : PySem.W.Frag} {mg : Str → Option Value} {base : Heap}

abbrev s__law_goes : Stmt := top 39
def N__law_goes : List Str := ["_law_steps", "_law_there", "_law_draw", "_law_long", "_law_back"]
theorem sc__law_goes : FnScope N__law_goes ["_law_steps", "_law_there"] (defScope s__law_goes) := ⟨rfl, rfl, rfl, by decide +kernel, rfl, by decide +kernel, by decide +kernel⟩
theorem ok__law_goes {f : Addr} {fd : FuncData}  (Fn : Fun K "_law_goes" "_law_goes" s__law_goes f fd) (B : Blt mg)  : FnOk P w K mg base CX0 1 f fd ["_law_steps", "_law_there"] (LS (aGoes K)) := by
  refine Fn.ok sc__law_goes (fun vs H Q E h => ?_) (fun cdv A outer s H vs Q E hr h => ?_)
  · obtain ⟨J, F, R, hd, j, h, _⟩ := h
    obtain ⟨v, n, ss, rfl, _⟩ := h
    rfl
  · have nd := sc__law_goes.nd
    obtain ⟨J, F, R, hd, j, h, q⟩ := h
    obtain ⟨v, n, ss, rfl, dv, hn, k1, k2⟩ := h
    refine ⟨_, (pss_cons (ps_for PassesOwn.never rfl (pi_tup (pv 0)) (pg_tup rfl (pgs_cons (pg_name (i := 2) nd rfl (Or.inl rfl)) (pgs_cons (pg_name (i := 3) nd rfl (Or.inl rfl)) (pgs_cons (pg_name (i := 4) nd rfl (Or.inl rfl)) pgs_nil)))) (pss_cons (ps_if (pt_cmpR op_gt (pv 2) (pv 1) (nomark _)) (pss_one (ps_ret pe_non)) pss_nil)
      (pss_one (ps_set (i := 1) nd rfl (Or.inl rfl) (pe_op op_add (pe_op op_sub (pv 1) (pv 2)) (pv 4))))))
      (pss_one (ps_ret (pv 1)))), ?_⟩
    refine LS.body j q ?_
    obtain ⟨sa, ys, rfl, ly, dys⟩ := dp_tup dv
    have hyl : ys.length = ss.length := by have := dps_len dys; simpa using this
    refine sw_seq ?_
    refine sw_mid (fun σ _ G => (∃ (x2 x3 x4 : Option V), σ = [some (.ref sa), some (.int (n - (needS ss).2)), x2, x3, x4]) ∧ F = G ∧ (needS ss).1 ≤ n) ?_ ?_
    · refine sw_forT hd (ew_var rfl ?_)
      refine ⟨sa, ys, fun i σ _ G => (∃ (x2 x3 x4 : Option V), σ = [some (.ref sa), some (.int (n - (((stepsN ss).take i).map (·.2)).sum)), x2, x3, x4]) ∧ F = G ∧ (needL ((stepsN ss).take i)).1 ≤ n, rfl, ly, ⟨⟨none, none, none, by simp; rfl⟩, rfl, hn⟩, ?_, ?_, ?_⟩
      · rintro i σ _ G hi ⟨_, rfl, _⟩
        exact ly
      · rintro i x σ _ G hi ⟨⟨x2, x3, x4, rfl⟩, rfl, hle⟩
        obtain ⟨d, hd1, hd2⟩ := dps_get' dys hi
        rw [List.getElem?_map] at hd1
        obtain ⟨st, hst, rfl⟩ := Option.map_eq_some_iff.mp hd1
        obtain ⟨ta, zs, rfl, lz, dzs⟩ := dp_tup hd2
        obtain ⟨v1, v2, v3, rfl, e1, e2, e3⟩ := dps3 dzs
        cases dp_int e1
        cases dp_int e2
        cases dp_int e3
        refine gw_tup hd ⟨ta, _, rfl, lz, rfl, gsw_cons (gw_name (gsw_cons (gw_name (gsw_cons (gw_name (gsw_nil ?_))))))⟩
        have hlt := need_lt hst
        refine sw_seq (sw_if (tw_test (ew_op (ew_var rfl (ew_var rfl (rw_I0 ⟨_, rfl, fun hb => ?_, fun hb => sw_next ?_⟩))))))
        · exact sw_ret (ew_c (k2 (by have := of_decide_eq_true hb; omega)))
        · have hb' := of_decide_eq_false hb
          refine sw_asg (ew_op (ew_op (ew_var rfl (ew_var rfl (rw_I0 (ew_var rfl (rw_I0 (gw_name ?_))))))))
          refine ⟨⟨some (.int st.draw), some (.int st.long), some (.int st.back), ?_⟩, rfl, need_take hst hle (by omega)⟩
          have e9 : n - (((stepsN ss).take (i + 1)).map (·.2)).sum = n - (((stepsN ss).take i).map (·.2)).sum - st.draw + st.back := by
            rw [List.take_succ, steps_at hst, List.map_append, List.sum_append]
            simp
            omega
          rw [e9]
          rfl
      · rintro σ _ G ⟨⟨x2, x3, x4, rfl⟩, rfl, hle⟩
        have hsl : (stepsN ss).length = ys.length := by rw [stepsN, List.length_map, hyl]
        have e : (stepsN ss).take ys.length = stepsN ss := by rw [← hsl, List.take_length]
        rw [e] at hle
        refine ⟨⟨x2, x3, x4, ?_⟩, rfl, hle⟩
        rw [e, needS, needL_snd]
    · rintro σ _ G ⟨⟨x2, x3, x4, rfl⟩, rfl, hle⟩
      exact sw_ret (ew_var rfl (k1 hle))

end
theorem maxZ_snoc (ns : List Int) (x : Int) : maxZ (ns ++ [x]) = if x > maxZ ns then x else maxZ ns := by
  unfold maxZ
  rw [List.foldl_append]
  show max (ns.foldl max 0) x = _
  split <;> omega
def lackS (ss : List Stp) : Int := (ss.map fun st => st.draw - st.back).sum
theorem lacks_eq (w : Wld) : lacksF w = 0 - w.start + (w.ms.map lackS).sum := by
  have h : ∀ ms : List (List Stp), (ms.flatMap fun ss => ss.map fun st => st.draw - st.back).sum = (ms.map lackS).sum := by
    intro ms
    induction ms with
    | nil => rfl
    | cons a l ih =>
      rw [List.flatMap_cons, List.sum_append, ih, List.map_cons, List.sum_cons]
      rfl
  unfold lacksF
  rw [h]
  omega
theorem need_small {w : Wld} (hw : WldOk w) {ss : List Stp} (h : ss ∈ w.ms) : 0 ≤ (needS ss).1 ∧ (needS ss).1 < 700 := by
  have h1 := (needL_bounds (stepsN_ok (hw.st ss h))).2.2
  have h2 := sum_le (c := 99) ((stepsN ss).map (·.1)) fun x hx => by
    obtain ⟨p, hp, rfl⟩ := List.mem_map.mp hx
    obtain ⟨st, hst, rfl⟩ := List.mem_map.mp hp
    have := (hw.st ss h st hst).d1
    have := hw.c1
    show st.draw ≤ 99
    omega
  have h3 := hw.n ss h
  rw [List.length_map, stepsN, List.length_map] at h2
  have h4 := needL_ge0 (stepsN ss)
  unfold needS
  unfold stepsN at h1 h4 ⊢
  omega
def duo (nd i : Nat) : List V := (List.range (i - nd)).map fun t => V.int ((nd + t : Nat) : Int)
theorem duo_hit {nd i : Nat} (h : nd ≤ i) : duo nd (i + 1) = duo nd i ++ [V.int ((i : Nat) : Int)] := by
  unfold duo
  rw [show i + 1 - nd = (i - nd) + 1 by omega, List.range_succ, List.map_append]
  show _ ++ [V.int ((nd + (i - nd) : Nat) : Int)] = _
  rw [show nd + (i - nd) = i by omega]
theorem duo_miss {nd i : Nat} (h : i < nd) : duo nd (i + 1) = duo nd i := by
  unfold duo
  rw [show i + 1 - nd = 0 by omega, show i - nd = 0 by omega]
theorem duo_len {nd i : Nat} : (duo nd i).length ≤ i := by
  unfold duo
  rw [List.length_map, List.length_range]
  omega
theorem duo_head {nd i : Nat} (h : nd < i) : (duo nd i)[0]? = some (V.int ((nd : Nat) : Int)) := by
  unfold duo
  rw [List.getElem?_map, List.getElem?_range (by omega)]
  rfl
theorem duo_one {nd i : Nat} (h : nd < i) : (duo nd i).take 1 = [V.int ((nd : Nat) : Int)] := by
  have e := duo_head h
  cases hd : duo nd i with
  | nil => rw [hd] at e; cases e
  | cons a l => rw [hd] at e; cases e; rfl
theorem bRef_spec {l r : Int} (h0 : 0 ≤ r) (hl : l ≤ 2970) : (bRef l r = .non ∧ ∀ b : Nat, r * (b : Int) < l) ∨ (∃ b0 : Nat, b0 < 3000 ∧ bRef l r = .int (b0 : Int) ∧ ∀ b : Nat, l ≤ r * (b : Int) ↔ b0 ≤ b) := by
  unfold bRef
  by_cases c : l ≤ 0
  · rw [if_pos c]
    refine Or.inr ⟨0, by decide, rfl, fun b => ⟨fun _ => Nat.zero_le _, fun _ => ?_⟩⟩
    have := Int.mul_nonneg h0 (Int.natCast_nonneg b)
    omega
  rw [if_neg c]
  by_cases c2 : r = 0
  · rw [if_pos c2]
    refine Or.inl ⟨rfl, fun b => ?_⟩
    rw [c2, Int.zero_mul]
    omega
  rw [if_neg c2]
  have e := Int.mul_ediv_add_emod (l + r - 1) r
  have m0 := Int.emod_nonneg (l + r - 1) c2
  have m1 := Int.emod_lt_of_pos (l + r - 1) (by omega : 0 < r)
  generalize (l + r - 1) / r = q at e
  generalize (l + r - 1) % r = m at e m0 m1
  have hq1 : 1 ≤ q := by
    refine Int.not_lt.mp fun z => ?_
    have := Int.mul_le_mul_of_nonneg_left (show q ≤ 0 by omega) h0
    omega
  have hq2 : q ≤ l := by
    refine Int.not_lt.mp fun z => ?_
    have := Int.mul_le_mul_of_nonneg_left (show l + 1 ≤ q by omega) h0
    have h3 := Int.mul_le_mul_of_nonneg_right (show 1 ≤ r by omega) (show 0 ≤ l by omega)
    rw [Int.mul_add] at this
    omega
  refine Or.inr ⟨q.toNat, by omega, by rw [Int.toNat_of_nonneg (by omega)], fun b => ⟨fun z => ?_, fun z => ?_⟩⟩
  · refine Nat.not_lt.mp fun y => ?_
    have := Int.mul_le_mul_of_nonneg_left (show (b : Int) ≤ q - 1 by omega) h0
    rw [Int.mul_sub] at this
    omega
  · have := Int.mul_le_mul_of_nonneg_left (show q ≤ (b : Int) by omega) h0
    omega
theorem en_spec {l r : Int} (h0 : 0 ≤ r) (hl : l ≤ 2970) : ∃ en : Nat → List V, en 0 = [] ∧ (∀ t, (en t).length ≤ t) ∧ (∀ t : Nat, l ≤ r * (t : Int) → en (t + 1) = en t ++ [V.int ((t : Nat) : Int)]) ∧ (∀ t : Nat, ¬ l ≤ r * (t : Int) → en (t + 1) = en t) ∧
    ((en 3000 = [] ∧ bRef l r = .non) ∨ ∃ b0 : Nat, (en 3000).take 1 = [V.int ((b0 : Nat) : Int)] ∧ bRef l r = .int ((b0 : Nat) : Int)) := by
  rcases bRef_spec h0 hl with ⟨e, h⟩ | ⟨b0, hb, e, h⟩
  · exact ⟨fun _ => [], rfl, fun _ => Nat.zero_le _, fun t z => absurd z (by have := h t; omega), fun _ _ => rfl, Or.inl ⟨rfl, e⟩⟩
  · exact ⟨duo b0, by simp [duo], fun _ => duo_len, fun t z => duo_hit ((h t).mp z), fun t z => duo_miss (Nat.not_le.mp fun y => z ((h t).mpr y)), Or.inr ⟨b0, duo_one hb, e⟩⟩
theorem cut_to1 {xs : List V} : cutV xs none (some 1) = xs.take 1 := by
  unfold cutV
  rw [HT.sIx_none, show HT.sIx xs.length xs.length (some 1) = min 1 xs.length from HT.sIx_nat _ _ 1]
  cases xs with
  | nil => rfl
  | cons a l => simp
theorem en_take {en : List V} {b : V} (h : (en = [] ∧ b = .non) ∨ ∃ b0 : Nat, en.take 1 = [V.int ((b0 : Nat) : Int)] ∧ b = .int ((b0 : Nat) : Int)) : (en.take 1 = [] ∧ b = .non) ∨ ∃ b0 : Nat, en.take 1 = [V.int ((b0 : Nat) : Int)] ∧ b = .int ((b0 : Nat) : Int) := by
  rcases h with ⟨h, e⟩ | h
  · exact Or.inl ⟨by rw [h]; rfl, e⟩
  · exact Or.inr h
theorem eqv_one0 {b : Int} : PyData.eqv (.list [.int b]) (.list []) = false := rfl
theorem eqv_low7 {n : Nat} {d : PyData} (h : lowD n d = true) : PyData.eqv d d = true := SeqAt.eqv_refl d (lowD_ok n d h).1

/-! ### the law -/
def lamQ : Str := "law" ++ ".<locals>." ++ "<lambda>"
abbrev lamT (P : Addr) : List NTab := [(P, fun _ _ => lamQ)]
def aLaw (K : PySem.W.Frag) (Pt : Addr) : List V → Hp → VK → Prop := fun vs F R => ∃ (a : Addr) (ns : List Int), vs = [.ref a] ∧ SqL K F a (ns.map V.int) ∧ ns.length ≤ 63 ∧ F Pt = some (.tbl #[]) ∧ ∀ F', R (.bl true) F'
section
variable {P : Program} {w : World} {K : PySem.W.Frag} {mg : Str → Option Value} {base : Heap}

def N_law : List Str := ["_law_script", "_law_h", "_law_turn", "_law_world_here", "_law_cap", "_law_start", "_law_refill", "_law_machines", "_law_longest", "_law_lacks", "_law_k", "_law_total", "_law_draw", "_law_long", "_law_back", "_law_due", "_law_enough", "_law_far", "_law_works", "_law_there", "_law_beat", "_law_call"]
theorem sc_law : FnScope N_law ["_law_script"] (defScope s_law) := ⟨rfl, rfl, rfl, by decide +kernel, rfl, by decide +kernel, by decide +kernel⟩
theorem ok_law {f : Addr} {fd : FuncData} {f1 f2 f3 f4 f5 f6 f7 f8 : Addr} {fd1 fd2 fd3 fd4 fd5 fd6 fd7 fd8 : FuncData} {cBadCount cLaw Pt : Addr} (Fn : Fun K "law" "law" s_law f fd) (B : Blt mg) (C_law_mix : Cal K mg "_law_mix" f1 fd1 ["_law_script", "_law_seed"]) (G_law_mix : FnOk P w K mg base CX0 1 f1 fd1 ["_law_script", "_law_seed"] (LS (aMix K))) (C_law_world : Cal K mg "_law_world" f2 fd2 ["_law_h", "_law_most", "_law_cap"]) (G_law_world : FnOk P w K mg base CX0 2 f2 fd2 ["_law_h", "_law_most", "_law_cap"] (LN (aWorld K))) (C_law_next : Cal K mg "_law_next" f3 fd3 ["_law_h", "_law_many"]) (G_law_next : FnOk P w K mg base CX0 1 f3 fd3 ["_law_h", "_law_many"] (LN aNext)) (C_law_goes : Cal K mg "_law_goes" f4 fd4 ["_law_steps", "_law_there"]) (G_law_goes : FnOk P w K mg base CX0 1 f4 fd4 ["_law_steps", "_law_there"] (LS (aGoes K))) (C_law_alike : Cal K mg "_law_alike" f5 fd5 ["_law_found", "_law_due"]) (G_law_alike : FnOk P w K mg base CX0 3 f5 fd5 ["_law_found", "_law_due"] (LS (aAlike K 3))) (Cfloors : Cal K mg "floors" f6 fd6 ["world"]) (Gfloors : FnOk P w K mg base CX0 4 f6 fd6 ["world"] (LS (aFloors K))) (Cneed_of : Cal K mg "need_of" f7 fd7 ["world", "machine"]) (Gneed_of : FnOk P w K mg base CX0 4 f7 fd7 ["world", "machine"] (LS (aNeedOf K))) (Gneed_ofX : FnOk P w K mg base (L2.CX P w) 4 f7 fd7 ["world", "machine"] (LX (aNeedOfBad K cBadCount))) (C_law_kind : Cal K mg "_law_kind" f8 fd8 ["_law_call"]) (G_law_kind : GOk P w K mg base C8.CX0 (L2.CX P w) 6 5 f8 (kindT cBadCount)) (TB : TabB base mg cLaw Pt) (hcd : fd.code = .ref cLaw) : FnOk P w K mg base CX0 7 f fd ["_law_script"] (LS (aLaw K Pt)) := by
  refine Fun.okC Fn sc_law (fun vs H Q E h => ?_) (fun cdv hcdv A outer s H vs Q E hr h => ?_)
  · obtain ⟨J, F, R, hd, j, h, _⟩ := h
    obtain ⟨a, ns, rfl, _⟩ := h
    rfl
  · have nd := sc_law.nd
    obtain ⟨J, F, R, hd, j, h, q⟩ := h
    obtain ⟨a, ns, rfl, hl, hn, hPt, k⟩ := h
    have hcode0 : cdv = .ref cLaw := hcdv.symm.trans hcd
    subst hcode0
    have hcode : (cxOf CX0 P w K mg base N_law "law" (defScope s_law) f (.ref cLaw) A outer s H E).nox.env.code = .ref cLaw := rfl
    refine ⟨_, (pss_cons (ps_set (i := 1) nd rfl (Or.inl rfl) (pe_call G_law_mix (by exact hr.mono (by decide)) (by rfl) C_law_mix.g C_law_mix.k C_law_mix.a .nil pass0 (pa_cons (pv 0) (pa_cons pe_int pa_nil))))
      (pss_cons (ps_for PassesOwn.never rfl (pi_range1 rfl B.range (pa_cons pe_int pa_nil)) (pg_name (i := 2) nd rfl (Or.inl rfl)) (pss_cons (ps_set (i := 3) nd rfl (Or.inr rfl) (pe_call G_law_world (by exact hr.mono (by decide)) (by rfl) C_law_world.g C_law_world.k C_law_world.a .nil pass0 (pa_cons (pv 1) (pa_cons pe_int (pa_cons (pe_ix ix_list (pe_lst (pa_cons pe_int (pa_cons pe_int pa_nil))) (pe_call G_law_next (by exact hr.mono (by decide)) (by rfl) C_law_next.g C_law_next.k C_law_next.a .nil pass0 (pa_cons (pv 1) (pa_cons pe_int pa_nil))) (fun _ _ => rfl)) pa_nil)))))
      (pss_cons (ps_asg (pv 3) (pg_tup rfl (pgs_cons (pg_tup rfl (pgs_cons (pg_name (i := 4) nd rfl (Or.inl rfl)) (pgs_cons (pg_name (i := 5) nd rfl (Or.inl rfl)) (pgs_cons (pg_name (i := 6) nd rfl (Or.inr rfl)) pgs_nil)))) (pgs_cons (pg_name (i := 7) nd rfl (Or.inr rfl)) pgs_nil))))
      (pss_cons (ps_asg (pe_tup (pa_cons pe_int (pa_cons (pe_op op_sub pe_int (pv 5)) pa_nil))) (pg_tup rfl (pgs_cons (pg_name (i := 8) nd rfl (Or.inl rfl)) (pgs_cons (pg_name (i := 9) nd rfl (Or.inr rfl)) pgs_nil))))
      (pss_cons (ps_for PassesOwn.never rfl (pi_range1 rfl B.range (pa_cons (pe_callB call_len_seq (by rfl) B.len (by decide +kernel) (pa_cons (pv 7) pa_nil)) pa_nil)) (pg_name (i := 10) nd rfl (Or.inr rfl)) (pss_cons (ps_set (i := 11) nd rfl (Or.inl rfl) pe_int)
      (pss_cons (ps_for PassesOwn.never rfl (pi_tup (pe_ix ix_tup (pv 7) (pv 10) (fun _ _ => rfl))) (pg_tup rfl (pgs_cons (pg_name (i := 12) nd rfl (Or.inl rfl)) (pgs_cons (pg_name (i := 13) nd rfl (Or.inl rfl)) (pgs_cons (pg_name (i := 14) nd rfl (Or.inl rfl)) pgs_nil)))) (pss_one (ps_asg (pe_tup (pa_cons (pe_op op_add (pv 11) (pv 13)) (pa_cons (pe_op op_sub (pe_op op_add (pv 9) (pv 12)) (pv 14)) pa_nil))) (pg_tup rfl (pgs_cons (pg_name (i := 11) nd rfl (Or.inl rfl)) (pgs_cons (pg_name (i := 9) nd rfl (Or.inr rfl)) pgs_nil))))))
      (pss_cons (ps_set (i := 8) nd rfl (Or.inl rfl) (pe_callB (call_max2 rfl) (by rfl) B.max (by decide +kernel) (pa_cons (pv 8) (pa_cons (pv 11) pa_nil))))
      (pss_cons (ps_set (i := 15) nd rfl (Or.inl rfl) (pe_ix ix_list (pe_lc (own := [("_law_there", 19)]) (te := (tVar 19)) (tt := (tTest (tOp (fun x y H Q => y = .non ∧ Q (.bl (!decide (x = .non))) H) (tCall (LS (aGoes K)) [] E0 (tCons (tOp (rIxT K) (tVar 7) (tVar 10)) (tCons (tVar 19) tNil))) (tC .non)))) (by rfl) nd (pi_range1 rfl B.range (pa_cons pe_int pa_nil)) (blkOk_by (own := [("_law_there", 19)]) (N := N_law) (sc := defScope s_law) (by decide +kernel)) (fun _ _ _ _ _ => (pg_name (i := 19) nd rfl (Or.inl rfl))) (fun _ _ _ _ _ => pts_one (pt_cmpR op_notN (pe_call G_law_goes (by exact hr.mono (by decide)) (by rfl) C_law_goes.g C_law_goes.k C_law_goes.a .nil pass0 (pa_cons (pe_ix ix_tup (pv 7) (pv 10) (fun _ _ => rfl)) (pa_cons (pv 19) pa_nil))) pe_non (nomark _))) (fun _ _ _ _ _ => (pv 19))) pe_int (fun _ _ => rfl)))
      (pss_one (ps_if (pt_not (pt_val (pe_call G_law_alike (by exact hr.mono (by decide)) (by rfl) C_law_alike.g C_law_alike.k C_law_alike.a .nil pass0 (pa_cons (pe_call Gneed_of (by exact hr.mono (by decide)) (by rfl) Cneed_of.g Cneed_of.k Cneed_of.a .nil pass0 (pa_cons (pv 3) (pa_cons (pv 10) pa_nil))) (pa_cons (pe_tup (pa_cons (pv 15) (pa_cons (pe_op op_sub (pv 15) (pe_call G_law_goes (by exact hr.mono (by decide)) (by rfl) C_law_goes.g C_law_goes.k C_law_goes.a .nil pass0 (pa_cons (pe_ix ix_tup (pv 7) (pv 10) (fun _ _ => rfl)) (pa_cons (pv 15) pa_nil)))) pa_nil))) pa_nil))))) (pss_one (ps_ret pe_bl)) pss_nil)))))))
      (pss_cons (ps_set (i := 16) nd rfl (Or.inl rfl) (pe_slice sl_list (pe_lc (own := [("_law_beat", 20)]) (te := (tVar 20)) (tt := (tTest (tOp (rI0 fun i j => .bl (decide (j ≤ i))) (tOp (rI CMul fun i j => .int (i * j)) (tVar 6) (tVar 20)) (tVar 9)))) (by rfl) nd (pi_range1 rfl B.range (pa_cons pe_int pa_nil)) (blkOk_by (own := [("_law_beat", 20)]) (N := N_law) (sc := defScope s_law) (by decide +kernel)) (fun _ _ _ _ _ => (pg_name (i := 20) nd rfl (Or.inl rfl))) (fun _ _ _ _ _ => pts_one (pt_cmpR op_ge (pe_op op_mul (pv 6) (pv 20)) (pv 9) (nomark _))) (fun _ _ _ _ _ => (pv 20))) po_none (po_some pe_int)))
      (pss_cons (ps_if (pt_not (pt_val (pe_call G_law_alike (by exact hr.mono (by decide)) (by rfl) C_law_alike.g C_law_alike.k C_law_alike.a .nil pass0 (pa_cons (pe_call Gfloors (by exact hr.mono (by decide)) (by rfl) Cfloors.g Cfloors.k Cfloors.a .nil pass0 (pa_cons (pv 3) pa_nil)) (pa_cons (pe_tup (pa_cons (pv 8) (pa_cons (pe_ifExp (pt_cmpR (op_neD (by exact hr.units)) (pv 16) (pe_lst pa_nil) (nomark _)) (pe_ix ix_list (pv 16) pe_int (fun _ _ => rfl)) pe_non) pa_nil))) pa_nil))))) (pss_one (ps_ret pe_bl)) pss_nil)
      (pss_cons (ps_set (i := 17) nd rfl (Or.inr rfl) (pe_call G_law_next (by exact hr.mono (by decide)) (by rfl) C_law_next.g C_law_next.k C_law_next.a .nil pass0 (pa_cons (pv 1) (pa_cons (pe_ix ix_list (pe_lst (pa_cons pe_int (pa_cons (pe_op op_pow pe_int pe_int) pa_nil))) (pe_call G_law_next (by exact hr.mono (by decide)) (by rfl) C_law_next.g C_law_next.k C_law_next.a .nil pass0 (pa_cons (pv 1) (pa_cons pe_int pa_nil))) (fun _ _ => rfl)) pa_nil))))
      (pss_cons (ps_set (i := 18) nd rfl (Or.inl rfl) (pe_lst (pa_cons (pe_lamb (T := lamT Pt) (nm := fun _ _ => lamQ) TB hcode (List.mem_singleton_self _) (by rfl) (fun p hp hq => by rw [List.mem_singleton.mp hp]) (ndef_free (nsc := lamScope lam1) (sc := defScope s_law) (fr := ["_law_world_here", "_law_machines", "_law_far"]) (by decide +kernel)) (by rfl)) (pa_cons (pe_lambD (T := lamT Pt) (nm := fun _ _ => lamQ) TB hcode (List.mem_singleton_self _) (by rfl) (fun p hp hq => by rw [List.mem_singleton.mp hp]) (ndef_free (nsc := lamScope lam2) (sc := defScope s_law) (fr := ["_law_world_here", "_law_far"]) (by decide +kernel)) (by rfl) (by rfl) pe_int) pa_nil))))
      (pss_one (ps_if (pt_cmpR (op_neD (by exact hr.units)) (pe_kcomp rfl (pv 18) (by decide +kernel) (by rfl) (by decide +kernel) (nofree (by decide +kernel)) (by rfl) (by rfl) C_law_kind.g C_law_kind.k G_law_kind hr (Nat.le_refl _)) (pe_op op_rep (pe_lst (pa_cons (pe_tup (pa_cons pe_str (pa_cons pe_int pa_nil))) pa_nil)) pe_int) (nomark _)) (pss_one (ps_ret pe_bl)) pss_nil)))))))))))
      (pss_one (ps_ret pe_bl)))), ?_⟩
    refine LS.body j q ?_
    refine sw_seq (sw_asg (ew_call hd ?_))
    walk_at "ob"
    refine ⟨a, ns, 19, rfl, hl, by decide, by decide, fun m c hh m0 m1 hc hh0 hne => gw_name ?_⟩
    refine sw_hide hc hh0 hne m0 m1 hn (fun _ F => k F) ?_
    have hdj := hd.hj (h := hh) (c := c)
    have hT0 : TabsN (lamT Pt) F := fun p hp => by rw [List.mem_singleton.mp hp]; exact TabN.nil hPt
    refine sw_seq ?_
    refine sw_mid (fun σ _ G => (∃ (x2 x3 x4 x5 x6 x7 x8 x9 x10 x11 x12 x13 x14 x15 x16 x17 x18 x19 x20 x21 : Option V), σ = [some (.ref a), some (.ref hh), x2, x3, x4, x5, x6, x7, x8, x9, x10, x11, x12, x13, x14, x15, x16, x17, x18, x19, x20, x21]) ∧ TabsN (lamT Pt) G) ?_ ?_
    · refine sw_forR1 ?_
      walk_at "ob"
      refine ⟨8, fun i σ _ G => (∃ (x2 x3 x4 x5 x6 x7 x8 x9 x10 x11 x12 x13 x14 x15 x16 x17 x18 x19 x20 x21 : Option V), σ = [some (.ref a), some (.ref hh), x2, x3, x4, x5, x6, x7, x8, x9, x10, x11, x12, x13, x14, x15, x16, x17, x18, x19, x20, x21]) ∧ TabsN (lamT Pt) G, rfl, by decide, by decide, ⟨⟨_, _, _, _, _, _, _, _, _, _, _, _, _, _, _, _, _, _, _, _, rfl⟩, hT0⟩, ?_, ?_⟩
      · rintro i σ _ F2 hi ⟨⟨x2, x3, x4, x5, x6, x7, x8, x9, x10, x11, x12, x13, x14, x15, x16, x17, x18, x19, x20, x21, rfl⟩, hT⟩
        refine gw_name ?_
        refine sw_seq (sw_asg ?_)
        walk_at "ob"
        refine ⟨by decide, by decide, ?_⟩
        refine ew_op (ew_lst hdj ?_)
        walk_at "ob"
        refine ⟨by walk_at "ob_len", fun p1 hp1 => ?_⟩
        walk_at "ob"
        refine ⟨by decide, by decide, fun rr r0 r1 => ?_⟩
        obtain ⟨cap, hcap, c0, c1⟩ : ∃ cap : Int, atI [V.int 9, V.int 99] rr = some (V.int cap) ∧ 1 ≤ cap ∧ cap ≤ 99 := by
          have : rr = 0 ∨ rr = 1 := by omega
          rcases this with rfl | rfl
          · exact ⟨9, rfl, by decide, by decide⟩
          · exact ⟨99, rfl, by decide, by decide⟩
        refine rw_ixL hdj (SqL.of upd_same) hcap ?_
        have gp1 : Ex F2 (upd F2 p1 (.lst [V.int 9, V.int 99])) := Ex.new (.refl _) hp1
        refine ⟨cap, rfl, c0, c1, fun wv F3 wd g1 dw hw hwc hwn hws => gw_name ?_⟩
        have g23 := gp1.trans g1
        have hT3 : TabsN (lamT Pt) F3 := hT.ext fun b o e => g23 b o e
        obtain ⟨wa, wxs, rfl, lx, dxs⟩ := dp_tup dw
        obtain ⟨sv, mv, rfl, dsv, dmv⟩ := dps2 dxs
        obtain ⟨sa, ys, rfl, ly, dys⟩ := dp_tup dsv
        obtain ⟨v1, v2, v3, rfl, d1, d2, d3⟩ := dps3 dys
        cases dp_int d1
        cases dp_int d2
        cases dp_int d3
        obtain ⟨ma, zs, rfl, lz, dzs⟩ := dp_tup dmv
        have hzl : zs.length = wd.ms.length := by have := dps_len dzs; simpa using this
        have hm5 := hw.m
        refine sw_seq (sw_asg (ew_var rfl ?_))
        refine gw_tup hdj ⟨wa, _, rfl, lx, rfl, gsw_cons (gw_tup hdj ⟨sa, _, rfl, ly, rfl, gsw_cons (gw_name (gsw_cons (gw_name (gsw_cons (gw_name (gsw_nil ?_))))))⟩)⟩
        refine gsw_cons (gw_name (gsw_nil ?_))
        refine sw_seq (sw_asg ?_)
        walk_at "ob"
        refine ⟨by walk_at "ob_len", fun p2 hp2 => ?_⟩
        refine gw_tup hdj ⟨p2, _, rfl, SqT.of upd_same, rfl, gsw_cons (gw_name (gsw_cons (gw_name (gsw_nil ?_))))⟩
        have g34 : Ex F3 (upd F3 p2 (.tup [.int 0, .int (0 - wd.start)])) := Ex.new (.refl _) hp2
        generalize (upd F3 p2 (.tup [.int 0, .int (0 - wd.start)])) = F4 at g34 ⊢
        refine sw_seq ?_
        refine sw_mid (fun σ _ G => (∃ (x10 x11 x12 x13 x14 x15 : Option V), σ = [some (.ref a), some (.ref hh), some (.int i), some (.ref wa), some (.int wd.cap), some (.int wd.start), some (.int wd.refill), some (.ref ma), some (.int (longF wd)), some (.int (lacksF wd)), x10, x11, x12, x13, x14, x15, x16, x17, x18, x19, x20, x21]) ∧ Ex F4 G) ?_ ?_
        · refine sw_forR1 (aw_cons (ew_cb (aw_cons (ew_var rfl (aw_nil (cw_lenS hdj (Or.inr (g34.sqT lz)) (aw_nil ?_)))))))
          refine ⟨(zs.length : Int), fun j σ _ G => (∃ (x10 x11 x12 x13 x14 x15 : Option V), σ = [some (.ref a), some (.ref hh), some (.int i), some (.ref wa), some (.int wd.cap), some (.int wd.start), some (.int wd.refill), some (.ref ma), some (.int (maxZ ((wd.ms.take j).map longS))), some (.int (0 - wd.start + ((wd.ms.take j).map lackS).sum)), x10, x11, x12, x13, x14, x15, x16, x17, x18, x19, x20, x21]) ∧ Ex F4 G, rfl, by omega, by omega, ⟨⟨_, _, _, _, _, _, by rw [show 0 - wd.start + ((wd.ms.take 0).map lackS).sum = 0 - wd.start by simp]; rfl⟩, .refl _⟩, ?_, ?_⟩
          · rintro j σ _ G hj ⟨⟨x10, x11, x12, x13, x14, x15, rfl⟩, gG⟩
            have hjl : j < wd.ms.length := by omega
            obtain ⟨ss, hss⟩ : ∃ ss, wd.ms[j]? = some ss := ⟨_, List.getElem?_eq_getElem hjl⟩
            have hsm := List.mem_of_getElem? hss
            obtain ⟨xv, hxv, dxv⟩ := dps_get dzs (show (wd.ms.map macD)[j]? = some (macD ss) by rw [List.getElem?_map, hss]; rfl)
            obtain ⟨ta, us, rfl, lu, dus⟩ := dp_tup dxv
            have hul : us.length = ss.length := by have := dps_len dus; simpa using this
            refine gw_name (sw_seq (sw_asg (ew_c (gw_name ?_))))
            have g3G := g34.trans gG
            generalize hlk : 0 - wd.start + ((wd.ms.take j).map lackS).sum = lk
            generalize hlo : maxZ ((wd.ms.take j).map longS) = lo
            refine sw_seq ?_
            refine sw_mid (fun σ _ G2 => (∃ (x12 x13 x14 : Option V), σ = [some (.ref a), some (.ref hh), some (.int i), some (.ref wa), some (.int wd.cap), some (.int wd.start), some (.int wd.refill), some (.ref ma), some (.int lo), some (.int (lk + lackS ss)), some (.int (j : Int)), some (.int (longS ss)), x12, x13, x14, x15, x16, x17, x18, x19, x20, x21]) ∧ Ex G G2) ?_ ?_
            · refine sw_forT hdj (ew_op (ew_var rfl (ew_var rfl (rw_ixT hdj (g3G.sqT lz) (atI_nat hxv) ?_))))
              refine ⟨ta, us, fun i2 σ _ G2 => (∃ (x12 x13 x14 : Option V), σ = [some (.ref a), some (.ref hh), some (.int i), some (.ref wa), some (.int wd.cap), some (.int wd.start), some (.int wd.refill), some (.ref ma), some (.int lo), some (.int (lk + lackS (ss.take i2))), some (.int (j : Int)), some (.int (longS (ss.take i2))), x12, x13, x14, x15, x16, x17, x18, x19, x20, x21]) ∧ Ex G G2, rfl, g3G.sqT lu, ⟨⟨x12, x13, x14, by simp [lackS, longS]⟩, .refl _⟩, ?_, ?_, ?_⟩
              · rintro i2 σ _ G2 hi2 ⟨_, g2⟩
                exact (g3G.trans g2).sqT lu
              · rintro i2 x σ _ G2 hi2 ⟨⟨x12, x13, x14, rfl⟩, g2⟩
                obtain ⟨d, hd1, hd2⟩ := dps_get' dus hi2
                rw [List.getElem?_map] at hd1
                obtain ⟨st, hst, rfl⟩ := Option.map_eq_some_iff.mp hd1
                obtain ⟨tb, qs, rfl, lq, dqs⟩ := dp_tup (dp_ex (g3G.trans g2) hd2)
                obtain ⟨u1, u2, u3, rfl, e1, e2, e3⟩ := dps3 dqs
                cases dp_int e1
                cases dp_int e2
                cases dp_int e3
                refine gw_tup hdj ⟨tb, _, rfl, lq, rfl, gsw_cons (gw_name (gsw_cons (gw_name (gsw_cons (gw_name (gsw_nil ?_))))))⟩
                refine sw_asg ?_
                walk_at "ob"
                refine ⟨by walk_at "ob_len", fun p3 hp3 => ?_⟩
                refine gw_tup hdj ⟨p3, _, rfl, SqT.of upd_same, rfl, gsw_cons (gw_name (gsw_cons (gw_name (gsw_nil ?_))))⟩
                refine ⟨⟨some (.int st.draw), some (.int st.long), some (.int st.back), ?_⟩, Ex.new g2 hp3⟩
                have eA : longS (ss.take (i2 + 1)) = longS (ss.take i2) + st.long := by
                  unfold longS
                  rw [List.take_succ, hst, List.map_append, List.sum_append]
                  simp
                have eB : lk + lackS (ss.take (i2 + 1)) = lk + lackS (ss.take i2) + st.draw - st.back := by
                  unfold lackS
                  rw [List.take_succ, hst, List.map_append, List.sum_append]
                  simp
                  omega
                rw [eA, eB]
                rfl
              · rintro σ _ G2 ⟨⟨x12, x13, x14, rfl⟩, g2⟩
                rw [hul, List.take_length] at *
                exact ⟨⟨x12, x13, x14, rfl⟩, g2⟩
            rintro σ _ G2 ⟨⟨x12, x13, x14, rfl⟩, g2⟩
            have g3H := g3G.trans g2
            refine sw_seq (sw_asg ?_)
            walk_at "ob"
            have hnd := need_small hw hsm
            obtain ⟨nd, hndE⟩ : ∃ nd : Nat, (needS ss).1 = (nd : Int) := ⟨(needS ss).1.toNat, by omega⟩
            refine ew_lcR hdj (aw_cons (ew_c (aw_nil ?_)))
            refine ⟨700, rfl, by decide, by decide, fun Dl hDl => ?_⟩
            refine ⟨fun t acc _ G3 => G2 = G3 ∧ acc = duo nd t, ⟨rfl, by simp [duo]⟩, ?_, ?_, ?_⟩
            · rintro t acc _ G3 ht hg ⟨rfl, rfl⟩
              exact duo_len
            · rintro t acc _ G3 ht hg ⟨rfl, rfl⟩
              have hd' := hdj.jd (D := Dl) (acc := duo nd t)
              refine gw_name ⟨rfl, ?_⟩
              refine tw_test (ew_op (ew_call hd' (aw_cons (ew_op (ew_var rfl (ew_var rfl (rw_ixT hd' (g3H.sqT lz) (atI_nat hxv) (aw_cons (ew_var rfl (aw_nil ?_))))))))))
              refine ⟨.ref ta, (t : Int), ss, rfl, dp_ex g3H dxv, by omega, fun hle => ?_, fun hlt => ?_⟩
              · exact ew_c (rw_notN ⟨_, rfl, fun _ => ew_var rfl ⟨rfl, (duo_hit (by omega)).symm⟩, (fun z => by simp at z)⟩)
              · exact ew_c (rw_notN ⟨_, rfl, (fun z => by simp at z), fun _ => ⟨rfl, (duo_miss (by omega)).symm⟩⟩)
            rintro acc _ G3 hg ⟨rfl, rfl⟩
            have hd0 : (duo nd (Int.toNat 700))[0]? = some (V.int ((nd : Nat) : Int)) := duo_head (by have : Int.toNat 700 = 700 := rfl; omega)
            refine ew_c (rw_ixL hdj (SqL.of upd_same) (show atI _ 0 = some _ from atI_nat hd0) (gw_name ?_))
            have g3I : Ex F3 (upd G2 Dl (.lst (duo nd (Int.toNat 700)))) := g3H.trans (Ex.new (.refl _) hg)
            have gGI : Ex G (upd G2 Dl (.lst (duo nd (Int.toNat 700)))) := g2.trans (Ex.new (.refl _) hg)
            generalize (upd G2 Dl (.lst (duo nd (Int.toNat 700)))) = G4 at g3I gGI ⊢
            refine sw_if (tw_not (tw_B (ew_call hdj (aw_cons (ew_call hdj (aw_cons (ew_var rfl (aw_cons (ew_var rfl (aw_nil ?_))))))))))
            refine ⟨.ref wa, wd, j, ss, rfl, dp_ex g3I dw, hw, hss, fun q F5 g5 hq e => ?_⟩
            refine aw_cons (ew_tup hdj (aw_cons (ew_var rfl (aw_cons (ew_op (ew_var rfl (ew_call hdj (aw_cons (ew_op (ew_var rfl (ew_var rfl (rw_ixT hdj ((g3I.trans g5).sqT lz) (atI_nat hxv) (aw_cons (ew_var rfl (aw_nil ?_)))))))))))))))
            refine ⟨.ref ta, (nd : Int), ss, rfl, dp_ex (g3I.trans g5) dxv, by omega, fun hle => rw_I0 (aw_nil ⟨by walk_at "ob_len", fun p5 hp5 => aw_nil ?_⟩), fun hlt => absurd hlt (by omega)⟩
            have e2 : (nd : Int) - ((nd : Int) - (needS ss).2) = (needS ss).2 := by omega
            have g55 := Ex.new (.refl F5) hp5 (u := .tup [.int (nd : Int), .int ((nd : Int) - ((nd : Int) - (needS ss).2))])
            refine ⟨.ref q, .ref p5, .tuple [.int (needS ss).1, .int (needS ss).2], rfl, .tup (SqT.of (g55 _ _ e)) (.cons (.int _) (.cons (.int _) .nil)), .tup (SqT.of (show _ = some (HO.tup [V.int (needS ss).1, V.int (needS ss).2]) by rw [upd_same, hndE, e2])) (.cons (.int _) (.cons (.int _) .nil)), rfl, fun F6 g6 => ⟨_, rfl, (fun z => by cases z), fun _ => sw_next ?_⟩⟩
            have eL : maxZ ((wd.ms.take (j + 1)).map longS) = if longS ss > lo then longS ss else lo := by
              rw [List.take_succ, hss, List.map_append, ← hlo]
              exact maxZ_snoc _ _
            have eK : 0 - wd.start + ((wd.ms.take (j + 1)).map lackS).sum = lk + lackS ss := by
              rw [List.take_succ, hss, List.map_append, List.sum_append, ← hlk]
              simp
              omega
            exact ⟨⟨_, _, _, _, _, _, by rw [eL, eK]; rfl⟩, gG.trans (gGI.trans (g5.trans (g55.trans g6)))⟩
          · rintro σ _ G ⟨⟨x10, x11, x12, x13, x14, x15, rfl⟩, gG⟩
            refine ⟨⟨x10, x11, x12, x13, x14, x15, ?_⟩, gG⟩
            rw [Int.toNat_natCast, hzl, List.take_length, lacks_eq]
            rfl
        rintro σ _ G ⟨⟨x10, x11, x12, x13, x14, x15, rfl⟩, gG⟩
        have g3G := g34.trans gG
        obtain ⟨en, en0, enl, enY, enN, enE⟩ := en_spec hw.r0 (lacks_le hw)
        refine sw_seq (sw_asg (ew_slL hdj (ew_lcR hdj (aw_cons (ew_c (aw_nil ?_))))))
        refine ⟨3000, rfl, by decide, by decide, fun Dl hDl => ?_⟩
        refine ⟨fun t acc _ G3 => G = G3 ∧ acc = en t, ⟨rfl, en0.symm⟩, ?_, ?_, ?_⟩
        · rintro t acc _ G3 ht hg ⟨rfl, rfl⟩
          exact enl t
        · rintro t acc _ G3 ht hg ⟨rfl, rfl⟩
          have hd' := hdj.jd (D := Dl) (acc := en t)
          refine gw_name ⟨rfl, ?_⟩
          refine tw_test (ew_op (ew_op (ew_var rfl (ew_var rfl (rw_I (Or.inr ⟨by omega, by omega⟩) (ew_var rfl (rw_I0 ⟨_, rfl, fun hb => ?_, fun hb => ?_⟩)))))))
          · exact ew_var rfl ⟨rfl, (enY t (of_decide_eq_true hb)).symm⟩
          · exact ⟨rfl, (enN t (of_decide_eq_false hb)).symm⟩
        rintro acc _ G3 hg ⟨rfl, rfl⟩
        refine ow_none (ow_some (ew_c ⟨1, rfl, Dl, _, rfl, SqL.of upd_same, fun p6 hp6 => gw_name ?_⟩))
        rw [cut_to1]
        have enE' := en_take (show (en (Int.toNat 3000) = [] ∧ _) ∨ _ from enE)
        have g36 : Ex F3 (upd (upd G Dl (.lst (en (Int.toNat 3000)))) p6 (.lst ((en (Int.toNat 3000)).take 1))) := g3G.trans (Ex.new (Ex.new (.refl _) hg) hp6)
        have oE : (upd (upd G Dl (.lst (en (Int.toNat 3000)))) p6 (.lst ((en (Int.toNat 3000)).take 1))) p6 = some (.lst ((en (Int.toNat 3000)).take 1)) := upd_same
        generalize (upd (upd G Dl (.lst (en (Int.toNat 3000)))) p6 (.lst ((en (Int.toNat 3000)).take 1))) = G6 at g36 oE ⊢
        generalize (en (Int.toNat 3000)).take 1 = el at enE' oE
        refine sw_seq ?_
        refine sw_mid (fun σ _ G => (∃ (x8 x9 x10 x11 x12 x13 x14 x15 x16 : Option V), σ = [some (.ref a), some (.ref hh), some (.int i), some (.ref wa), some (.int wd.cap), some (.int wd.start), some (.int wd.refill), some (.ref ma), x8, x9, x10, x11, x12, x13, x14, x15, x16, x17, x18, x19, x20, x21]) ∧ Ex G6 G) ?_ ?_
        · refine sw_if (tw_not (tw_B (ew_call hdj (aw_cons (ew_call hdj (aw_cons (ew_var rfl (aw_nil ?_))))))))
          refine ⟨.ref wa, wd, rfl, dp_ex g36 dw, hw, fun q F7 g7 hq e => ?_⟩
          refine aw_cons (ew_tup hdj (aw_cons (ew_var rfl (aw_cons (ew_if (tw_test (ew_op (ew_var rfl (ew_lst hdj (aw_nil ?_))))))))))
          refine ⟨by walk_at "ob_len", fun p8 hp8 => ?_⟩
          have g78 := Ex.new (.refl F7) hp8 (u := .lst [])
          have oE8 := g78 _ _ (g7 _ _ oE)
          rcases enE' with ⟨rfl, eb⟩ | ⟨b0, rfl, eb⟩
          · have hlow : lowD 1 (.list []) = true := rfl
            refine rw_neD hdj (d := .list []) (e := .list []) (.lst (SqL.of oE8) .nil) (.lst (SqL.of upd_same) .nil) (shaped_low hlow) (shaped_low hlow) ?_
            rw [eqv_low7 hlow]
            refine ⟨_, rfl, (fun z => by cases z), fun _ => ew_c (aw_nil ⟨by walk_at "ob_len", fun p9 hp9 => aw_nil ?_⟩)⟩
            have g89 := Ex.new g78 hp9 (u := .tup [.int (longF wd), .non])
            rw [eb] at e
            refine ⟨.ref q, .ref p9, .tuple [.int (longF wd), .none], rfl, .tup (SqT.of (g89 _ _ e)) (.cons (.int _) (.cons .non .nil)), .tup (SqT.of upd_same) (.cons (.int _) (.cons .non .nil)), rfl, fun F8 g8 => ⟨_, rfl, (fun z => by cases z), fun _ => sw_next ?_⟩⟩
            exact ⟨⟨_, _, _, _, _, _, _, _, _, rfl⟩, g7.trans (g89.trans g8)⟩
          · have hlow : lowD 1 (.list [.int b0]) = true := rfl
            have hlow0 : lowD 1 (.list []) = true := rfl
            refine rw_neD hdj (d := .list [.int b0]) (e := .list []) (.lst (SqL.of oE8) (.cons (.int _) .nil)) (.lst (SqL.of upd_same) .nil) (shaped_low hlow) (shaped_low hlow0) ?_
            rw [eqv_one0]
            refine ⟨_, rfl, fun _ => ew_op (ew_var rfl (ew_c (rw_ixL hdj (SqL.of oE8) (show atI _ 0 = some _ from atI_nat (j := 0) rfl) ?_))), (fun z => by cases z)⟩
            refine aw_nil ⟨by walk_at "ob_len", fun p9 hp9 => aw_nil ?_⟩
            have g89 := Ex.new g78 hp9 (u := .tup [.int (longF wd), .int (b0 : Int)])
            rw [eb] at e
            refine ⟨.ref q, .ref p9, .tuple [.int (longF wd), .int (b0 : Int)], rfl, .tup (SqT.of (g89 _ _ e)) (.cons (.int _) (.cons (.int _) .nil)), .tup (SqT.of upd_same) (.cons (.int _) (.cons (.int _) .nil)), rfl, fun F8 g8 => ⟨_, rfl, (fun z => by cases z), fun _ => sw_next ?_⟩⟩
            exact ⟨⟨_, _, _, _, _, _, _, _, _, rfl⟩, g7.trans (g89.trans g8)⟩
        rintro σ _ F9 ⟨⟨x8, x9, x10, x11, x12, x13, x14, x15, x16, rfl⟩, g69⟩
        have g39 := g36.trans g69
        have hT9 : TabsN (lamT Pt) F9 := hT3.ext fun b o e => g39 b o e
        refine sw_seq (sw_asg ?_)
        walk_at "ob"
        refine ⟨by walk_at "ob_len", fun p3 hp3 => ?_⟩
        walk_at "ob"
        refine ⟨by decide, by decide, fun rr2 rr20 rr21 => ?_⟩
        obtain ⟨mf, hmf, mf0, mf1⟩ : ∃ mf : Int, atI [V.int 1, V.int (10 ^ Int.toNat 6)] rr2 = some (V.int mf) ∧ 0 < mf ∧ mf ≤ 1000000 := by
          have : rr2 = 0 ∨ rr2 = 1 := by omega
          rcases this with rfl | rfl
          · exact ⟨1, rfl, by decide, by decide⟩
          · exact ⟨1000000, rfl, by decide, by decide⟩
        refine rw_ixL hdj (SqL.of upd_same) hmf ?_
        refine ⟨mf, rfl, mf0, by omega, fun far far0 far1 => gw_name ?_⟩
        have gp3 := Ex.new (.refl F9) hp3 (u := .lst [V.int 1, V.int (10 ^ Int.toNat 6)])
        generalize (upd F9 p3 (.lst [V.int 1, V.int (10 ^ Int.toNat 6)])) = F10 at gp3 ⊢
        have hT10 : TabsN (lamT Pt) F10 := hT9.ext fun b o e => gp3 b o e
        obtain ⟨tb0, hPt10, _, _⟩ := (show TabN F10 Pt (fun _ _ => lamQ) from hT10 _ (List.mem_singleton_self _))
        have dW10 : Dp K F10 (.ref wa) (wldD wd) := dp_ex (g39.trans gp3) dw
        have dM10 : Dp K F10 (.ref ma) (.tuple (wd.ms.map macD)) := dp_ex (g39.trans gp3) (.tup lz dzs)
        refine sw_seq (sw_asg (ew_lst hdj (aw_cons (ew_lamb hdj hT10 hPt10 fun fa ca F11 st1 => ?_))))
        have hnm : ∀ q ∈ lamT Pt, q.1 = Pt → q.2 = fun _ _ => lamQ := fun q hq _ => by rw [List.mem_singleton.mp hq]
        obtain ⟨eN1, hT11, nf1, lf1, lc1⟩ := st1.facts (T := lamT Pt) (nm := fun _ _ => lamQ) (List.mem_singleton_self _) rfl hnm hT10
        obtain ⟨tb1, hPt11, _, _⟩ := (show TabN F11 Pt (fun _ _ => lamQ) from hT11 _ (List.mem_singleton_self _))
        refine aw_cons (ew_lambD hdj hT11 hPt11 fun td htd fb cb F12 st2 => ?_)
        have gtd := Ex.new (.refl F11) htd (u := .tup [.int 0])
        have hT11' : TabsN (lamT Pt) (upd F11 td (.tup [.int 0])) := hT11.ext fun b o e => gtd b o e
        obtain ⟨eN2, hT12, nf2, lf2, lc2⟩ := st2.facts (T := lamT Pt) (nm := fun _ _ => lamQ) (List.mem_singleton_self _) rfl hnm hT11'
        refine aw_nil ⟨by walk_at "ob_len", fun pl hpl => gw_name ?_⟩
        have gpl := Ex.new (.refl F12) hpl (u := .lst [.ref fa, .ref fb])
        have eN12 : ExtN F11 (upd F12 pl (.lst [.ref fa, .ref fb])) := (ExtN.of gtd).trans (eN2.trans (ExtN.of gpl))
        have eN : ExtN F10 (upd F12 pl (.lst [.ref fa, .ref fb])) := eN1.trans eN12
        have lamA : LamAt (upd F12 pl (.lst [.ref fa, .ref fb])) fa _ [] := ⟨eN12 _ _ lf1 lamO_ne, eN12 _ _ lc1 codeO_ne, fun t e => by cases e⟩
        have lamB : LamAt (upd F12 pl (.lst [.ref fa, .ref fb])) fb _ [.int 0] := ⟨gpl _ _ lf2, gpl _ _ lc2, fun t e => by cases e; exact gpl _ _ (eN2 _ _ upd_same (fun ps z => by cases z))⟩
        have hT13 : TabsN (lamT Pt) (upd F12 pl (.lst [.ref fa, .ref fb])) := hT12.ext fun b o e => gpl b o e
        have oL : (upd F12 pl (.lst [.ref fa, .ref fb])) pl = some (.lst [.ref fa, .ref fb]) := upd_same
        have dW13 := dp_extN eN dW10
        have dM13 := dp_extN eN dM10
        generalize (upd F12 pl (.lst [.ref fa, .ref fb])) = F13 at lamA lamB hT13 oL dW13 dM13 ⊢
        have hB1 : ndefB (defScope s_law) (lamScope lam1) ["_law_world_here", "_law_machines", "_law_far"] = true := by decide +kernel
        have hB2 : ndefB (defScope s_law) (lamScope lam2) ["_law_world_here", "_law_far"] = true := by decide +kernel
        refine sw_if (tw_test (ew_op (ew_kcomp hdj ?_)))
        walk_at "ob"
        refine ⟨pl, [.ref fa, .ref fb], rfl, SqL.of oL, (by simp), fun y hy => ?_, fun j y F14 hj g14 => ?_, fun F14 rs g14 hrl hrs D hD => ?_⟩
        · simp at hy
          rcases hy with rfl | rfl
          · exact ⟨_, rfl⟩
          · exact ⟨_, rfl⟩
        · have hbw1 : ∀ (js : List (Option V)), js = [some (.ref wa), some (.ref ma), some (.int far)] → bwWR1 K F14 js := fun js e => ⟨.ref wa, .ref ma, wd, far, e, dp_ex g14 dW13, dp_ex g14 dM13, hw, far0, by omega⟩
          have hbw2 : ∀ (js : List (Option V)), js = [some (.ref wa), some (.int far)] → bwWR2 K F14 js := fun js e => ⟨.ref wa, wd, far, e, dp_ex g14 dW13, hw, far0, by omega⟩
          match j, hj with
          | 0, hj =>
            cases hj
            exact ⟨fa, _, [], ["_law_world_here", "_law_machines", "_law_far"], [3, 7, 17], bwWR1 K, rfl, lamA.keep g14, fun ok => Caps.made (scope := lamScope lam1) ok (ndef_free hB1) (ndef_fr hB1) rfl, lamok1 B Cneed_of Gneed_ofX, hbw1 _ rfl⟩
          | 1, hj =>
            cases hj
            exact ⟨fb, _, [.int 0], ["_law_world_here", "_law_far"], [3, 17], bwWR2 K, rfl, lamB.keep g14, fun ok => Caps.made (scope := lamScope lam2) ok (ndef_free hB2) (ndef_fr hB2) rfl, lamok2 B Cneed_of Gneed_ofX, hbw2 _ rfl⟩
        have hrs2 : ∃ r1 r2, rs = [r1, r2] := by
          match rs, hrl with
          | [x, y], _ => exact ⟨x, y, rfl⟩
        obtain ⟨r1v, r2v, rfl⟩ := hrs2
        have d1 := hrs r1v (by simp)
        have d2 := hrs r2v (by simp)
        have gD := Ex.new (.refl F14) hD (u := .lst [r1v, r2v])
        refine ew_op (ew_lst hdj ?_)
        walk_at "ob"
        refine ⟨by walk_at "ob_len", fun p5 hp5 => aw_nil ⟨by walk_at "ob_len", fun p6 hp6 => ?_⟩⟩
        walk_at "ob"
        refine rw_rep hdj upd_same ⟨by decide, by decide⟩ (by show 1 * 2 ≤ 100000; decide) (fun p7 hp7 => ?_)
        have g57 := Ex.new (Ex.new (Ex.new (.refl _) hp5 (u := .tup [.str "count", .int 0])) hp6 (u := .lst [.ref p5])) hp7 (u := .lst (List.replicate (2 : Int).toNat [V.ref p5]).flatten)
        have dt : Dp K _ (.ref p5) cntD := dp_ex (Ex.new (Ex.new (.refl _) hp6 (u := .lst [.ref p5])) hp7 (u := .lst (List.replicate (2 : Int).toNat [V.ref p5]).flatten)) (.tup (SqT.of upd_same) (.cons (.str _) (.cons (.int _) .nil)))
        have hlow : lowD 2 (.list [cntD, cntD]) = true := by decide +kernel
        refine rw_neD hdj (d := .list [cntD, cntD]) (e := .list [cntD, cntD]) (.lst (SqL.of (g57 _ _ upd_same)) (dps_ex (gD.trans g57) (.cons d1 (.cons d2 .nil)))) (.lst (xs := [.ref p5, .ref p5]) (SqL.of upd_same) (.cons dt (.cons dt .nil))) (shaped_low hlow) (shaped_low hlow) ?_
        rw [eqv_low7 hlow]
        refine ⟨_, rfl, (fun z => by cases z), fun _ => sw_next ⟨⟨_, _, _, _, _, _, _, _, _, _, _, _, _, _, _, _, _, _, _, _, rfl⟩, ?_⟩⟩
        exact hT13.ext fun b o e => g57 _ _ (gD _ _ (g14 b o e))
      · rintro σ _ G ⟨⟨x2, x3, x4, x5, x6, x7, x8, x9, x10, x11, x12, x13, x14, x15, x16, x17, x18, x19, x20, x21, rfl⟩, hT⟩
        exact ⟨⟨_, _, _, _, _, _, _, _, _, _, _, _, _, _, _, _, _, _, _, _, rfl⟩, hT⟩
    · rintro σ _ G ⟨⟨x2, x3, x4, x5, x6, x7, x8, x9, x10, x11, x12, x13, x14, x15, x16, x17, x18, x19, x20, x21, rfl⟩, hT⟩
      refine sw_ret (ew_c ?_)
      rfl

end
end Obr
namespace Obr
open PySem PySem.Spec PyProof.Rows L2 LamX
/-- the def x, its code object, its table, still empty -/
def TabAt (x : Str) (mg : Str → Option Value) (h : Heap) : Prop := ∃ (a : Addr) (o : Obj) (fd : FuncData) (c P : Addr), mg x = some (.ref a) ∧ h.get? a = some o ∧ o.data = .func fd ∧ fd.code = .ref c ∧ PySem.W.CodeHd h c P ∧ h.get? P = some { cls := .none, data := .fields #[] }
theorem walk_ofTsG {l : PySem.W.OpenLaw} {n k : Nat} {q : Program} {loose : List Str} {XP : (Str → Option Value) → Heap → Prop} {YP : World → Heap → Prop} {d : DefRec} {CX : World → CXT} {x : Str}
    (hn : l.most = some n) (hn2 : n ≤ sizeLine) (hdf : d.params.defaults = []) (hr : Room k callerA) (hrec : ((recsOf q).any fun e => e.name == d.name) = true)
    (F : ∀ (w : World) (mg : Str → Option Value) (fa : Addr) (h : Heap), YP w h → h.Ns mainGlobals mg → mg d.name = some (.ref fa) → TabAt d.name mg h → ∃ K : PySem.W.Frag, K.In h ∧ LawAtS l w K (CX w) k n x mg fa h)
    (hCX : ∀ (w : World) (H : Hp) (s : Shared) (e : Value) (s' : Shared), CX w [] H s (fun _ _ _ => False) e s' → False) :
    PySem.W.WalkO q loose XP YP l.row.toRowW d [] (fun f vs => PySem.call f vs) := by
  refine Att.attach_callB hn hdf fun w s₀ s₁ mg mb fa o pm cd doc a vs ns G Y ho hd hcd hmg hobj hints hlen hbits hg => ?_
  have hT : TabAt d.name mg s₁.heap := by
    obtain ⟨dL, hm, hn1⟩ := List.any_eq_true.mp hrec
    have hn2 : dL.name = d.name := beq_iff_eq.mp hn1
    obtain ⟨a', o', fd', c', P', h1, h2, h3, h4, h5, h6⟩ := G.T.tab dL hm
    rw [hn2] at h1
    exact ⟨a', o', fd', c', P', h1, h2, h3, h4, PySem.W.CodeHd.of h5 h6, h6.2⟩
  obtain ⟨K, KX, fd, cs, sp, hT, nT, C, hb, hsp, hF⟩ := F w mg fa _ Y G.T.g hmg hT
  exact law_callTs KX G.T.g G.T.b G.T.builtins G.T.nolimit hg hT nT C G.T.bmain hobj hints (Nat.le_trans hlen hn2) hr hF hb (fun H hH hS => hsp H a ns hlen hbits hH hS) fun H e s' => hCX w H s₁ e s'
end Obr
namespace Obr
open PySem PySem.Spec PyProof.Rows L2
/-! ### the head: where each def stands -/
theorem funOf {K : PySem.W.Frag} {x qual : Str} {st : Stmt} {f : Addr} {fd : FuncData} (F : FunD K x qual (defArgs st) (defBody st) (defScope st) [] [] f fd) : Fun K x qual st f fd := by
  obtain ⟨oc, od, dV, kV, doc, pm, an, cdv, ct, osl, rfl, lk, hcd, hD, _⟩ := F.ex
  rcases hD with ⟨_, rfl⟩ | ⟨e, _⟩
  · exact ⟨⟨oc, od, kV, doc, pm, an, cdv, ct, osl, rfl, lk, hcd⟩, F.kp⟩
  · exact absurd rfl e
def dd (a : Str × Option Str) (x qual : Str) (st : Stmt) : He.DefD := ⟨a, x, qual, defArgs st, defBody st, defScope st, [], []⟩
def fn0 : List He.DefD := [dd ("check_world", none) "check_world" "check_world" (top 17), dd ("check_store", none) "check_store" "check_store" (top 18), dd ("check_steps", none) "check_steps" "check_steps" (top 19), dd ("is_step", none) "is_step" "is_step" (top 20), dd ("check_count", none) "check_count" "check_count" (top 21), dd ("floors", none) "floors" "floors" (top 26), dd ("beats_to_refill", none) "beats_to_refill" "beats_to_refill" (top 27), dd ("need_of", none) "need_of" "need_of" (top 29), dd ("need_of_steps", none) "need_of_steps" "need_of_steps" (top 30), dd ("need_in_line", none) "need_in_line" "need_in_line" (top 31), dd ("_law_mix", none) "_law_mix" "_law_mix" (top 33), dd ("_law_next", none) "_law_next" "_law_next" (top 34), dd ("_law_alike", none) "_law_alike" "_law_alike" (top 35), dd ("_law_world", none) "_law_world" "_law_world" (top 36), dd ("_law_rule", none) "_law_rule" "_law_rule" (top 37), dd ("_law_kind", none) "_law_kind" "_law_kind" (top 38), dd ("_law_goes", none) "_law_goes" "_law_goes" (top 39), dd ("law", none) "law" "law" (top 40)]
def fn : List He.DefD := fn0
def fa0 : List He.Fa := [.exc "BadCount", .exm "BadCount" "BreathError" true, .glo "BadStep", .glo "BadPlan", .glo "NoMachine", .glo "BadDeed", .glo "BadText", .glo "BadStore", .glo "BadRule", .glo "BadCount", .glo "TooMany", .glo "BreathError", .glo "check_world", .glo "check_store", .glo "check_steps", .glo "is_step", .glo "check_count", .glo "floors", .glo "beats_to_refill", .glo "need_of", .glo "need_of_steps", .glo "need_in_line", .glo "_law_mix", .glo "_law_next", .glo "_law_alike", .glo "_law_world", .glo "_law_rule", .glo "_law_kind", .glo "_law_goes", .glo "law"]
def fa1 : List He.Fa := [.free "len", .free "list", .free "tuple", .free "max", .free "min", .free "range", .free "sum", .free "sorted", .free "enumerate", .free "zip", .free "isinstance", .free "int", .free "str", .free "bool", .free "ValueError", .free "any", .free "divmod", .int "MOST_CAP" 99, .int "MOST_REFILL" 9, .int "MOST_MACHINES" 5, .int "MOST_STEPS" 6, .int "MOST_LONG" 9, .int "DRAW" 0, .int "LONG" 1, .int "BACK" 2]
def fa : List He.Fa := fa0 ++ fa1
def kitBx (K : PySem.W.Frag) : Bool := decide (PySem.W.kitOne K (.ref (He.ga K "BadCount")) (.ref (He.ga K "BadStep")) = some false) && decide (PySem.W.kitOne K (.ref (He.ga K "BadCount")) (.ref (He.ga K "BadPlan")) = some false) && decide (PySem.W.kitOne K (.ref (He.ga K "BadCount")) (.ref (He.ga K "NoMachine")) = some false) && decide (PySem.W.kitOne K (.ref (He.ga K "BadCount")) (.ref (He.ga K "BadDeed")) = some false) && decide (PySem.W.kitOne K (.ref (He.ga K "BadCount")) (.ref (He.ga K "BadText")) = some false) && decide (PySem.W.kitOne K (.ref (He.ga K "BadCount")) (.ref (He.ga K "BadStore")) = some false) && decide (PySem.W.kitOne K (.ref (He.ga K "BadCount")) (.ref (He.ga K "BadRule")) = some false) && decide (PySem.W.kitOne K (.ref (He.ga K "BadCount")) (.ref (He.ga K "BadCount")) = some true) && decide (PySem.W.kitOne K (.ref (He.ga K "BadCount")) (.ref (He.ga K "TooMany")) = some false) && decide (PySem.W.kitOne K (.ref (He.ga K "BadCount")) (.type "ValueError") = some true)
def excB (K : PySem.W.Frag) : Bool := He.eqO (PySem.W.findIn K (.ref (He.ga K "BadCount")) "__getattribute__") (some (some (.builtin "BaseException.__getattribute__"))) && He.eqO (PySem.W.findIn K (.ref (He.ga K "BadCount")) "__getattr__") (some none) && decide (PySem.W.subIn K (.ref (He.ga K "BadCount")) (.type "BaseException") = some true) && PySem.W.hasDictIn K (He.ga K "BadCount") && He.eqO (PySem.W.findIn K (.ref (He.ga K "BadCount")) "__class__") (some (some (.builtin "object.__class__"))) && He.eqO (PySem.W.specialIn K (.builtin "object.__class__") "__get__") (some (some (.builtin "getset_descriptor.__get__"))) && decide (PySem.W.takesIn K (.builtin "object.__class__") = some true) && decide (PySem.W.mroIn K (He.ga K "BadCount") (.type "object") = some true)
def tabB (K : PySem.W.Frag) : Bool := match K.lookup (He.ga K "law") with
  | some ⟨_, _, .func fd, _⟩ => (match fd.code with
    | .ref c => (match K.lookup c with
      | some ⟨_, _, .fields vs, _⟩ => (match vs[11]? with
        | some (Value.ref P) => (K.lookup P).isNone
        | _ => false)
      | _ => false)
    | _ => false)
  | _ => false
def exA (K : PySem.W.Frag) : Bool := true
def asC (g : Addr → Option Obj) (n : Nat) : List Addr := He.asD g n ++ [cStatics]
def tabOf (K : PySem.W.Frag) : Option Addr := match K.lookup (He.ga K "law") with
  | some ⟨_, _, .func fd, _⟩ => (match fd.code with
    | .ref c => (match K.lookup c with
      | some ⟨_, _, .fields vs, _⟩ => (match vs[11]? with
        | some (Value.ref P) => some P
        | _ => none)
      | _ => none)
    | _ => none)
  | _ => none
def asX (g : Addr → Option Obj) (n : Nat) : List Addr := match tabOf (He.frG g (asC g n)) with
  | some P => (asC g n).filter fun a => !Nat.beq a P
  | none => asC g n
def exB (K : PySem.W.Frag) : Bool := kitBx K && (excB K && (tabB K && (exA K)))
def hookY (n : Nat) (fa : List He.Fa) (fn : List He.DefD) (ex : PySem.W.Frag → Bool) : PySem.W.Hook where
  α := He.AlD × Bool
  obs := fun s => (He.obsD fa fn (He.frG s.heap.get? (asX s.heap.get? n)), ex (He.frG s.heap.get? (asX s.heap.get? n)))
  val := fun _ => (He.valD fn, true)
  says := fun _ h => ∃ K : PySem.W.Frag, K.In h ∧ He.SaysD fa fn K ∧ ex K = true
  of := fun _ _ e => ⟨_, He.frG_in, congrArg (fun z : He.AlD × Bool => z.1) e, congrArg (fun z : He.AlD × Bool => z.2) e⟩
  keeps := fun _ _ _ ⟨K, hK, c⟩ k => ⟨K, PySem.W.Frag.In.keeps hK k, c⟩
abbrev RR : PySem.W.OpenRow := PySem.W.OpenLaw.row PySem.Challenge.rw_onebreath_k07_floors_and_needs
abbrev hk : PySem.W.Hook := hookY 5 fa fn exB
def ob (s : PySem.W.SharedT) : He.AlD × Bool := (He.obsD fa fn (He.frG (HandSHeadRun.getT s) (asX (HandSHeadRun.getT s) 5)), exB (He.frG (HandSHeadRun.getT s) (asX (HandSHeadRun.getT s) 5)))
theorem ob_eq (s : PySem.W.SharedT) : ob s = hk.obs s.abs := by
  have e : HandSHeadRun.getT s = s.abs.heap.get? := funext (HandSHeadRun.getT_eq s)
  unfold ob
  rw [e] <;> rfl
def loose0 : List Str := ["BreathError", "BadStore", "BadStep", "BadRule", "BadCount", "BadPlan", "TooMany", "NoMachine", "BadDeed", "BadText", "MOST_CAP", "MOST_REFILL", "MOST_MACHINES", "MOST_STEPS", "MOST_LONG", "check_world", "check_store", "check_steps", "is_step", "check_count"]
def loose1 : List Str := ["DRAW", "LONG", "BACK", "floors", "beats_to_refill", "need_of", "need_of_steps", "need_in_line", "_law_mix", "_law_next", "_law_alike", "_law_world", "_law_rule", "_law_kind", "_law_goes"]
def loose : List Str := loose0 ++ loose1
theorem run (w : World) : HandSHeadRun.RunEq RR (PySem.W.view RR.prog [40]) hk ob 6000 loose w := by
  intro os
  kernel_rfl
theorem tab_none {K : PySem.W.Frag} {h : Heap} {fd : FuncData} {c Pt : Addr} {oc : Value} {od : Option Addr} {osl : Array (Option Value)} {cdv : Value} {q : Str} (xT : tabB K = true) (lk : K.lookup (He.ga K "law") = some ⟨oc, od, .func fd, osl⟩) (hcd : fd.code = .ref c) (_ : PySem.W.codeIn K cdv q = true) (X : K.In h) (C : PySem.W.CodeHd h c Pt) (_ : cdv = .ref c) : K.lookup Pt = none := by
  unfold tabB at xT
  rw [lk] at xT
  simp only [hcd] at xT
  obtain ⟨o, vs, _, _, _, _, _, _, _, ho, _, hd, hv, _⟩ := C
  split at xT
  · rename_i e1 e2 vs' e3 hk
    have g := X _ _ hk
    rw [ho] at g
    cases g
    cases hd
    rw [hv] at xT
    simpa using xT
  · cases xT
theorem facts {P : Program} {w : World} {K : PySem.W.Frag} {h : Heap} {mg : Str → Option Value} {f : Addr} (X : K.In h) (G : h.Ns mainGlobals mg) (hfa : mg ("law" : Str) = some (.ref f)) (c : He.SaysD fa fn K) (x : exB K = true) (hTab : TabAt "law" mg h) :
    ∃ (fd : FuncData) (cs : List (Addr × Addr)) (sp : Sp), (∀ p ∈ cs, h.get? p.2 = some { cls := .none, data := .fields #[] }) ∧ (∀ p ∈ cs, K.lookup p.2 = none) ∧ (∀ p ∈ cs, PySem.W.CodeHd h p.1 p.2) ∧ (∀ (s : Shared) (u : Value), BindsTo s fd ⟨[u], []⟩ [("_law_script", u)]) ∧
      (∀ (H : Hp) (a : Addr) (ns : List Int), ns.length ≤ 63 → (∀ z ∈ ns, Builtin.Int.intBits z ≤ 1048576) → (∀ p ∈ cs, H p.2 = some (.tbl #[])) → SqL K H a (ns.map V.int) → sp [.ref a] H (fun v _ => v = .bl true) fun _ _ _ => False) ∧
      ∀ base : Heap, K.In base → base.Ns mainGlobals mg → (∀ p ∈ cs, LamX.TabB base mg p.1 p.2) → FnOk P w K mg base CX0 7 f fd ["_law_script"] sp := by
  obtain ⟨fd_check_world, D_check_world⟩ := c.def_ 0 (d := dd ("check_world", none) "check_world" "check_world" (top 17)) rfl
  have b_check_world : Binds K fd_check_world ["world"] [] := FunD.bindsN (ps := ["world"]) D_check_world fun _ _ _ _ _ _ us hl => match us, hl with | [_], _ => rfl
  have g_check_world : mg "check_world" = some (.ref (He.ga K "check_world")) := He.glo_ok X G (c.fact 12 (f := .glo "check_world") rfl)
  have C_check_world : Cal K mg "check_world" (He.ga K "check_world") fd_check_world ["world"] := ⟨g_check_world, D_check_world.kp, b_check_world⟩
  obtain ⟨fd_check_store, D_check_store⟩ := c.def_ 1 (d := dd ("check_store", none) "check_store" "check_store" (top 18)) rfl
  have b_check_store : Binds K fd_check_store ["store"] [] := FunD.bindsN (ps := ["store"]) D_check_store fun _ _ _ _ _ _ us hl => match us, hl with | [_], _ => rfl
  have g_check_store : mg "check_store" = some (.ref (He.ga K "check_store")) := He.glo_ok X G (c.fact 13 (f := .glo "check_store") rfl)
  have C_check_store : Cal K mg "check_store" (He.ga K "check_store") fd_check_store ["store"] := ⟨g_check_store, D_check_store.kp, b_check_store⟩
  obtain ⟨fd_check_steps, D_check_steps⟩ := c.def_ 2 (d := dd ("check_steps", none) "check_steps" "check_steps" (top 19)) rfl
  have b_check_steps : Binds K fd_check_steps ["number", "steps", "cap"] [] := FunD.bindsN (ps := ["number", "steps", "cap"]) D_check_steps fun _ _ _ _ _ _ us hl => match us, hl with | [_, _, _], _ => rfl
  have g_check_steps : mg "check_steps" = some (.ref (He.ga K "check_steps")) := He.glo_ok X G (c.fact 14 (f := .glo "check_steps") rfl)
  have C_check_steps : Cal K mg "check_steps" (He.ga K "check_steps") fd_check_steps ["number", "steps", "cap"] := ⟨g_check_steps, D_check_steps.kp, b_check_steps⟩
  obtain ⟨fd_is_step, D_is_step⟩ := c.def_ 3 (d := dd ("is_step", none) "is_step" "is_step" (top 20)) rfl
  have b_is_step : Binds K fd_is_step ["step", "cap"] [] := FunD.bindsN (ps := ["step", "cap"]) D_is_step fun _ _ _ _ _ _ us hl => match us, hl with | [_, _], _ => rfl
  have g_is_step : mg "is_step" = some (.ref (He.ga K "is_step")) := He.glo_ok X G (c.fact 15 (f := .glo "is_step") rfl)
  have C_is_step : Cal K mg "is_step" (He.ga K "is_step") fd_is_step ["step", "cap"] := ⟨g_is_step, D_is_step.kp, b_is_step⟩
  obtain ⟨fd_check_count, D_check_count⟩ := c.def_ 4 (d := dd ("check_count", none) "check_count" "check_count" (top 21)) rfl
  have b_check_count : Binds K fd_check_count ["many", "least", "most"] [] := FunD.bindsN (ps := ["many", "least", "most"]) D_check_count fun _ _ _ _ _ _ us hl => match us, hl with | [_, _, _], _ => rfl
  have g_check_count : mg "check_count" = some (.ref (He.ga K "check_count")) := He.glo_ok X G (c.fact 16 (f := .glo "check_count") rfl)
  have C_check_count : Cal K mg "check_count" (He.ga K "check_count") fd_check_count ["many", "least", "most"] := ⟨g_check_count, D_check_count.kp, b_check_count⟩
  obtain ⟨fd_floors, D_floors⟩ := c.def_ 5 (d := dd ("floors", none) "floors" "floors" (top 26)) rfl
  have b_floors : Binds K fd_floors ["world"] [] := FunD.bindsN (ps := ["world"]) D_floors fun _ _ _ _ _ _ us hl => match us, hl with | [_], _ => rfl
  have g_floors : mg "floors" = some (.ref (He.ga K "floors")) := He.glo_ok X G (c.fact 17 (f := .glo "floors") rfl)
  have C_floors : Cal K mg "floors" (He.ga K "floors") fd_floors ["world"] := ⟨g_floors, D_floors.kp, b_floors⟩
  obtain ⟨fd_beats_to_refill, D_beats_to_refill⟩ := c.def_ 6 (d := dd ("beats_to_refill", none) "beats_to_refill" "beats_to_refill" (top 27)) rfl
  have b_beats_to_refill : Binds K fd_beats_to_refill ["lacks", "refill"] [] := FunD.bindsN (ps := ["lacks", "refill"]) D_beats_to_refill fun _ _ _ _ _ _ us hl => match us, hl with | [_, _], _ => rfl
  have g_beats_to_refill : mg "beats_to_refill" = some (.ref (He.ga K "beats_to_refill")) := He.glo_ok X G (c.fact 18 (f := .glo "beats_to_refill") rfl)
  have C_beats_to_refill : Cal K mg "beats_to_refill" (He.ga K "beats_to_refill") fd_beats_to_refill ["lacks", "refill"] := ⟨g_beats_to_refill, D_beats_to_refill.kp, b_beats_to_refill⟩
  obtain ⟨fd_need_of, D_need_of⟩ := c.def_ 7 (d := dd ("need_of", none) "need_of" "need_of" (top 29)) rfl
  have b_need_of : Binds K fd_need_of ["world", "machine"] [] := FunD.bindsN (ps := ["world", "machine"]) D_need_of fun _ _ _ _ _ _ us hl => match us, hl with | [_, _], _ => rfl
  have g_need_of : mg "need_of" = some (.ref (He.ga K "need_of")) := He.glo_ok X G (c.fact 19 (f := .glo "need_of") rfl)
  have C_need_of : Cal K mg "need_of" (He.ga K "need_of") fd_need_of ["world", "machine"] := ⟨g_need_of, D_need_of.kp, b_need_of⟩
  obtain ⟨fd_need_of_steps, D_need_of_steps⟩ := c.def_ 8 (d := dd ("need_of_steps", none) "need_of_steps" "need_of_steps" (top 30)) rfl
  have b_need_of_steps : Binds K fd_need_of_steps ["steps"] [] := FunD.bindsN (ps := ["steps"]) D_need_of_steps fun _ _ _ _ _ _ us hl => match us, hl with | [_], _ => rfl
  have g_need_of_steps : mg "need_of_steps" = some (.ref (He.ga K "need_of_steps")) := He.glo_ok X G (c.fact 20 (f := .glo "need_of_steps") rfl)
  have C_need_of_steps : Cal K mg "need_of_steps" (He.ga K "need_of_steps") fd_need_of_steps ["steps"] := ⟨g_need_of_steps, D_need_of_steps.kp, b_need_of_steps⟩
  obtain ⟨fd_need_in_line, D_need_in_line⟩ := c.def_ 9 (d := dd ("need_in_line", none) "need_in_line" "need_in_line" (top 31)) rfl
  have b_need_in_line : Binds K fd_need_in_line ["needs"] [] := FunD.bindsN (ps := ["needs"]) D_need_in_line fun _ _ _ _ _ _ us hl => match us, hl with | [_], _ => rfl
  have g_need_in_line : mg "need_in_line" = some (.ref (He.ga K "need_in_line")) := He.glo_ok X G (c.fact 21 (f := .glo "need_in_line") rfl)
  have C_need_in_line : Cal K mg "need_in_line" (He.ga K "need_in_line") fd_need_in_line ["needs"] := ⟨g_need_in_line, D_need_in_line.kp, b_need_in_line⟩
  obtain ⟨fd__law_mix, D__law_mix⟩ := c.def_ 10 (d := dd ("_law_mix", none) "_law_mix" "_law_mix" (top 33)) rfl
  have b__law_mix : Binds K fd__law_mix ["_law_script", "_law_seed"] [] := FunD.bindsN (ps := ["_law_script", "_law_seed"]) D__law_mix fun _ _ _ _ _ _ us hl => match us, hl with | [_, _], _ => rfl
  have g__law_mix : mg "_law_mix" = some (.ref (He.ga K "_law_mix")) := He.glo_ok X G (c.fact 22 (f := .glo "_law_mix") rfl)
  have C__law_mix : Cal K mg "_law_mix" (He.ga K "_law_mix") fd__law_mix ["_law_script", "_law_seed"] := ⟨g__law_mix, D__law_mix.kp, b__law_mix⟩
  obtain ⟨fd__law_next, D__law_next⟩ := c.def_ 11 (d := dd ("_law_next", none) "_law_next" "_law_next" (top 34)) rfl
  have b__law_next : Binds K fd__law_next ["_law_h", "_law_many"] [] := FunD.bindsN (ps := ["_law_h", "_law_many"]) D__law_next fun _ _ _ _ _ _ us hl => match us, hl with | [_, _], _ => rfl
  have g__law_next : mg "_law_next" = some (.ref (He.ga K "_law_next")) := He.glo_ok X G (c.fact 23 (f := .glo "_law_next") rfl)
  have C__law_next : Cal K mg "_law_next" (He.ga K "_law_next") fd__law_next ["_law_h", "_law_many"] := ⟨g__law_next, D__law_next.kp, b__law_next⟩
  obtain ⟨fd__law_alike, D__law_alike⟩ := c.def_ 12 (d := dd ("_law_alike", none) "_law_alike" "_law_alike" (top 35)) rfl
  have b__law_alike : Binds K fd__law_alike ["_law_found", "_law_due"] [] := FunD.bindsN (ps := ["_law_found", "_law_due"]) D__law_alike fun _ _ _ _ _ _ us hl => match us, hl with | [_, _], _ => rfl
  have g__law_alike : mg "_law_alike" = some (.ref (He.ga K "_law_alike")) := He.glo_ok X G (c.fact 24 (f := .glo "_law_alike") rfl)
  have C__law_alike : Cal K mg "_law_alike" (He.ga K "_law_alike") fd__law_alike ["_law_found", "_law_due"] := ⟨g__law_alike, D__law_alike.kp, b__law_alike⟩
  obtain ⟨fd__law_world, D__law_world⟩ := c.def_ 13 (d := dd ("_law_world", none) "_law_world" "_law_world" (top 36)) rfl
  have b__law_world : Binds K fd__law_world ["_law_h", "_law_most", "_law_cap"] [] := FunD.bindsN (ps := ["_law_h", "_law_most", "_law_cap"]) D__law_world fun _ _ _ _ _ _ us hl => match us, hl with | [_, _, _], _ => rfl
  have g__law_world : mg "_law_world" = some (.ref (He.ga K "_law_world")) := He.glo_ok X G (c.fact 25 (f := .glo "_law_world") rfl)
  have C__law_world : Cal K mg "_law_world" (He.ga K "_law_world") fd__law_world ["_law_h", "_law_most", "_law_cap"] := ⟨g__law_world, D__law_world.kp, b__law_world⟩
  obtain ⟨fd__law_rule, D__law_rule⟩ := c.def_ 14 (d := dd ("_law_rule", none) "_law_rule" "_law_rule" (top 37)) rfl
  have b__law_rule : Binds K fd__law_rule ["_law_h"] [] := FunD.bindsN (ps := ["_law_h"]) D__law_rule fun _ _ _ _ _ _ us hl => match us, hl with | [_], _ => rfl
  have g__law_rule : mg "_law_rule" = some (.ref (He.ga K "_law_rule")) := He.glo_ok X G (c.fact 26 (f := .glo "_law_rule") rfl)
  have C__law_rule : Cal K mg "_law_rule" (He.ga K "_law_rule") fd__law_rule ["_law_h"] := ⟨g__law_rule, D__law_rule.kp, b__law_rule⟩
  obtain ⟨fd__law_kind, D__law_kind⟩ := c.def_ 15 (d := dd ("_law_kind", none) "_law_kind" "_law_kind" (top 38)) rfl
  have b__law_kind : Binds K fd__law_kind ["_law_call"] [] := FunD.bindsN (ps := ["_law_call"]) D__law_kind fun _ _ _ _ _ _ us hl => match us, hl with | [_], _ => rfl
  have g__law_kind : mg "_law_kind" = some (.ref (He.ga K "_law_kind")) := He.glo_ok X G (c.fact 27 (f := .glo "_law_kind") rfl)
  have C__law_kind : Cal K mg "_law_kind" (He.ga K "_law_kind") fd__law_kind ["_law_call"] := ⟨g__law_kind, D__law_kind.kp, b__law_kind⟩
  obtain ⟨fd__law_goes, D__law_goes⟩ := c.def_ 16 (d := dd ("_law_goes", none) "_law_goes" "_law_goes" (top 39)) rfl
  have b__law_goes : Binds K fd__law_goes ["_law_steps", "_law_there"] [] := FunD.bindsN (ps := ["_law_steps", "_law_there"]) D__law_goes fun _ _ _ _ _ _ us hl => match us, hl with | [_, _], _ => rfl
  have g__law_goes : mg "_law_goes" = some (.ref (He.ga K "_law_goes")) := He.glo_ok X G (c.fact 28 (f := .glo "_law_goes") rfl)
  have C__law_goes : Cal K mg "_law_goes" (He.ga K "_law_goes") fd__law_goes ["_law_steps", "_law_there"] := ⟨g__law_goes, D__law_goes.kp, b__law_goes⟩
  obtain ⟨fd_law, D_law⟩ := c.def_ 17 (d := dd ("law", none) "law" "law" (top 40)) rfl
  have b_law : Binds K fd_law ["_law_script"] [] := FunD.bindsN (ps := ["_law_script"]) D_law fun _ _ _ _ _ _ us hl => match us, hl with | [_], _ => rfl
  have g_law : mg "law" = some (.ref (He.ga K "law")) := He.glo_ok X G (c.fact 29 (f := .glo "law") rfl)
  have C_law : Cal K mg "law" (He.ga K "law") fd_law ["_law_script"] := ⟨g_law, D_law.kp, b_law⟩
  have B : Blt mg := ⟨He.free_ok X G (c.fact 30 (f := .free "len") rfl), He.free_ok X G (c.fact 31 (f := .free "list") rfl), He.free_ok X G (c.fact 32 (f := .free "tuple") rfl), He.free_ok X G (c.fact 33 (f := .free "max") rfl), He.free_ok X G (c.fact 34 (f := .free "min") rfl), He.free_ok X G (c.fact 35 (f := .free "range") rfl), He.free_ok X G (c.fact 36 (f := .free "sum") rfl), He.free_ok X G (c.fact 37 (f := .free "sorted") rfl), He.free_ok X G (c.fact 38 (f := .free "enumerate") rfl), He.free_ok X G (c.fact 39 (f := .free "zip") rfl), He.free_ok X G (c.fact 40 (f := .free "isinstance") rfl), He.free_ok X G (c.fact 41 (f := .free "int") rfl), He.free_ok X G (c.fact 42 (f := .free "str") rfl), He.free_ok X G (c.fact 43 (f := .free "bool") rfl), He.free_ok X G (c.fact 44 (f := .free "ValueError") rfl)⟩
  have Bany : mg "any" = none := He.free_ok X G (c.fact 45 (f := .free "any") rfl)
  have Bdivmod : mg "divmod" = none := He.free_ok X G (c.fact 46 (f := .free "divmod") rfl)
  obtain ⟨xK, x0⟩ := He.ba x
  obtain ⟨xE, x0⟩ := He.ba x0
  obtain ⟨xT, x⟩ := He.ba x0
  obtain ⟨t_MOST_CAP, g_MOST_CAP⟩ := He.int_ok X G (c.fact 47 (f := .int "MOST_CAP" 99) rfl)
  obtain ⟨t_MOST_REFILL, g_MOST_REFILL⟩ := He.int_ok X G (c.fact 48 (f := .int "MOST_REFILL" 9) rfl)
  obtain ⟨t_MOST_MACHINES, g_MOST_MACHINES⟩ := He.int_ok X G (c.fact 49 (f := .int "MOST_MACHINES" 5) rfl)
  obtain ⟨t_MOST_STEPS, g_MOST_STEPS⟩ := He.int_ok X G (c.fact 50 (f := .int "MOST_STEPS" 6) rfl)
  obtain ⟨t_MOST_LONG, g_MOST_LONG⟩ := He.int_ok X G (c.fact 51 (f := .int "MOST_LONG" 9) rfl)
  obtain ⟨t_DRAW, g_DRAW⟩ := He.int_ok X G (c.fact 52 (f := .int "DRAW" 0) rfl)
  obtain ⟨t_LONG, g_LONG⟩ := He.int_ok X G (c.fact 53 (f := .int "LONG" 1) rfl)
  obtain ⟨t_BACK, g_BACK⟩ := He.int_ok X G (c.fact 54 (f := .int "BACK" 2) rfl)
  have e := hfa.symm.trans g_law
  cases e
  obtain ⟨a0, o0, fd0, cL, Pt, t1, t2, t3, t4, t5, t6⟩ := hTab
  rw [g_law] at t1
  cases t1
  have FL : Fun K "law" "law" s_law (He.ga K "law") fd_law := funOf D_law
  obtain ⟨oc, od, kV, doc, pm, an, cdv, ct, osl, efd, lk, hcdK⟩ := FL.ex
  have g1 := X _ _ lk
  rw [g1] at t2
  cases t2
  cases t3
  have hcd : fd_law.code = .ref cL := t4
  have ecd : cdv = .ref cL := by have z := t4; rw [efd] at z; exact z
  have nP : K.lookup Pt = none := tab_none xT lk hcd hcdK X t5 ecd
  refine ⟨fd_law, [(cL, Pt)], LS (aLaw K Pt), fun p hp => by rw [List.mem_singleton.mp hp]; exact t6, fun p hp => by rw [List.mem_singleton.mp hp]; exact nP, fun p hp => by rw [List.mem_singleton.mp hp]; exact t5, fun s v => FunD.bindsA (ps := ["_law_script"]) D_law (fun _ _ _ _ _ _ us hl => match us, hl with | [_], _ => rfl) s [v] rfl, ?_, fun base _ _ TBh => ?_⟩
  · exact fun H a ns hl _ hH hS => ⟨fun _ F H => F = H, H, fun v _ => v = .bl true, Obr.hid_eq, rfl, ⟨a, ns, rfl, hS, hl, hH (cL, Pt) (List.mem_singleton_self _), fun _ => rfl⟩, fun v F' H' e r => r⟩
  have G_next := ok_next (P := P) (w := w) (K := K) (mg := mg) (base := base) (funOf D__law_next) B
  have G_mix := ok_mix (P := P) (w := w) (K := K) (mg := mg) (base := base) (funOf D__law_mix) B
  have G_rule := ok_rule (P := P) (w := w) (K := K) (mg := mg) (base := base) (funOf D__law_rule) B C__law_next G_next
  have G_world := ok_world (P := P) (w := w) (K := K) (mg := mg) (base := base) (funOf D__law_world) B C__law_next G_next
  have G_need_in_line := ok_need_in_line (P := P) (w := w) (K := K) (mg := mg) (base := base) (funOf D_need_in_line) B
  have G_need_of_steps := ok_need_of_steps (P := P) (w := w) (K := K) (mg := mg) (base := base) (funOf D_need_of_steps) B C_need_in_line G_need_in_line
  have G_alike := ok_alike (P := P) (w := w) (K := K) (mg := mg) (base := base) (funOf D__law_alike) B C__law_alike 3
  have G_is_step := ok_is_step (P := P) (w := w) (K := K) (mg := mg) (base := base) (funOf D_is_step) B g_MOST_LONG
  have G_check_store := ok_check_store (P := P) (w := w) (K := K) (mg := mg) (base := base) (funOf D_check_store) B g_MOST_CAP g_MOST_REFILL
  have G_check_steps := ok_check_steps (P := P) (w := w) (K := K) (mg := mg) (base := base) (funOf D_check_steps) B g_MOST_STEPS C_is_step G_is_step
  have G_check_world := ok_check_world (P := P) (w := w) (K := K) (mg := mg) (base := base) (funOf D_check_world) B g_MOST_MACHINES C_check_store G_check_store C_check_steps G_check_steps
  have G_check_count := ok_check_count (P := P) (w := w) (K := K) (mg := mg) (base := base) (funOf D_check_count) B
  have G_need_of := ok_need_of (P := P) (w := w) (K := K) (mg := mg) (base := base) (funOf D_need_of) B C_check_world G_check_world C_need_of_steps G_need_of_steps C_check_count G_check_count
  have G_beats_to_refill := ok_beats_to_refill (P := P) (w := w) (K := K) (mg := mg) (base := base) (funOf D_beats_to_refill) B
  have G_floors := ok_floors (P := P) (w := w) (K := K) (mg := mg) (base := base) (funOf D_floors) B g_DRAW g_LONG g_BACK C_check_world G_check_world C_beats_to_refill G_beats_to_refill
  have G_goes := ok__law_goes (P := P) (w := w) (K := K) (mg := mg) (base := base) (funOf D__law_goes) B
  have gc_BadStep : mg "BadStep" = some (.ref (He.ga K "BadStep")) := He.glo_ok X G (c.fact 2 (f := .glo "BadStep") rfl)
  have gc_BadPlan : mg "BadPlan" = some (.ref (He.ga K "BadPlan")) := He.glo_ok X G (c.fact 3 (f := .glo "BadPlan") rfl)
  have gc_NoMachine : mg "NoMachine" = some (.ref (He.ga K "NoMachine")) := He.glo_ok X G (c.fact 4 (f := .glo "NoMachine") rfl)
  have gc_BadDeed : mg "BadDeed" = some (.ref (He.ga K "BadDeed")) := He.glo_ok X G (c.fact 5 (f := .glo "BadDeed") rfl)
  have gc_BadText : mg "BadText" = some (.ref (He.ga K "BadText")) := He.glo_ok X G (c.fact 6 (f := .glo "BadText") rfl)
  have gc_BadStore : mg "BadStore" = some (.ref (He.ga K "BadStore")) := He.glo_ok X G (c.fact 7 (f := .glo "BadStore") rfl)
  have gc_BadRule : mg "BadRule" = some (.ref (He.ga K "BadRule")) := He.glo_ok X G (c.fact 8 (f := .glo "BadRule") rfl)
  have gc_BadCount : mg "BadCount" = some (.ref (He.ga K "BadCount")) := He.glo_ok X G (c.fact 9 (f := .glo "BadCount") rfl)
  have gc_TooMany : mg "TooMany" = some (.ref (He.ga K "TooMany")) := He.glo_ok X G (c.fact 10 (f := .glo "TooMany") rfl)
  have gc_BreathError : mg "BreathError" = some (.ref (He.ga K "BreathError")) := He.glo_ok X G (c.fact 11 (f := .glo "BreathError") rfl)
  have XBadCount : XF K mg "BadCount" (He.ga K "BadCount") := let z := He.exc_ok (c.fact 0 (f := .exc "BadCount") rfl); ⟨z.1, gc_BadCount, z.2.1, z.2.2.1, z.2.2.2⟩
  have xm := He.exm_ok (c.fact 1 (f := .exm "BadCount" "BreathError" true) rfl)
  unfold kitBx at xK
  unfold excB at xE
  simp only [Bool.and_eq_true] at xK xE
  obtain ⟨⟨⟨⟨⟨⟨⟨⟨⟨k1, k2⟩, k3⟩, k4⟩, k5⟩, k6⟩, k7⟩, k8⟩, k9⟩, k10⟩ := xK
  obtain ⟨⟨⟨⟨⟨⟨⟨e1, e2⟩, e3⟩, e4⟩, e5⟩, e6⟩, e7⟩, e8⟩ := xE
  have XC : ExcC K (He.ga K "BadCount") := ⟨He.eqO_ok e1, He.eqO_ok e2, of_decide_eq_true e3, e4, He.eqO_ok e5, He.eqO_ok e6, of_decide_eq_true e7, of_decide_eq_true e8⟩
  have G_countX := okX_check_count (P := P) (w := w) (K := K) (mg := mg) (base := base) (funOf D_check_count) B XBadCount
  have G_need_ofX := okX_need_of (P := P) (w := w) (K := K) (mg := mg) (base := base) (funOf D_need_of) B C_check_world G_check_world C_check_count G_countX
  have G_kind := gok_kind (P := P) (w := w) (K := K) (mg := mg) (base := base) (kl := 5) (funOf D__law_kind) B C__law_kind gc_BadStep gc_BadPlan gc_NoMachine gc_BadDeed gc_BadText gc_BadStore gc_BadRule gc_BadCount gc_TooMany gc_BreathError (of_decide_eq_true k1) (of_decide_eq_true k2) (of_decide_eq_true k3) (of_decide_eq_true k4) (of_decide_eq_true k5) (of_decide_eq_true k6) (of_decide_eq_true k7) (of_decide_eq_true k8) (of_decide_eq_true k9) (of_decide_eq_true k10) xm XC
  exact ok_law (P := P) (w := w) (K := K) (mg := mg) (base := base) (funOf D_law) B C__law_mix G_mix C__law_world G_world C__law_next G_next C__law_goes G_goes C__law_alike G_alike C_floors G_floors C_need_of G_need_of G_need_ofX C__law_kind G_kind (TBh (cL, Pt) (List.mem_singleton_self _)) hcd
end Obr
open PySem PySem.W PySem.Calls PyProof.Rows
theorem PySem.Challenge.cw_onebreath_k07_floors_and_needs_holds : PySem.Challenge.rw_onebreath_k07_floors_and_needs.Holds := by
  w_on; o_law
  refine HandSHeadRun.head_any (r := OpenLaw.row PySem.Challenge.rw_onebreath_k07_floors_and_needs) (q := view (OpenLaw.row PySem.Challenge.rw_onebreath_k07_floors_and_needs).prog [40]) (H := Obr.hk) (ob := Obr.ob) (M := 6000) (loose := Obr.loose) (d := HandSHeadRun.topDef (OpenLaw.row PySem.Challenge.rw_onebreath_k07_floors_and_needs).prog 40) (kwd := []) Obr.ob_eq
    (by kernel_rfl) (fun s => by kernel_rfl) Obr.run (by kernel_rfl) (by kernel_rfl) (by kernel_rfl) (by rfl) (by first | assumption | decide +kernel) (by decide +kernel) ⟨rfl, rfl, rfl, rfl, rfl, by decide +kernel⟩ ?hw ?hc
  case hw => w_witness2
  case hc =>
    refine Obr.walk_ofTsG (l := PySem.Challenge.rw_onebreath_k07_floors_and_needs) (n := 63) (k := 7) (x := "_law_script") (CX := fun _ => L2.CX0) rfl (by decide) (by kernel_rfl) ⟨rfl, by decide, by decide⟩ (by kernel_rfl) ?F (fun _ _ _ _ _ z => z)
    intro w mg fa h Y G hmg0 hTab
    obtain ⟨K, KX, c, x⟩ := Y
    have e : (HandSHeadRun.topDef (OpenLaw.row PySem.Challenge.rw_onebreath_k07_floors_and_needs).prog 40).name = ("law" : PySem.Str) := by kernel_rfl
    rw [e] at hmg0 hTab
    exact ⟨K, KX, Obr.facts (P := (PySem.Challenge.rw_onebreath_k07_floors_and_needs).prog) (w := w) KX G hmg0 c x hTab⟩
